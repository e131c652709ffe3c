import PyProof.Rows.All
import Wide.All
import OpenK.AllK
import Wide.FinOn
import HandS.ForMost
import HandS.ForExc
import HandS.AnyAll
import HandS.GenBody
import HandS.IsInst
import HandS.TupAny
import HandS.Wide
import HandS.Codes
import HandS.Conv
import HandS.Text
import HandS.More
import HandS.HotCalls
import HandS.ExcIs
import HandS.ExcValue
import HandS.ExcCtx
import HandS.Walk
import HandS.SortInts
import HandS.SortKw
import HandS.EndTab
import HandS.NestedK
import PySem.Challenge.RW_comersline_k37_orders_refused
set_option Elab.async false
set_option linter.all false
set_option maxRecDepth 100000
set_option maxHeartbeats 1000000
namespace GE
open PySem PySem.Spec PyProof.Rows L2 GenW
open Sem (wp)

/-- what a consumer holds between two turns of a generator -/
structure Con (α : Type) where
  fp : List Addr
  at_ : α → Heap → Prop
structure ConOk {α : Type} (C : Con α) : Prop where
  obj : ∀ a h, C.at_ a h → ∀ b ∈ C.fp, ∃ o, h.get? b = some o ∧ ∀ v, o.data ≠ .cell v
  keep : ∀ a h h', C.at_ a h → (∀ b ∈ C.fp, ∀ o, h.get? b = some o → h'.get? b = some o) → C.at_ a h'
  inj : ∀ a b h, C.at_ a h → C.at_ b h → a = b
def conU : Con Unit := ⟨[], fun _ _ => True⟩
theorem conU_ok : ConOk conU := ⟨(fun _ _ _ b hb => nomatch hb), (fun _ _ _ _ _ => trivial), (fun _ _ _ _ _ => rfl)⟩

abbrev nones (n : Nat) : L2.St := List.replicate n none
theorem nones_some {n i : Nat} {v : V} (h : (nones n)[i]? = some (some v)) : False := by
  rw [List.getElem?_replicate] at h
  split at h <;> cases h

section
variable {α : Type}
def GI (Y : Cx) (C : Con α) (fpI : List Addr) (tn : Nat → Heap → Prop) (a : α) (i : Nat) (H : Hp) (s : Shared) : Prop :=
  Inv Y (pinsAt C.fp s.heap) (nones Y.N.length) H s ∧ C.at_ a s.heap ∧ tn i s.heap ∧ ∀ b ∈ fpI, H b = none
def GP (Y : Cx) (C : Con α) (fpI : List Addr) (tn : Nat → Heap → Prop) (Out : α → V → Hp → (α → Hp → Prop) → Prop) : Protocol := fun _ s₀ v s kap =>
  ∃ a i H y Nx, RelV y v ∧ GI Y C fpI tn a i H s ∧ Out a y H Nx ∧ (∀ b ∈ C.fp, ∀ o, s₀.heap.get? b = some o → s.heap.get? b = some o) ∧ ∀ a' s'', GI Y C fpI tn a' i H s'' → Nx a' H → kap (.send .none) s''
def GF (Y : Cx) (C : Con α) (Fin : α → Hp → Prop) : Nat → Shared → Shared → Prop := fun _ s₀ s₁ =>
  ∃ a H, Inv Y (pinsAt C.fp s₁.heap) (nones Y.N.length) H s₁ ∧ C.at_ a s₁.heap ∧ (∀ b ∈ C.fp, ∀ o, s₀.heap.get? b = some o → s₁.heap.get? b = some o) ∧ Fin a H
abbrev GRr (Y : Cx) (C : Con α) (Fin : α → Hp → Prop) : GenEnd := fun n s₀ r s₁ => r = .ok .next ∧ GF Y C Fin n s₀ s₁
def TurnOf (J : It) (n0 : Nat) (g : TG) (tt : TT) (te : TE) (Out : α → V → Hp → (α → Hp → Prop) → Prop) (Fin : α → Hp → Prop) (W : α → Nat → Nat → Hp → Prop) : Prop :=
  ∀ a i m H, W a i m H → (J.stop i H ∧ Fin a H) ∨ (J.go i H ∧ ∃ Nx : α → Hp → Prop, (∀ a' H', Nx a' H' → ∃ m', m' < m ∧ W a' (i + 1) m' H') ∧
    ∀ x H', J.yld i H x H' → g x (nones n0) H' fun σ2 H2 => tt σ2 H2 fun b H3 => if b = true then te σ2 H3 fun y H4 => Out a y H4 Nx else Nx a H3)

def GoOn (M : Model) (A : Around) (R : GenEnd) (P : Protocol) (gi : α → Shared → Prop) (nx : α → Prop) (gs1 : GenState) : Nat → Prop
  | 0 => ∀ a' s'', gi a' s'' → nx a' → False
  | n1 + 1 => ∀ a' s'', gi a' s'' → nx a' → gs1.Goes M A R P n1 (.send .none) s''
theorem over_loopG {A : Around} {elt tg iter : Expr} {ifs : List Expr} {scope : Scope} {pos : Pos} {it acc : Value} {env : Env} :
    A.over (.compLoop (.GeneratorExp elt [⟨tg, iter, ifs, 0⟩] scope pos) 0 it acc env) [] = A.deeper env := by
  first
    | rfl
    | (obtain ⟨hd, d, fr, gs, u⟩ := A; simp [Around.over, Around.deeper, marksOver, frameCount, unitsOf, envsOf, guardsOf, pushEnvs, pushGuards, Code.envs, Code.env?, Code.isFrame, Code.guards, Code.isGuard, Code.weight, Code.frames, Code.isCreation, Code.isCaller, Code.cUnits])
theorem over_startG {A : Around} {elt tg iter : Expr} {ifs : List Expr} {scope : Scope} {pos : Pos} {it acc : Value} {env : Env} :
    A.over (.compStart (.GeneratorExp elt [⟨tg, iter, ifs, 0⟩] scope pos) 0 it acc env) [] = A.deeper env := by
  first
    | rfl
    | (obtain ⟨hd, d, fr, gs, u⟩ := A; simp [Around.over, Around.deeper, marksOver, frameCount, unitsOf, envsOf, guardsOf, pushEnvs, pushGuards, Code.envs, Code.env?, Code.isFrame, Code.guards, Code.isGuard, Code.weight, Code.frames, Code.isCreation, Code.isCaller, Code.cUnits])

theorem Inv.gensG {X : Cx} {pins : List (Addr × Obj)} {σ : L2.St} {H : Hp} {s : Shared} (I : Inv X pins σ H s) {G : Array GenState} (h : AllBare G) : Inv X pins σ H { s with gens := G } :=
  ⟨I.ok, I.os, h, I.base, I.loc, I.cell, I.free, I.freeC, I.pin, I.hok, I.len⟩
theorem bare_setGen {s : Shared} {g : Nat} {x : GenState} (h : AllBare s.gens) (hx : x.bare = true) : AllBare (s.setGen g x).gens := by
  intro y hy
  show y.bare = true
  have hy : y ∈ s.gens.setIfInBounds g x := hy
  rcases Array.mem_or_eq_of_mem_setIfInBounds hy with h1 | h1
  · exact h y h1
  · rw [h1]; exact hx

section
variable {Y : Cx} {C : Con α} {tg elt iter : Expr} {ifs : List Expr} {scope : Scope} {pos : Pos} {J : It} {fpI : List Addr} {it : Addr} {tn : Nat → Heap → Prop} {g : TG} {tt : TT} {te : TE}
  {Out : α → V → Hp → (α → Hp → Prop) → Prop} {Fin : α → Hp → Prop} {W : α → Nat → Nat → Hp → Prop} {A : Around}
/-- the loop of a generator expression -/
theorem seg_loop (CO : ConOk C) (hcalm : Y.calm = true) (T : Turn Y.prog Y.w Y.K tg J fpI it tn) (hg : PG Y tg g) (ht : PTs Y ifs tt) (he : PE Y elt te) (hA : A.deeper Y.env = Y.A)
    (hex : ∀ b ∈ fpI, b ∈ Y.ex) (hdis : ∀ b ∈ C.fp, b ∉ fpI) (hpn : ∀ p ∈ Y.pn, p.1 ∉ fpI) (hxe : Y.xe = fun _ _ => False) (hco : Y.env.scope.isCoroutine = false) (turn : TurnOf J Y.N.length g tt te Out Fin W) :
    ∀ (m : Nat) (a : α) (i n : Nat) (H : Hp) (s₀ s : Shared), m < n → W a i m H → GI Y C fpI tn a i H s → (∀ b ∈ C.fp, ∀ o, s₀.heap.get? b = some o → s.heap.get? b = some o) →
      Seg (model Y.prog Y.w) A (GRr Y C Fin) (GP Y C fpI tn Out) n s₀ (.compLoop (.GeneratorExp elt [⟨tg, iter, ifs, 0⟩] scope pos) 0 (.ref it) .none Y.env)
        ((model Y.prog Y.w).den (.compLoop (.GeneratorExp elt [⟨tg, iter, ifs, 0⟩] scope pos) 0 (.ref it) .none Y.env)) [] s := by
  have ov : A.over (.compLoop (.GeneratorExp elt [⟨tg, iter, ifs, 0⟩] scope pos) 0 (.ref it) .none Y.env) [] = Y.A := over_loopG.trans hA
  have stat : ∀ {pins : List (Addr × Obj)} {σ' : L2.St} {H' : Hp} {s' : Shared}, Inv Y pins σ' H' s' → (∀ p ∈ pins, p.1 ∉ fpI) → (∀ b ∈ fpI, H' b = none) → ∀ b ∈ fpI, FpOk Y pins H' b := fun {pins σ' H' s'} I' hp hn b hb =>
    ⟨hn b hb, (I'.ok.exf b (hex b hb)).1, I'.ok.exfs b (hex b hb), .inl (hex b hb), fun x c e => (I'.ok.exf b (hex b hb)).2 x c e, fun p hp' z => (List.mem_append.mp hp').elim (fun q => hpn p q (z ▸ hb)) fun q => hp p q (z ▸ hb)⟩
  have pinN : ∀ h : Heap, ∀ p ∈ pinsAt C.fp h, p.1 ∉ fpI := fun h p hp => hdis p.1 (of_pinsAt hp).1
  intro m
  induction m using Nat.strongRecOn with
  | ind m ih =>
    intro a i n H s₀ s hmn hw hGI since
    obtain ⟨I, hat, st, hn0⟩ := hGI
    show Seg _ A _ _ n s₀ _ ((compTurn (.GeneratorExp elt [⟨tg, iter, ifs, 0⟩] scope pos) 0 (.ref it) .none Y.env).onRaise (leaving Y.env)) [] s
    rw [compTurn_gen, Sem.onRaise_eq_wrap]
    refine seg_bind_wrap (wpAny_standAt ?_)
    have sf := stat I (pinN s.heap) hn0
    rcases turn a i m H hw with ⟨stop, fin⟩ | ⟨go, Nx, hNx, step⟩
    · refine seg_bind_wrap ?_
      rw [ov]
      refine thnF (T.done Y rfl rfl rfl hcalm i _ s _ H (fun _ _ => False) I sf st stop) fun r s1 ⟨hr, I1⟩ => ?_
      subst hr
      have hk : ∀ b ∈ C.fp, ∀ o, s.heap.get? b = some o → s1.heap.get? b = some o := fun b hb o e => (I1.pin (b, o) (List.mem_append_right _ (mem_pinsAt hb e))).1
      refine seg_end (.ok .next) ⟨rfl, a, H, I1.pins_of fun p hp => ?_, CO.keep _ _ _ hat hk, fun b hb o e => hk b hb o (since b hb o e), fin⟩
      obtain ⟨hb, e⟩ := of_pinsAt hp
      obtain ⟨o, e2, _⟩ := CO.obj _ _ hat p.1 hb
      have e3 := hk p.1 hb o e2
      rw [e] at e3
      cases e3
      exact I1.pin (p.1, p.2) (List.mem_append_right _ (mem_pinsAt hb e2))
    · refine seg_bind_wrap ?_
      rw [ov]
      refine thnF (T.item Y rfl rfl rfl hcalm i _ s _ H (fun _ _ => False) I sf st go) fun r s1 ⟨u, hr, h1⟩ => ?_
      subst hr
      refine seg_bind_wrap ?_
      rw [ov]
      refine thnF h1 fun _ s2 ⟨x, H2, I2, r2, y2, st2, n2⟩ => ?_
      have I2' := I2.pinned (stat I2 (pinN s.heap) n2) (T.obj _ _ st2)
      refine seg_bind_wrap ?_
      rw [ov]
      have xf : ∀ {β : Type} {t : Sem β} {P P' : β → Shared → Prop} {E' : Value → Shared → Prop} {z : Shared}, wpAny (model Y.prog Y.w) Y.A t P Y.xe z → (∀ a s, P a s → P' a s) → wpAny (model Y.prog Y.w) Y.A t P' E' z := fun {β t P P' E' z} q hq => by
        rw [hxe] at q
        exact thnF q hq
      refine xf (hg.run _ s2 _ H2 x u _ I2' r2 (step x H2 y2)) fun _ s3 ⟨σ3, H3, I3, q3⟩ => ?_
      refine seg_bind_wrap ?_
      rw [ov]
      refine xf (ht.run _ s3 σ3 H3 _ I3 q3) fun ok s4 ⟨H4, I4, q4⟩ => ?_
      -- what stands at a turn's end
      have fin : ∀ {s' : Shared} {H' : Hp} {σ' : L2.St}, Inv Y (pinsAt C.fp s.heap ++ pinsAt fpI s2.heap) σ' H' s' →
          GI Y C fpI tn a (i + 1) H' s' ∧ ∀ b ∈ C.fp, ∀ o, s₀.heap.get? b = some o → s'.heap.get? b = some o := fun {s' H' σ'} I' => by
        have hk : ∀ b ∈ C.fp, ∀ o, s.heap.get? b = some o → s'.heap.get? b = some o := fun b hb o e => (I'.pin (b, o) (List.mem_append_right _ (List.mem_append_left _ (mem_pinsAt hb e)))).1
        have pin' : ∀ b ∈ fpI, ∀ o, s2.heap.get? b = some o → s'.heap.get? b = some o ∧ H' b = none := fun b hb o e =>
          let z := I'.pin (b, o) (List.mem_append_right _ (List.mem_append_right _ (mem_pinsAt hb e)))
          ⟨z.1, z.2.1⟩
        have I1 : Inv Y (pinsAt C.fp s'.heap) σ' H' s' := I'.pins_of fun p hp => by
          obtain ⟨hb, e⟩ := of_pinsAt hp
          obtain ⟨o, e2, _⟩ := CO.obj _ _ hat p.1 hb
          have e3 := hk p.1 hb o e2
          rw [e] at e3
          cases e3
          exact I'.pin (p.1, p.2) (List.mem_append_right _ (List.mem_append_left _ (mem_pinsAt hb e2)))
        refine ⟨⟨I1.weak (by rw [I1.len, List.length_replicate]) fun j v e => (nones_some e).elim, CO.keep _ _ _ hat hk, T.keep _ _ _ st2 fun b hb o e => (pin' b hb o e).1, fun b hb => ?_⟩, fun b hb o e => hk b hb o (since b hb o e)⟩
        obtain ⟨o, e, _⟩ := T.obj _ _ st2 b hb
        exact (pin' b hb o e).2
      cases ok with
      | false =>
        simp only [Bool.false_eq_true, if_false] at q4 ⊢
        obtain ⟨f1, f2⟩ := fin I4
        obtain ⟨m', hm', w'⟩ := hNx a H4 q4
        exact seg_again rfl (ih m' hm' a (i + 1) n H4 s₀ s4 (by omega) w' f1 f2)
      | true =>
        simp only [if_true] at q4 ⊢
        obtain ⟨n', rfl⟩ : ∃ n', n = n' + 1 := ⟨n - 1, by omega⟩
        have hy : ∀ v, yieldOut Y.env v = yieldValue v := fun v => by simp only [yieldOut, hco, Bool.false_eq_true, if_false]
        simp only [hy]
        rw [Sem.bind_eq_wrap', Sem.bind_eq_wrap', Sem.wrap_wrap, Sem.wrap_wrap]
        refine seg_wrap ?_
        rw [ov]
        refine xf (he.run _ s4 σ3 H4 _ I4 q4) fun y s5 ⟨yv, H5, I5, r5, o5⟩ => ?_
        obtain ⟨f1, f2⟩ := fin I5
        refine seg_at (seg_yield rfl rfl rfl ⟨a, i + 1, H5, yv, Nx, r5, f1, o5, f2, fun a' s'' hGI' hN' => ?_⟩)
        obtain ⟨m', hm', w'⟩ := hNx a' H5 hN'
        exact seg_again rfl (ih m' hm' a' (i + 1) n' H5 s'' s'' (by omega) w' hGI' fun _ _ _ e => e)

/-- .. and its start -/
theorem seg_start (CO : ConOk C) (hcalm : Y.calm = true) (T : Turn Y.prog Y.w Y.K tg J fpI it tn) (hg : PG Y tg g) (ht : PTs Y ifs tt) (he : PE Y elt te) (hA : A.deeper Y.env = Y.A)
    (hex : ∀ b ∈ fpI, b ∈ Y.ex) (hdis : ∀ b ∈ C.fp, b ∉ fpI) (hpn : ∀ p ∈ Y.pn, p.1 ∉ fpI) (hxe : Y.xe = fun _ _ => False) (hco : Y.env.scope.isCoroutine = false) (turn : TurnOf J Y.N.length g tt te Out Fin W)
    (m : Nat) (a : α) (n : Nat) (H : Hp) (s : Shared) (hm : m < n) (hw : W a 0 m H) (hGI : GI Y C fpI tn a 0 H s) :
      Seg (model Y.prog Y.w) A (GRr Y C Fin) (GP Y C fpI tn Out) n s (.compStart (.GeneratorExp elt [⟨tg, iter, ifs, 0⟩] scope pos) 0 (.ref it) .none Y.env)
        ((model Y.prog Y.w).den (.compStart (.GeneratorExp elt [⟨tg, iter, ifs, 0⟩] scope pos) 0 (.ref it) .none Y.env)) [] s := by
  have loop := seg_loop (iter := iter) (scope := scope) (pos := pos) CO hcalm T hg ht he hA hex hdis hpn hxe hco turn m a 0 n H s s hm hw hGI fun _ _ _ e => e
  show Seg _ A _ _ _ s _ ((compStart (.GeneratorExp elt [⟨tg, iter, ifs, 0⟩] scope pos) 0 (.ref it) .none Y.env).onRaise (leaving Y.env)) [] s
  unfold compStart
  rw [Sem.onRaise_eq_wrap]
  show Seg _ A _ _ _ s _ ((ask >>= _).wrap _ _ _ _) [] s
  refine seg_bind_wrap (wpAny_askSetting ?_)
  split
  · exact seg_again rfl loop
  · first
      | exact seg_bind_wrap (wpAny_rule (seg_bind_wrap (wpAny_standAt (seg_bind_wrap (T.self _ 0 s _ _ hGI.2.2.1 (seg_again rfl loop))))))
      | (refine seg_bind_wrap (wpAny_rule ?_); show Seg _ A _ _ _ s _ ((standAt iter.pos >>= _).wrap _ _ _ _) [] s; exact seg_bind_wrap (wpAny_standAt (seg_bind_wrap (T.self _ 0 s _ _ hGI.2.2.1 (seg_again rfl loop)))))

theorem repin {a : α} {h : Heap} {σ : L2.St} {H : Hp} {s' : Shared} (CO : ConOk C) (hat : C.at_ a h) (I : Inv Y (pinsAt C.fp h) σ H s') (hk : ∀ b ∈ C.fp, ∀ o, h.get? b = some o → s'.heap.get? b = some o) :
    Inv Y (pinsAt C.fp s'.heap) σ H s' := I.pins_of fun p hp => by
  obtain ⟨hb, e⟩ := of_pinsAt hp
  obtain ⟨o, e2, _⟩ := CO.obj _ _ hat p.1 hb
  have e3 := hk p.1 hb o e2
  rw [e] at e3
  cases e3
  exact I.pin (p.1, p.2) (List.mem_append_right _ (mem_pinsAt hb e2))

/-- one item of such a generator -/
theorem next_ge {A : Around} {ga : Addr} {go : Obj} {g i n : Nat} {gs : GenState} {a : α} {H : Hp} {Nx : α → Hp → Prop} {s : Shared} {Q : Option Value → Shared → Prop} {E : Value → Shared → Prop}
    (CO : ConOk C) (hh : A.handled = none) (hd : A.depth < recursionLimit) (hpn : (ga, go) ∈ Y.pn) (hgo : ∀ h : Heap, h.get? ga = some go → h.IsGen ga g) (hgs : s.gens[g]? = some gs)
    (gi : GI Y C fpI tn a i H s) (hN : Nx a H)
    (goes : ∀ a' s'', GI Y C fpI tn a' i H s'' → Nx a' H → gs.Goes (model Y.prog Y.w) A.in1 (GRr Y C Fin) (GP Y C fpI tn Out) n (.send .none) s'')
    (hsome : ∀ i1 H1 y v Nx1 s1 gs1, RelV y v → GI Y C fpI tn a i1 H1 s1 → Out a y H1 Nx1 → s1.gens[g]? = some gs1 →
      GoOn (model Y.prog Y.w) A.in1 (GRr Y C Fin) (GP Y C fpI tn Out) (fun a' s'' => GI Y C fpI tn a' i1 H1 s'') (fun a' => Nx1 a' H1) gs1 n → Q (some v) s1)
    (hnone : ∀ H1 s1, Inv Y (pinsAt C.fp s1.heap) (nones Y.N.length) H1 s1 → C.at_ a s1.heap → Fin a H1 → Q none s1) :
    wpAny (model Y.prog Y.w) A (pyNext (.ref ga)) Q E s := by
  obtain ⟨I, hat, st, hn0⟩ := id gi
  have hlt : g < s.gens.size := by
    rcases Nat.lt_or_ge g s.gens.size with h' | h'
    · exact h'
    · rw [Array.getElem?_eq_none h'] at hgs; cases hgs
  refine wpAny_gsz (n := g + 1) hlt ?_
  have gi' : GI Y C fpI tn a i H (s.setGen g .running) := ⟨Inv.gensG I (bare_setGen I.bare rfl), hat, st, hn0⟩
  have hig : s.heap.IsGen ga g := hgo _ (I.pin (ga, go) (List.mem_append_left _ hpn)).1
  refine wpAny_pyNext_genexpQ (P := GF Y C Fin) (Y := GP Y C fpI tn Out) hh I.nolimit hd hig hgs (goes a _ gi' hN) (fun v s1 gs1 hb hv => ?_) (fun s1 hp h' hk => ?_)
  · obtain ⟨a1, i1, H1, y, Nx1, rv, gi1, o1, since, kap⟩ := hv
    have hat1 : C.at_ a s1.heap := CO.keep _ _ _ hat since
    have ea : a1 = a := CO.inj _ _ _ gi1.2.1 hat1
    subst ea
    intro hsz
    have hlt1 : g < s1.gens.size := by
      rw [setGen_size] at hsz
      exact hsz
    have gi2 : GI Y C fpI tn a1 i1 H1 (s1.setGen g gs1) := ⟨Inv.gensG gi1.1 (bare_setGen gi1.1.bare hb), gi1.2.1, gi1.2.2.1, gi1.2.2.2⟩
    refine hsome i1 H1 y v Nx1 _ gs1 rv gi2 o1 (by simp [Shared.setGen, hlt1]) ?_
    cases n with
    | zero => exact fun a' s'' q1 q2 => kap a' s'' q1 q2
    | succ n1 => exact fun a' s'' q1 q2 => kap a' s'' q1 q2
  · obtain ⟨a1, H1, I1, hat1, since, fin⟩ := hp
    have ea : a1 = a := CO.inj _ _ _ hat1 (CO.keep _ _ _ hat since)
    subst ea
    intro _
    have I2 : Inv Y (pinsAt C.fp s1.heap) (nones Y.N.length) H1 { s1.setGen g .finished with heap := h' } := (Inv.gensG I1 (bare_setGen (x := .finished) (g := g) I1.bare rfl)).kept (t' := s1.toks) hk
    exact hnone H1 _ (repin CO hat1 I2 fun b _ o e => hk b o e) (CO.keep _ _ _ hat1 fun b _ o e => hk b o e) fin
end
end

section
variable {Y : Cx} {fpI : List Addr} {tn : Nat → Heap → Prop}
def outAll (QB : Bool → Hp → Prop) : Unit → V → Hp → (Unit → Hp → Prop) → Prop := fun _ y H Nx => ∃ c, y = .bl c ∧ if c = true then Nx () H else QB false H
def outAny (QB : Bool → Hp → Prop) : Unit → V → Hp → (Unit → Hp → Prop) → Prop := fun _ y H Nx => ∃ c, y = .bl c ∧ if c = true then QB true H else Nx () H
theorem all_loop {A : Around} {ga : Addr} {go : Obj} {g : Nat} {QB : Bool → Hp → Prop} {R : Result → Shared → Prop} (hh : A.handled = none) (hd : A.depth < recursionLimit) (hpn : (ga, go) ∈ Y.pn) (hgo : ∀ h : Heap, h.get? ga = some go → h.IsGen ga g)
    (hR : ∀ b s' H', Inv Y [] (nones Y.N.length) H' s' → QB b H' → R (.ok (.ret (.bool b))) s') :
    ∀ (n i : Nat) (H : Hp) (Nx : Unit → Hp → Prop) (s : Shared) (gs : GenState), s.gens[g]? = some gs → GI Y conU fpI tn () i H s → Nx () H →
      (∀ a' s'', GI Y conU fpI tn a' i H s'' → Nx a' H → gs.Goes (model Y.prog Y.w) A.in1.in1 (GRr Y conU fun _ H => QB true H) (GP Y conU fpI tn (outAll QB)) n (.send .none) s'') →
      codeAny (model Y.prog Y.w) A (.builtin "all.loop" ⟨[.ref ga], []⟩) R s := by
  intro n
  induction n with
  | zero =>
    intro i H Nx s gs hgs gi hN goes
    refine codeAny_builtin F.entry_all_loop ?_
    rw [Around.under_plainId F.plain_all_loop _]
    show wpAny _ A.in1 (pyNext (.ref ga) >>= _) _ _ s
    refine wpAny_bind (next_ge (A := A.in1) conU_ok hh hd hpn hgo hgs gi hN goes (fun i1 H1 y v Nx1 s1 gs1 rv gi1 o1 hg1 go1 => ?_) (fun H1 s1 I1 _ fin => ?_))
    · obtain ⟨c, rfl, hc⟩ := o1
      cases (show v = Value.bool c from rv)
      refine wpAny_bind (wpAny_holding (wpAny_truthy_bool ?_))
      refine wpAny_bind (wpAny_letGo ?_)
      cases c with
      | true => exact (go1 () s1 gi1 hc).elim
      | false =>
        simp only [Bool.false_eq_true, if_false]
        exact wpAny_bind (wpAny_rule (wpAny_pure (hR false s1 H1 gi1.1 hc)))
    · exact wpAny_bind (wpAny_rule (wpAny_pure (hR true s1 H1 I1 fin)))
  | succ n ih =>
    intro i H Nx s gs hgs gi hN goes
    refine codeAny_builtin F.entry_all_loop ?_
    rw [Around.under_plainId F.plain_all_loop _]
    show wpAny _ A.in1 (pyNext (.ref ga) >>= _) _ _ s
    refine wpAny_bind (next_ge (A := A.in1) conU_ok hh hd hpn hgo hgs gi hN goes (fun i1 H1 y v Nx1 s1 gs1 rv gi1 o1 hg1 go1 => ?_) (fun H1 s1 I1 _ fin => ?_))
    · obtain ⟨c, rfl, hc⟩ := o1
      cases (show v = Value.bool c from rv)
      refine wpAny_bind (wpAny_holding (wpAny_truthy_bool ?_))
      refine wpAny_bind (wpAny_letGo ?_)
      cases c with
      | true =>
        simp only [if_true]
        exact wpAny_pure ⟨plainId_quiet F.plain_all_loop _, ih i1 H1 Nx1 s1 gs1 hg1 gi1 hc go1⟩
      | false =>
        simp only [Bool.false_eq_true, if_false]
        exact wpAny_bind (wpAny_rule (wpAny_pure (hR false s1 H1 gi1.1 hc)))
    · exact wpAny_bind (wpAny_rule (wpAny_pure (hR true s1 H1 I1 fin)))
theorem any_loop {A : Around} {ga : Addr} {go : Obj} {g : Nat} {QB : Bool → Hp → Prop} {R : Result → Shared → Prop} (hh : A.handled = none) (hd : A.depth < recursionLimit) (hpn : (ga, go) ∈ Y.pn) (hgo : ∀ h : Heap, h.get? ga = some go → h.IsGen ga g)
    (hR : ∀ b s' H', Inv Y [] (nones Y.N.length) H' s' → QB b H' → R (.ok (.ret (.bool b))) s') :
    ∀ (n i : Nat) (H : Hp) (Nx : Unit → Hp → Prop) (s : Shared) (gs : GenState), s.gens[g]? = some gs → GI Y conU fpI tn () i H s → Nx () H →
      (∀ a' s'', GI Y conU fpI tn a' i H s'' → Nx a' H → gs.Goes (model Y.prog Y.w) A.in1.in1 (GRr Y conU fun _ H => QB false H) (GP Y conU fpI tn (outAny QB)) n (.send .none) s'') →
      codeAny (model Y.prog Y.w) A (.builtin "any.loop" ⟨[.ref ga], []⟩) R s := by
  intro n
  induction n with
  | zero =>
    intro i H Nx s gs hgs gi hN goes
    refine codeAny_builtin F.entry_any_loop ?_
    rw [Around.under_plainId F.plain_any_loop _]
    show wpAny _ A.in1 (pyNext (.ref ga) >>= _) _ _ s
    refine wpAny_bind (next_ge (A := A.in1) conU_ok hh hd hpn hgo hgs gi hN goes (fun i1 H1 y v Nx1 s1 gs1 rv gi1 o1 hg1 go1 => ?_) (fun H1 s1 I1 _ fin => ?_))
    · obtain ⟨c, rfl, hc⟩ := o1
      cases (show v = Value.bool c from rv)
      refine wpAny_bind (wpAny_holding (wpAny_truthy_bool ?_))
      refine wpAny_bind (wpAny_letGo ?_)
      cases c with
      | false => exact (go1 () s1 gi1 hc).elim
      | true =>
        simp only [if_true]
        exact wpAny_bind (wpAny_rule (wpAny_pure (hR true s1 H1 gi1.1 hc)))
    · exact wpAny_bind (wpAny_rule (wpAny_pure (hR false s1 H1 I1 fin)))
  | succ n ih =>
    intro i H Nx s gs hgs gi hN goes
    refine codeAny_builtin F.entry_any_loop ?_
    rw [Around.under_plainId F.plain_any_loop _]
    show wpAny _ A.in1 (pyNext (.ref ga) >>= _) _ _ s
    refine wpAny_bind (next_ge (A := A.in1) conU_ok hh hd hpn hgo hgs gi hN goes (fun i1 H1 y v Nx1 s1 gs1 rv gi1 o1 hg1 go1 => ?_) (fun H1 s1 I1 _ fin => ?_))
    · obtain ⟨c, rfl, hc⟩ := o1
      cases (show v = Value.bool c from rv)
      refine wpAny_bind (wpAny_holding (wpAny_truthy_bool ?_))
      refine wpAny_bind (wpAny_letGo ?_)
      cases c with
      | false =>
        simp only [Bool.false_eq_true, if_false]
        exact wpAny_pure ⟨plainId_quiet F.plain_any_loop _, ih i1 H1 Nx1 s1 gs1 hg1 gi1 hc go1⟩
      | true =>
        simp only [if_true]
        exact wpAny_bind (wpAny_rule (wpAny_pure (hR true s1 H1 gi1.1 hc)))
    · exact wpAny_bind (wpAny_rule (wpAny_pure (hR false s1 H1 I1 fin)))
end

/-! ### a generator expression is made -/
abbrev ce (X : Cx) (scope : Scope) (C : Addr) (code : Value) : Env := genEnv scope [] C code builtinsNs X.env
abbrev gx (X : Cx) (A : Around) (N : List Str) (s : Shared) (H : Hp) (cenv : Env) (fp : List Addr) (pn : List (Addr × Obj)) : Cx :=
  { X with A := A.deeper cenv, N := N, s_0 := s, H_0 := H, env := cenv, outer := X.stack, stack := cenv :: X.stack, ex := fp, fn := fun _ => false, calm := true, pn := pn, xe := fun _ _ => False }
structure GSc (scope : Scope) : Prop where
  kind : scope.kind = .function
  co : scope.isCoroutine = false
  own : ∀ y ∈ scope.names, y.2 ≠ .cell ∧ y.2 ≠ .free
  dot : scope.names.lookup (".0" : Str) = some NameKind.local
theorem cloFrom_nil {cells : List (Str × Addr)} : ∀ {names : List (Str × NameKind)} {acc : List (Str × Addr)}, (∀ y ∈ names, y.2 ≠ .free) → cloFrom cells names acc = acc
  | [], _, _ => rfl
  | (n, k) :: r, acc, h => by
    unfold cloFrom
    rw [if_neg (by simpa using h (n, k) List.mem_cons_self)]
    exact cloFrom_nil fun y hy => h y (List.mem_cons_of_mem _ hy)
theorem GSc.nocell {scope : Scope} (S : GSc scope) {x : Str} (h : scope.names.lookup x = some .cell ∨ scope.names.lookup x = some .free) : False := by
  rcases h with h | h
  · exact (S.own _ (PySem.mem_of_lookup h)).1 rfl
  · exact (S.own _ (PySem.mem_of_lookup h)).2 rfl
section
variable {X : Cx} {pins : List (Addr × Obj)} {σ : L2.St} {H : Hp} {s : Shared}
theorem ge_start {A : Around} {N : List Str} {scope : Scope} {code : Value} {fp : List Addr} {go : Obj} {G : Array GenState} {tk : Nat} {h5 : Heap} {m0 : Str → Option Value} (I : Inv X pins σ H s) (S : GSc scope) (hA : A.handled = none) (hf : A.frames = some X.stack)
    (hfp : ∀ b ∈ fp, FpOk X pins H b ∧ b < s.heap.objs.size) (hG : AllBare G) (hns : h5.Ns s.heap.objs.size m0) (hk : ∀ b o, s.heap.get? b = some o → h5.get? b = some o) (hgo : h5.get? (s.heap.objs.size + 1) = some go) (hgd : ∀ v, go.data ≠ .cell v) :
    Inv (gx X A N s H (ce X scope s.heap.objs.size code) fp [(s.heap.objs.size + 1, go)]) [] (nones N.length) H { s with gens := G, toks := tk, heap := h5 } := by
  have noc : ∀ x c, (ce X scope s.heap.objs.size code).cells.lookup x = some c → False := fun x c e => by simp [genEnv] at e
  have stkne : ∀ b, s.heap.objs.size ≤ b → b ∉ frs X.stack := fun b hb z => by
    rcases List.mem_cons.mp (I.stkSub b z) with e | e
    · exact absurd (Nat.lt_of_lt_of_le I.lt (by rw [← e]; exact hb)) (Nat.lt_irrefl _)
    · exact I.nofs hb e
  refine ⟨⟨I.ok.mod, S.kind, I.ok.glob, rfl, Nat.le_refl _, fun x y c h1 _ => (noc x c h1).elim, fun x hx => (S.nocell hx).elim, fun x c h _ => (by cases h), fun _ => hA, Around.frames_deeper hf, .inr ⟨rfl, rfl⟩, fun b hb => ⟨Nat.ne_of_lt (hfp b hb).2, fun x c e => (noc x c e).elim⟩,
    I.bs, Nat.le_trans I.ok.bsz I.sz, fun b o e hb => ?_, fun b hb z => ?_, I.stack, I.stkFree⟩, rfl, hG, Un.kept hk, ⟨m0, hns, fun i x v _ h2 _ => (nones_some h2).elim⟩, fun x c e => (noc x c e).elim, I.hok.fresh (Nat.le_refl _), fun x c e => (noc x c e).elim, fun p hp => ?_, I.hok.kept hk, List.length_replicate⟩
  · rcases (hfp b hb).1.2.2.2.1 with z | z
    · exact I.ok.noex b o e z
    · exact absurd (Nat.lt_of_lt_of_le (Heap.lt_size e) (Nat.le_trans I.ok.bsz z)) (Nat.lt_irrefl _)
  · rcases List.mem_cons.mp (I.stkSub b z) with e | e
    · exact (hfp b hb).1.2.1 e
    · exact (hfp b hb).1.2.2.1 e
  · have hp' : p ∈ [(s.heap.objs.size + 1, go)] := by simpa using hp
    rw [List.mem_singleton.mp hp']
    exact ⟨hgo, I.hok.fresh (Nat.le_succ _), Nat.succ_ne_self _, stkne _ (Nat.le_succ _), hgd⟩
/-- back in the def that asked -/
theorem ge_back {A : Around} {N : List Str} {cenv : Env} {fp : List Addr} {pn pins' : List (Addr × Obj)} {σ' : L2.St} {H' : Hp} {s' : Shared} (I : Inv X pins σ H s) (hfp : ∀ b ∈ fp, FpOk X pins H b ∧ b < s.heap.objs.size)
    (J : Inv (gx X A N s H cenv fp pn) pins' σ' H' s') : Inv X pins σ H' s' :=
  I.call' (ch := fp) J.os J.base J.hok J.bare fun b hb => ⟨(hfp b hb).1.2.2.2.1, (hfp b hb).1.2.1, (hfp b hb).1.2.2.2.2.1, (hfp b hb).1.2.2.2.2.2⟩
theorem room3 {k : Nat} {A : Around} (r : Room (k + 1) A) (env : Env) : Room k (A.in1.in1.deeper env) :=
  ⟨r.hd, by have := r.dp; show A.depth + 1 + 3 * k + 5 < _; omega, by have := r.un; show A.units + 1 + 1 + 3 + 16 * k + 200 < _; omega⟩

theorem gen_make {c P : Addr} {elt tg iter : Expr} {ifs : List Expr} {gpos : Pos} {scope : Scope} {wi : TI} {k : Nat} {Q' : Value → Shared → Prop} {R : It → Hp → Prop}
    (hr : Room k X.A) (TB : GxR.TabB X.base X.mg c P) (hcode : X.env.code = .ref c) (S : GSc scope) (hi : PI X tg iter wi) (hs : ∀ v, genFold iter X.env v = pure v) (I : Inv X pins σ H s) (h : wi σ H fun J H1 => GxR.TabG H1 P ∧ R J H1)
    (hQ : ∀ J H1 H2 s4 s5 code fp it tn go g, R J H1 → GxR.Tabbed P H1 H2 → Inv X pins σ H2 s4 → (∀ b ∈ fp, FpOk X pins H2 b ∧ b < s4.heap.objs.size) → Turn X.prog X.w X.K tg J fp it tn → tn 0 s5.heap →
      (∀ A N, A.handled = none → A.frames = some X.stack → Inv (gx X A N s4 H2 (ce X scope s4.heap.objs.size code) fp [(s4.heap.objs.size + 1, go)]) [] (nones N.length) H2 s5) →
      (∀ h : Heap, h.get? (s4.heap.objs.size + 1) = some go → h.IsGen (s4.heap.objs.size + 1) g) →
      s5.gens[g]? = some (.fresh (.compStart (.GeneratorExp elt [⟨tg, iter, ifs, 0⟩] scope gpos) 0 (.ref it) .none (ce X scope s4.heap.objs.size code))) → Q' (.ref (s4.heap.objs.size + 1)) s5) :
    wpAny (model X.prog X.w) X.A (eval (.GeneratorExp elt [⟨tg, iter, ifs, 0⟩] scope gpos) X.env) Q' X.xe s := by
  have hcl : closureFor scope X.env = pure [] := by
    rw [closure_ok fun y hy e => absurd e (S.own y hy).2, cloFrom_nil fun y hy => (S.own y hy).2]
  refine wpAny_GeneratorExp_make S.co hcl (fun y hy => (S.own y hy).1) S.dot S.kind (by have := hr.dp; omega) (thn (hi.run pins s σ H _ I h) fun xv s1 hx => thn hx fun itv s2 h2 => ?_) hs
  obtain ⟨it, fp, tn, J, H1, e, I2, T, st2, f2, ⟨ps, hP, ht⟩, q1⟩ := h2
  subst e
  have hPs : s2.heap.get? P = some { cls := .none, data := .fields ps } := I2.hok P _ hP
  have cd : PySem.W.CodeHd s2.heap c P := TB.code.keeps fun b u e => I2.bk b u e
  have nfp : ∀ b ∈ fp, b ≠ P := fun b hb z => by
    have := (f2 b hb).1
    rw [z, hP] at this
    cases this
  have szf : ∀ b ∈ fp, b < s2.heap.objs.size := fun b hb => by
    obtain ⟨o, e, _⟩ := T.obj _ _ st2 b hb
    exact Heap.lt_size e
  have cont : ∀ (code : Value) (h3 : Heap) (tk : Nat) (ps' : Array Value), Heap.ExtBut P s2.heap h3 → s2.heap.objs.size ≤ h3.objs.size → h3.get? P = some { cls := .none, data := .fields ps' } → (∃ more, ps' = ps ++ more) → TriplesOk ps'.toList →
      wpAny (model X.prog X.w) X.A (builtinsFor X.env.globals X.env.builtins) (fun bi s4 =>
        ∀ h', h'.Ns s4.heap.objs.size (fun y => if y = ".0" then some (.ref it) else none) → Heap.SameBut s4.heap.objs.size (s4.heap.push { cls := .type "frame", data := .dict #[] }) h' →
          Q' (.ref h'.objs.size) { s4 with
            gens := s4.gens.push (.fresh (.compStart (.GeneratorExp elt [⟨tg, iter, ifs, 0⟩] scope gpos) 0 (.ref it) .none (genEnv scope [] s4.heap.objs.size code bi X.env))),
            toks := s4.toks + 1 + 1 + 1,
            heap := h'.push { cls := .type "generator", data := .fields #[.int s4.gens.size 0, .str "<genexpr>" (s4.toks + 1), .str (X.env.qual ++ "<genexpr>") (s4.toks + 1 + 1)] } }) X.xe { s2 with heap := h3, toks := tk } := by
    intro code h3 tk ps' hx hsz hP3 hmore ht3
    obtain ⟨bm, ob, e1, e2, e3, e4, e5, e6, e7, e8⟩ := TB.bm
    obtain ⟨more, rfl⟩ := hmore
    have I3 : Inv X pins σ (upd H1 P (.tbl (ps ++ more))) { s2 with heap := h3, toks := tk } := GxR.inv_tab (more := more) (g' := s2.gens) (d' := s2.drawn) I2 hP (fun b u hb e => hx b u hb e) hP3 I2.bare
    have tab : GxR.Tabbed P H1 (upd H1 P (.tbl (ps ++ more))) := ⟨⟨_, upd_same, ht3⟩, fun b hb => upd_ne hb⟩
    have st3 : tn 0 h3 := T.keep _ _ _ st2 fun b hb o e => hx b o (nfp b hb) e
    have f3 : ∀ b ∈ fp, FpOk X pins (upd H1 P (.tbl (ps ++ more))) b ∧ b < h3.objs.size := fun b hb =>
      ⟨⟨by rw [upd_ne (nfp b hb)]; exact (f2 b hb).1, (f2 b hb).2⟩, Nat.lt_of_lt_of_le (szf b hb) hsz⟩
    refine wpAny_builtinsFor (m := X.mg) (by rw [I3.ok.glob]; exact I3.mod.glob.keeps I3.bk) e1 e2 (I3.bk _ _ e5) e6 e7 e8 ?_
    intro h' hns hsb
    have hsz' : h'.objs.size = h3.objs.size + 1 := by rw [hsb.1, Heap.size_push]
    have keep' : ∀ b o, h3.get? b = some o → h'.get? b = some o := fun b o e => hsb.extBut b o (Nat.ne_of_lt (Heap.lt_size e)) (Heap.get?_push_of_some _ e)
    have main : ∀ (go : Obj), go.cls = .type "generator" → (∃ nm qn, go.data = .fields #[.int s2.gens.size 0, nm, qn]) → go.slots = #[] → (∀ h : Heap, (h.push go).get? h.objs.size = some go) → ∀ t',
        Q' (.ref h'.objs.size) { s2 with heap := h'.push go, toks := t', gens := s2.gens.push (.fresh (.compStart (.GeneratorExp elt [⟨tg, iter, ifs, 0⟩] scope gpos) 0 (.ref it) .none (genEnv scope [] h3.objs.size code builtinsNs X.env))) } := by
      intro go gc ⟨nm, qn, gd⟩ gsl gp t'
      have hgp := gp h'
      rw [hsz'] at hgp ⊢
      have keep5 : ∀ b o, h3.get? b = some o → (h'.push go).get? b = some o := fun b o e => Heap.get?_push_of_some _ (keep' b o e)
      refine hQ J H1 (upd H1 P (.tbl (ps ++ more))) { s2 with heap := h3, toks := tk } _ code fp it tn go s2.gens.size q1 tab I3 f3 T (T.keep _ _ _ st3 fun b _ o e => keep5 b o e) (fun A N hA hf => ?_) (fun h e => ⟨go, nm, qn, e, gc, gd, gsl⟩) (Array.getElem?_push_size ..)
      exact ge_start (s := { s2 with heap := h3, toks := tk }) I3 S hA hf f3 (I2.bare.push rfl) (hns.push _) keep5 hgp (fun v z => by rw [gd] at z; cases z)
    exact main _ rfl ⟨_, _, rfl⟩ rfl (fun h => Heap.get?_push_size _ rfl) _
  refine ⟨I2.nolimit, ?_⟩
  cases hf : codeAmong gpos ps.toList with
  | none =>
    refine wpAny_genexprCodeX hcode (cd.code hPs ht) (cd.tab hPs) hf fun c' h' tk hx hge hlt hco' _ htab' _ => ?_
    obtain ⟨o1, vs, f1, tf, fl, tg', inF, tx, tt, op, _, _, _, _, _, _, _, _, _, htr, _⟩ := hco'
    exact cont _ h' tk _ hx (Nat.le_trans hge (Nat.le_of_lt hlt)) htab'.2 ⟨_, rfl⟩ htr
  | some cv =>
    refine wpAny_genexprCode_hit hcode (cd.code hPs ht) hf ?_
    exact cont cv s2.heap s2.toks ps (Heap.ExtBut.refl _ _) (Nat.le_refl _) hPs ⟨#[], by simp⟩ ht

/-! ### all and any of one -/
def tGen (P : Addr) (n0 : Nat) (wi : TI) (g : TG) (tt : TT) (te : TE) (Out : (Bool → Hp → Prop) → Unit → V → Hp → (Unit → Hp → Prop) → Prop) (fin : Bool) : TE := fun σ H Q => wi σ H fun J H1 => GxR.TabG H1 P ∧ ∀ H2, GxR.Tabbed P H1 H2 →
  ∃ W : Unit → Nat → Nat → Hp → Prop, (∃ m, W () 0 m H2) ∧ TurnOf J n0 g tt te (Out fun b H => Q (.bl b) H) (fun _ H => Q (.bl fin) H) W
theorem pe_allG {N : List Str} {c P : Addr} {elt tg iter : Expr} {ifs : List Expr} {p pos gpos : Pos} {scope : Scope} {wi : TI} {g : TG} {tt : TT} {te : TE} {k : Nat}
    (hr : Room (k + 1) X.A) (hgl : Gl X "all") (hm : X.mg "all" = none) (TB : GxR.TabB X.base X.mg c P) (hcode : X.env.code = .ref c) (S : GSc scope) (hi : PI X tg iter wi)
    (hg : ∀ (A : Around) (s : Shared) (H : Hp) (C : Addr) (code : Value) (fp : List Addr) (pn : List (Addr × Obj)), Room k (A.deeper (ce X scope C code)) → PG (gx X A N s H (ce X scope C code) fp pn) tg g)
    (ht : ∀ (A : Around) (s : Shared) (H : Hp) (C : Addr) (code : Value) (fp : List Addr) (pn : List (Addr × Obj)), Room k (A.deeper (ce X scope C code)) → PTs (gx X A N s H (ce X scope C code) fp pn) ifs tt)
    (he : ∀ (A : Around) (s : Shared) (H : Hp) (C : Addr) (code : Value) (fp : List Addr) (pn : List (Addr × Obj)), Room k (A.deeper (ce X scope C code)) → PE (gx X A N s H (ce X scope C code) fp pn) elt te)
    (hs : ∀ v, genFold iter X.env v = pure v := by intro _; rfl)
    (hb : bootBuiltins "all" = some (.builtin "all") := by decide +kernel)
    (hst : starEach [.GeneratorExp elt [⟨tg, iter, ifs, 0⟩] scope gpos] X.env = (false, eval (.GeneratorExp elt [⟨tg, iter, ifs, 0⟩] scope gpos) X.env) :: starEach [] X.env := by rfl) :
    PE X (.Call (.Name "all" p) [.GeneratorExp elt [⟨tg, iter, ifs, 0⟩] scope gpos] [] pos) (tGen P N.length wi g tt te outAll true) := by
  refine ⟨fun pins s σ H Q I h => ?_⟩
  refine wpAny_Call_Name_kw (ld_blt I hgl hm hb ?_)
  refine PyProof.Rows.callWith_builtin1 ?_ hst (by rfl)
  rw [hst]
  show wpAny _ _ (spliced ((false, eval (.GeneratorExp elt [⟨tg, iter, ifs, 0⟩] scope gpos) X.env) :: backTo pos (starEach [] X.env))) _ _ s
  refine Calls.spliced_cons (gen_make hr TB hcode S hi hs I h fun J H1 H2 s4 s5 code fp it tn go gn hR tab I4 f4 T st5 mk hgo hgs => ?_)
  refine Calls.spliced_nil ?_
  obtain ⟨W, ⟨m0, w0⟩, turn⟩ := hR H2 tab
  have rY := room3 hr (ce X scope s4.heap.objs.size code)
  have I5 := mk X.A.in1.in1 N hr.hd I.ok.frames
  generalize hpn : [(s4.heap.objs.size + 1, go)] = pn at I5
  have hpm : (s4.heap.objs.size + 1, go) ∈ pn := by rw [← hpn]; exact List.mem_singleton.mpr rfl
  have hpf : ∀ p ∈ pn, p.1 ∉ fp := fun p hp z => by
    rw [← hpn] at hp
    rw [List.mem_singleton.mp hp] at z
    exact absurd (f4 _ z).2 (Nat.not_lt.mpr (Nat.le_succ _))
  have gi0 : GI (gx X X.A.in1.in1 N s4 H2 (ce X scope s4.heap.objs.size code) fp pn) conU fp tn () 0 H2 s5 := ⟨I5, trivial, st5, fun b hb => (f4 b hb).1.1⟩
  have isg := hgo _ (I5.pin _ (List.mem_append_left _ hpm)).1
  refine call_function_tree F.kind_all F.plain_all F.entry_all (F.args_all1 _) ?_
  unfold Builtin.«all»
  refine wpAny_bind (m := oneArg "all" _) (wpAny_pure ?_)
  refine wpAny_bind (wpAny_pyIter_gen isg ?_)
  refine wpAny_pure ⟨plainId_quiet F.plain_all_loop _, ?_⟩
  refine all_loop (Y := gx X X.A.in1.in1 N s4 H2 (ce X scope s4.heap.objs.size code) fp pn) (A := X.A) (g := gn) (QB := fun b H => Q (.bl b) H) hr.hd hr.depth hpm hgo (fun b s' H' I' q => ?_) (m0 + 1) 0 H2 (fun a H => W a 0 m0 H) s5 _ hgs gi0 w0 (fun a' s'' gi' w' => ?_)
  · exact ⟨.bl b, H', ge_back I4 f4 I', rfl, q⟩
  · exact ⟨rfl, seg_start (Y := gx X X.A.in1.in1 N s4 H2 (ce X scope s4.heap.objs.size code) fp pn) conU_ok rfl T (hg _ _ _ _ _ _ _ rY) (ht _ _ _ _ _ _ _ rY) (he _ _ _ _ _ _ _ rY) rfl (fun b hb => hb) (fun b hb => nomatch hb) hpf rfl S.co turn m0 a' (m0 + 1) H2 s'' (Nat.lt_succ_self _) w' gi'⟩
theorem pe_anyG {N : List Str} {c P : Addr} {elt tg iter : Expr} {ifs : List Expr} {p pos gpos : Pos} {scope : Scope} {wi : TI} {g : TG} {tt : TT} {te : TE} {k : Nat}
    (hr : Room (k + 1) X.A) (hgl : Gl X "any") (hm : X.mg "any" = none) (TB : GxR.TabB X.base X.mg c P) (hcode : X.env.code = .ref c) (S : GSc scope) (hi : PI X tg iter wi)
    (hg : ∀ (A : Around) (s : Shared) (H : Hp) (C : Addr) (code : Value) (fp : List Addr) (pn : List (Addr × Obj)), Room k (A.deeper (ce X scope C code)) → PG (gx X A N s H (ce X scope C code) fp pn) tg g)
    (ht : ∀ (A : Around) (s : Shared) (H : Hp) (C : Addr) (code : Value) (fp : List Addr) (pn : List (Addr × Obj)), Room k (A.deeper (ce X scope C code)) → PTs (gx X A N s H (ce X scope C code) fp pn) ifs tt)
    (he : ∀ (A : Around) (s : Shared) (H : Hp) (C : Addr) (code : Value) (fp : List Addr) (pn : List (Addr × Obj)), Room k (A.deeper (ce X scope C code)) → PE (gx X A N s H (ce X scope C code) fp pn) elt te)
    (hs : ∀ v, genFold iter X.env v = pure v := by intro _; rfl)
    (hst : starEach [.GeneratorExp elt [⟨tg, iter, ifs, 0⟩] scope gpos] X.env = (false, eval (.GeneratorExp elt [⟨tg, iter, ifs, 0⟩] scope gpos) X.env) :: starEach [] X.env := by rfl) :
    PE X (.Call (.Name "any" p) [.GeneratorExp elt [⟨tg, iter, ifs, 0⟩] scope gpos] [] pos) (tGen P N.length wi g tt te outAny false) := by
  refine ⟨fun pins s σ H Q I h => ?_⟩
  refine wpAny_Call_Name_kw (ld_blt I hgl hm boot_any ?_)
  refine PyProof.Rows.callWith_builtin1 ?_ hst (by rfl)
  rw [hst]
  show wpAny _ _ (spliced ((false, eval (.GeneratorExp elt [⟨tg, iter, ifs, 0⟩] scope gpos) X.env) :: backTo pos (starEach [] X.env))) _ _ s
  refine Calls.spliced_cons (gen_make hr TB hcode S hi hs I h fun J H1 H2 s4 s5 code fp it tn go gn hR tab I4 f4 T st5 mk hgo hgs => ?_)
  refine Calls.spliced_nil ?_
  obtain ⟨W, ⟨m0, w0⟩, turn⟩ := hR H2 tab
  have rY := room3 hr (ce X scope s4.heap.objs.size code)
  have I5 := mk X.A.in1.in1 N hr.hd I.ok.frames
  generalize hpn : [(s4.heap.objs.size + 1, go)] = pn at I5
  have hpm : (s4.heap.objs.size + 1, go) ∈ pn := by rw [← hpn]; exact List.mem_singleton.mpr rfl
  have hpf : ∀ p ∈ pn, p.1 ∉ fp := fun p hp z => by
    rw [← hpn] at hp
    rw [List.mem_singleton.mp hp] at z
    exact absurd (f4 _ z).2 (Nat.not_lt.mpr (Nat.le_succ _))
  have gi0 : GI (gx X X.A.in1.in1 N s4 H2 (ce X scope s4.heap.objs.size code) fp pn) conU fp tn () 0 H2 s5 := ⟨I5, trivial, st5, fun b hb => (f4 b hb).1.1⟩
  have isg := hgo _ (I5.pin _ (List.mem_append_left _ hpm)).1
  refine call_function_tree F.kind_any F.plain_any F.entry_any (F.args_any1 _) ?_
  unfold Builtin.«any»
  refine wpAny_bind (m := oneArg "any" _) (wpAny_pure ?_)
  refine wpAny_bind (wpAny_pyIter_gen isg ?_)
  refine wpAny_pure ⟨plainId_quiet F.plain_any_loop _, ?_⟩
  refine any_loop (Y := gx X X.A.in1.in1 N s4 H2 (ce X scope s4.heap.objs.size code) fp pn) (A := X.A) (g := gn) (QB := fun b H => Q (.bl b) H) hr.hd hr.depth hpm hgo (fun b s' H' I' q => ?_) (m0 + 1) 0 H2 (fun a H => W a 0 m0 H) s5 _ hgs gi0 w0 (fun a' s'' gi' w' => ?_)
  · exact ⟨.bl b, H', ge_back I4 f4 I', rfl, q⟩
  · exact ⟨rfl, seg_start (Y := gx X X.A.in1.in1 N s4 H2 (ce X scope s4.heap.objs.size code) fp pn) conU_ok rfl T (hg _ _ _ _ _ _ _ rY) (ht _ _ _ _ _ _ _ rY) (he _ _ _ _ _ _ _ rY) rfl (fun b hb => hb) (fun b hb => nomatch hb) hpf rfl S.co turn m0 a' (m0 + 1) H2 s'' (Nat.lt_succ_self _) w' gi'⟩

/-! ### sum of one -/
def sumObj (a : Int) (t : Tok) (c : Nat) : Obj := { cls := .type "list", dict := none, data := .seq #[.int a t] c, slots := #[] }
def conS (S : Addr) : Con Int := ⟨[S], fun a h => ∃ t c, h.get? S = some (sumObj a t c)⟩
theorem conS_ok (S : Addr) : ConOk (conS S) :=
  ⟨(fun a h ⟨t, c, e⟩ b hb => by
      rw [List.mem_singleton.mp hb]
      exact ⟨_, e, fun v z => by cases z⟩),
   (fun a h h' ⟨t, c, e⟩ k => ⟨t, c, k S (List.mem_singleton.mpr rfl) _ e⟩),
   (fun a b h ⟨t, c, e⟩ ⟨t', c', e'⟩ => by
      rw [e] at e'
      have z : Data.seq #[Value.int a t] c = Data.seq #[Value.int b t'] c' := congrArg Obj.data (Option.some.inj e')
      injection z with z1 _
      have z2 : [Value.int a t] = [Value.int b t'] := congrArg Array.toList z1
      injection z2 with z3 _
      injection z3)⟩
def outSum : Int → V → Hp → (Int → Hp → Prop) → Prop := fun a y H Nx => ∃ v, y = .int v ∧ Nx (a + v) H
structure ApS (Y : Cx) (S : Addr) : Prop where
  young : Y.s_0.heap.objs.size ≤ S
  loc : S ≠ Y.env.locals
  cell : ∀ x c, Y.env.cells.lookup x = some c → c ≠ S
  pn : ∀ p ∈ Y.pn, p.1 ≠ S
theorem gi_upd {Y : Cx} {fpI : List Addr} {tn : Nat → Heap → Prop} {S : Addr} {a v : Int} {i : Nat} {H : Hp} {s : Shared} {tk : Nat} {h' : Heap} {t : Tok} {c : Nat} (hSf : S ∉ fpI) (ap : ApS Y S) (keepT : ∀ i h h', tn i h → (∀ b ∈ fpI, ∀ o, h.get? b = some o → h'.get? b = some o) → tn i h')
    (gi : GI Y (conS S) fpI tn a i H s) (hk : ∀ b o, b ≠ S → s.heap.get? b = some o → h'.get? b = some o) (hS : h'.get? S = some (sumObj v t c)) : GI Y (conS S) fpI tn v i H { s with heap := h', toks := tk } := by
  obtain ⟨I, ⟨t0, c0, e0⟩, st, hn⟩ := gi
  obtain ⟨_, p2, p3, p4, _⟩ := I.pin (S, sumObj a t0 c0) (List.mem_append_right _ (mem_pinsAt (List.mem_singleton.mpr rfl) e0))
  have I0 : Inv Y [] (nones Y.N.length) H s := I.pins_of fun p hp => by cases hp
  have I1 : Inv Y [] (nones Y.N.length) H { s with heap := h', toks := tk } := I0.turned (it := S) (fun b o hb e => hk b o hb e) p2 p3 (.inr ap.young) ap.cell fun p hp => (List.mem_append.mp hp).elim (fun z => ap.pn p z) fun z => by cases z
  refine ⟨I1.pins_of fun p hp => ?_, ⟨t, c, hS⟩, keepT _ _ _ st fun b hb o e => hk b o (fun z => hSf (z ▸ hb)) e, hn⟩
  obtain ⟨hb, e⟩ := of_pinsAt hp
  have eS : p.1 = S := List.mem_singleton.mp hb
  rw [eS] at e ⊢
  have e' : h'.get? S = some p.2 := e
  rw [hS] at e'
  refine ⟨e, p2, p3, p4, fun v z => ?_⟩
  rw [← Option.some.inj e'] at z
  cases z
theorem sum_loop {Y : Cx} {fpI : List Addr} {tn : Nat → Heap → Prop} {A : Around} {ga : Addr} {go : Obj} {g : Nat} {S : Addr} {QI : Int → Hp → Prop} {R : Result → Shared → Prop} (hSf : S ∉ fpI) (ap : ApS Y S) (keepT : ∀ i h h', tn i h → (∀ b ∈ fpI, ∀ o, h.get? b = some o → h'.get? b = some o) → tn i h')
    (hh : A.handled = none) (hd : A.depth < recursionLimit) (hpn : (ga, go) ∈ Y.pn) (hgo : ∀ h : Heap, h.get? ga = some go → h.IsGen ga g)
    (hR : ∀ a t' s' H', Inv Y [] (nones Y.N.length) H' s' → QI a H' → R (.ok (.ret (.int a t'))) s') :
    ∀ (n i : Nat) (H : Hp) (Nx : Int → Hp → Prop) (s : Shared) (gs : GenState) (a : Int) (t : Tok) (c : Nat) (st : Int), (st = 0 ∨ st = 2) → s.gens[g]? = some gs → GI Y (conS S) fpI tn a i H s → s.heap.get? S = some (sumObj a t c) → Nx a H →
      (∀ a' s'', GI Y (conS S) fpI tn a' i H s'' → Nx a' H → gs.Goes (model Y.prog Y.w) A.in1.in1 (GRr Y (conS S) QI) (GP Y (conS S) fpI tn outSum) n (.send .none) s'') →
      codeAny (model Y.prog Y.w) A (.builtin "sum.loop" ⟨[.ref ga, .ref S, rawInt st, rawInt 0], []⟩) R s := by
  -- what a turn comes to, the loop going on or not
  have turn : ∀ (n i : Nat) (H : Hp) (Nx : Int → Hp → Prop) (s : Shared) (gs : GenState) (a : Int) (t : Tok) (c : Nat) (st : Int), (st = 0 ∨ st = 2) → s.gens[g]? = some gs → GI Y (conS S) fpI tn a i H s → s.heap.get? S = some (sumObj a t c) → Nx a H →
      (∀ a' s'', GI Y (conS S) fpI tn a' i H s'' → Nx a' H → gs.Goes (model Y.prog Y.w) A.in1.in1 (GRr Y (conS S) QI) (GP Y (conS S) fpI tn outSum) n (.send .none) s'') →
      (∀ (i1 : Nat) (H1 : Hp) (Nx1 : Int → Hp → Prop) (s1 : Shared) (gs1 : GenState) (b : Int) (t1 : Tok) (c1 : Nat) (st1 : Int), (st1 = 0 ∨ st1 = 2) → s1.gens[g]? = some gs1 → GI Y (conS S) fpI tn b i1 H1 s1 → s1.heap.get? S = some (sumObj b t1 c1) → Nx1 b H1 →
        GoOn (model Y.prog Y.w) A.in1.in1 (GRr Y (conS S) QI) (GP Y (conS S) fpI tn outSum) (fun a' s'' => GI Y (conS S) fpI tn a' i1 H1 s'') (fun a' => Nx1 a' H1) gs1 n →
        codeAny (model Y.prog Y.w) A (.builtin "sum.loop" ⟨[.ref ga, .ref S, rawInt st1, rawInt 0], []⟩) R s1) →
      codeAny (model Y.prog Y.w) A (.builtin "sum.loop" ⟨[.ref ga, .ref S, rawInt st, rawInt 0], []⟩) R s := by
    intro n i H Nx s gs a t c st hst2 hgs gi hS hN goes again
    refine codeAny_builtin F.entry_sum_loop ?_
    rw [Around.under_plainId F.plain_sum_loop _]
    show wpAny _ A.in1 (seqItems? (.ref S) >>= _) _ _ s
    refine wpAny_bind (wpAny_seqItems hS rfl ?_)
    show wpAny _ A.in1 (tryCatch (pyNext (.ref ga)) _ >>= _) _ _ s
    refine wpAny_bind (wpAny_tryCatch (next_ge (A := A.in1) (conS_ok S) hh hd hpn hgo hgs gi hN goes (fun i1 H1 y v Nx1 s1 gs1 rv gi1 o1 hg1 go1 => ?_) (fun H1 s1 I1 _ fin => ?_)))
    · obtain ⟨v', rfl, hc⟩ := o1
      obtain ⟨t', rfl⟩ := (show ∃ t', v = Value.int v' t' from rv)
      obtain ⟨tS, cS, hS'⟩ := gi1.2.1
      rcases hst2 with rfl | rfl
      · show wpAny _ A.in1 (if (_ : Bool) = true then (mkInt (a + v') >>= _) else _) _ _ _
        split
        · refine wpAny_bind (wpAny_mkInt ?_)
          show wpAny _ A.in1 (updateSeq S (fun _ => #[.int (a + v') s1.toks]) >>= _) _ _ _
          refine wpAny_bind ?_
          refine wpAny_updateSeq hS' rfl (wpAny_pure ⟨plainId_quiet F.plain_sum_loop _, ?_⟩)
          refine again i1 H1 Nx1 _ gs1 (a + v') s1.toks _ 0 (.inl rfl) hg1 (gi_upd (t := s1.toks) (s := s1) hSf ap keepT gi1 (fun b o hb e => (Heap.get?_update_other _ _ (Ne.symm hb)).trans e) (Heap.get?_update_self _ hS' rfl)) (Heap.get?_update_self _ hS' rfl) hc go1
        · refine wpAny_bind (wpAny_rule ?_)
          refine wpAny_bind (wpAny_attempt (wpAny_holding (wpAny_add_int ?_)))
          show wpAny _ A.in1 (updateSeq S (fun _ => #[.int (a + v') s1.toks]) >>= _) _ _ _
          refine wpAny_bind (wpAny_updateSeq hS' rfl ?_)
          have hS₂ := Heap.get?_update_self (Obj.mapSeq fun _ => #[Value.int (a + v') s1.toks]) hS' rfl
          refine wpAny_bind (wpAny_letGo ?_)
          refine wpAny_bind (wpAny_updateSeq hS₂ rfl (wpAny_pure ⟨plainId_quiet F.plain_sum_loop _, ?_⟩))
          refine again i1 H1 Nx1 _ gs1 (a + v') s1.toks _ 2 (.inr rfl) hg1 (gi_upd (t := s1.toks) (s := s1) hSf ap keepT gi1 (fun b o hb e => (Heap.get?_update_other _ _ (Ne.symm hb)).trans ((Heap.get?_update_other _ _ (Ne.symm hb)).trans e)) (Heap.get?_update_self _ hS₂ rfl)) (Heap.get?_update_self _ hS₂ rfl) hc go1
      · show wpAny _ A.in1 ((holding [Value.int v' t'] (binaryOp .Add (.int a t) (.int v' t'))).attempt >>= _) _ _ _
        refine wpAny_bind (wpAny_attempt (wpAny_holding (wpAny_add_int ?_)))
        show wpAny _ A.in1 (updateSeq S (fun _ => #[.int (a + v') s1.toks]) >>= _) _ _ _
        refine wpAny_bind (wpAny_updateSeq hS' rfl ?_)
        have hS₂ := Heap.get?_update_self (Obj.mapSeq fun _ => #[Value.int (a + v') s1.toks]) hS' rfl
        refine wpAny_bind (wpAny_letGo ?_)
        refine wpAny_bind (wpAny_updateSeq hS₂ rfl (wpAny_pure ⟨plainId_quiet F.plain_sum_loop _, ?_⟩))
        refine again i1 H1 Nx1 _ gs1 (a + v') s1.toks _ 2 (.inr rfl) hg1 (gi_upd (t := s1.toks) (s := s1) hSf ap keepT gi1 (fun b o hb e => (Heap.get?_update_other _ _ (Ne.symm hb)).trans ((Heap.get?_update_other _ _ (Ne.symm hb)).trans e)) (Heap.get?_update_self _ hS₂ rfl)) (Heap.get?_update_self _ hS₂ rfl) hc go1
    · exact wpAny_pure (hR a t s1 H1 (I1.pins_of fun p hp => by cases hp) fin)
  intro n
  induction n with
  | zero => exact fun i H Nx s gs a t c st h1 h2 h3 h4 h5 h6 => turn 0 i H Nx s gs a t c st h1 h2 h3 h4 h5 h6 fun i1 H1 Nx1 s1 gs1 b t1 c1 st1 _ _ g1 _ g3 g4 => (g4 b s1 g1 g3).elim
  | succ n ih => exact fun i H Nx s gs a t c st h1 h2 h3 h4 h5 h6 => turn (n + 1) i H Nx s gs a t c st h1 h2 h3 h4 h5 h6 fun i1 H1 Nx1 s1 gs1 b t1 c1 st1 g0 g1 g2 g3 g4 g5 => ih i1 H1 Nx1 s1 gs1 b t1 c1 st1 g0 g1 g2 g3 g4 g5
def tSumG (P : Addr) (n0 : Nat) (wi : TI) (g : TG) (tt : TT) (te : TE) : TE := fun σ H Q => wi σ H fun J H1 => GxR.TabG H1 P ∧ ∀ H2, GxR.Tabbed P H1 H2 →
  ∃ W : Int → Nat → Nat → Hp → Prop, (∃ m, W 0 0 m H2) ∧ TurnOf J n0 g tt te outSum (fun a H => Q (.int a) H) W
theorem pe_sumG {N : List Str} {c P : Addr} {elt tg iter : Expr} {ifs : List Expr} {p pos gpos : Pos} {scope : Scope} {wi : TI} {g : TG} {tt : TT} {te : TE} {k : Nat}
    (hr : Room (k + 1) X.A) (hgl : Gl X "sum") (hm : X.mg "sum" = none) (TB : GxR.TabB X.base X.mg c P) (hcode : X.env.code = .ref c) (S : GSc scope) (hi : PI X tg iter wi)
    (hg : ∀ (A : Around) (s : Shared) (H : Hp) (C : Addr) (code : Value) (fp : List Addr) (pn : List (Addr × Obj)), Room k (A.deeper (ce X scope C code)) → PG (gx X A N s H (ce X scope C code) fp pn) tg g)
    (ht : ∀ (A : Around) (s : Shared) (H : Hp) (C : Addr) (code : Value) (fp : List Addr) (pn : List (Addr × Obj)), Room k (A.deeper (ce X scope C code)) → PTs (gx X A N s H (ce X scope C code) fp pn) ifs tt)
    (he : ∀ (A : Around) (s : Shared) (H : Hp) (C : Addr) (code : Value) (fp : List Addr) (pn : List (Addr × Obj)), Room k (A.deeper (ce X scope C code)) → PE (gx X A N s H (ce X scope C code) fp pn) elt te)
    (hs : ∀ v, genFold iter X.env v = pure v := by intro _; rfl)
    (hb : bootBuiltins "sum" = some (.builtin "sum") := by decide +kernel)
    (hst : starEach [.GeneratorExp elt [⟨tg, iter, ifs, 0⟩] scope gpos] X.env = (false, eval (.GeneratorExp elt [⟨tg, iter, ifs, 0⟩] scope gpos) X.env) :: starEach [] X.env := by rfl) :
    PE X (.Call (.Name "sum" p) [.GeneratorExp elt [⟨tg, iter, ifs, 0⟩] scope gpos] [] pos) (tSumG P N.length wi g tt te) := by
  refine ⟨fun pins s σ H Q I h => ?_⟩
  refine wpAny_Call_Name_kw (ld_blt I hgl hm hb ?_)
  refine PyProof.Rows.callWith_builtin1 ?_ hst (by rfl)
  rw [hst]
  show wpAny _ _ (spliced ((false, eval (.GeneratorExp elt [⟨tg, iter, ifs, 0⟩] scope gpos) X.env) :: backTo pos (starEach [] X.env))) _ _ s
  refine Calls.spliced_cons (gen_make hr TB hcode S hi hs I h fun J H1 H2 s4 s5 code fp it tn go gn hR tab I4 f4 T st5 mk hgo hgs => ?_)
  refine Calls.spliced_nil ?_
  obtain ⟨W, ⟨m0, w0⟩, turn⟩ := hR H2 tab
  have rY := room3 hr (ce X scope s4.heap.objs.size code)
  have I5 := mk X.A.in1.in1 N hr.hd I.ok.frames
  generalize hpn : [(s4.heap.objs.size + 1, go)] = pn at I5
  have hpm : (s4.heap.objs.size + 1, go) ∈ pn := by rw [← hpn]; exact List.mem_singleton.mpr rfl
  have hpf : ∀ p ∈ pn, p.1 ∉ fp := fun p hp z => by
    rw [← hpn] at hp
    rw [List.mem_singleton.mp hp] at z
    exact absurd (f4 _ z).2 (Nat.not_lt.mpr (Nat.le_succ _))
  have isg := hgo _ (I5.pin _ (List.mem_append_left _ hpm)).1
  have fpl : ∀ b ∈ fp, b < s5.heap.objs.size := fun b hb => Nat.lt_of_lt_of_le (f4 b hb).2 I5.sz
  refine call_function_tree F.kind_sum F.plain_sum F.entry_sum (F.args_sum1 _) ?_
  unfold Builtin.«sum»
  simp only [List.length_cons, List.length_nil]
  rw [if_neg (by decide)]
  refine wpAny_bind (wpAny_of_eq (show Builtin.Builtins.bindParams "sum" ["start"] 0 { } = pure [none] from rfl) ?_)
  refine wpAny_bind (wpAny_pyIter_gen isg ?_)
  refine wpAny_bind (wpAny_mkInt ?_)
  refine wpAny_bind (wpAny_pure ?_)
  simp only [List.forIn_cons, List.forIn_nil]
  refine wpAny_bind (wpAny_bind (wpAny_bind (wpAny_isInstance (T := "int") (b := false) (typeIs_int _ _ _) PySem.sub_int_str ?_)))
  simp only [Bool.false_eq_true, if_false]
  refine wpAny_pure (wpAny_bind (wpAny_bind (wpAny_isInstance (T := "int") (b := false) (typeIs_int _ _ _) PySem.sub_int_bytes ?_)))
  simp only [Bool.false_eq_true, if_false]
  refine wpAny_pure (wpAny_bind (wpAny_bind (wpAny_isInstance (T := "int") (b := false) (typeIs_int _ _ _) PySem.sub_int_bytearray ?_)))
  simp only [Bool.false_eq_true, if_false]
  refine wpAny_pure (wpAny_pure ?_)
  refine wpAny_bind (wpAny_newObj_type ?_)
  refine wpAny_pure ⟨plainId_quiet F.plain_sum_loop _, ?_⟩
  have hSf : s5.heap.objs.size ∉ fp := fun hm => Nat.lt_irrefl _ (fpl _ hm)
  have hget : (s5.heap.push (sumObj 0 s5.toks 0)).get? s5.heap.objs.size = some (sumObj 0 s5.toks 0) := Heap.get?_push_size _ rfl
  have I6 : Inv (gx X X.A.in1.in1 N s4 H2 (ce X scope s4.heap.objs.size code) fp pn) [] (nones N.length) H2 { s5 with heap := s5.heap.push (sumObj 0 s5.toks 0), toks := s5.toks + 1 } := I5.kept fun b o e => Heap.get?_push_of_some _ e
  have gi0 : GI (gx X X.A.in1.in1 N s4 H2 (ce X scope s4.heap.objs.size code) fp pn) (conS s5.heap.objs.size) fp tn 0 0 H2 { s5 with heap := s5.heap.push (sumObj 0 s5.toks 0), toks := s5.toks + 1 } := by
    refine ⟨I6.pins_of fun p hp => ?_, ⟨s5.toks, 0, hget⟩, T.keep _ _ _ st5 fun b _ o e => Heap.get?_push_of_some _ e, fun b hb => (f4 b hb).1.1⟩
    obtain ⟨hb, e⟩ := of_pinsAt hp
    have eS : p.1 = s5.heap.objs.size := List.mem_singleton.mp hb
    rw [eS] at e ⊢
    have e' : (s5.heap.push (sumObj 0 s5.toks 0)).get? s5.heap.objs.size = some p.2 := e
    rw [hget] at e'
    refine ⟨e, I5.hok.fresh (Nat.le_refl _), Nat.ne_of_gt I5.lt, I5.nofs (Nat.le_refl _), fun v z => ?_⟩
    rw [← Option.some.inj e'] at z
    cases z
  have ap : ApS (gx X X.A.in1.in1 N s4 H2 (ce X scope s4.heap.objs.size code) fp pn) s5.heap.objs.size := ⟨I5.sz, Nat.ne_of_gt I5.lt, fun x c e => by simp [genEnv] at e, fun p hp z => by
    have := Heap.lt_size (I5.pin p (List.mem_append_left _ hp)).1
    rw [z] at this
    exact Nat.lt_irrefl _ this⟩
  refine sum_loop (Y := gx X X.A.in1.in1 N s4 H2 (ce X scope s4.heap.objs.size code) fp pn) (A := X.A) (g := gn) (QI := fun a H => Q (.int a) H) hSf ap T.keep hr.hd hr.depth hpm hgo (fun a t' s' H' I' q => ?_) (m0 + 1) 0 H2 (fun a H => W a 0 m0 H) _ _ 0 s5.toks 0 0 (.inl rfl) hgs gi0 hget w0 (fun a' s'' gi' w' => ?_)
  · exact ⟨.int a, H', ge_back I4 f4 I', ⟨_, rfl⟩, q⟩
  · exact ⟨rfl, seg_start (Y := gx X X.A.in1.in1 N s4 H2 (ce X scope s4.heap.objs.size code) fp pn) (conS_ok _) rfl T (hg _ _ _ _ _ _ _ rY) (ht _ _ _ _ _ _ _ rY) (he _ _ _ _ _ _ _ rY) rfl (fun b hb => hb) (fun b hb => by rw [List.mem_singleton.mp hb]; exact hSf) hpf rfl S.co turn m0 a' (m0 + 1) H2 s'' (Nat.lt_succ_self _) w' gi'⟩
end
end GE
set_option Elab.async false
set_option linter.all false
set_option maxRecDepth 100000
set_option maxHeartbeats 1000000
namespace CL
open PySem PySem.Spec PyProof.Rows L2 GE
/-! ### what a value is worth, as data -/
mutual
inductive Rp (H : Hp) : V → PyData → Prop
  | non : Rp H .non .none
  | bl (b : Bool) : Rp H (.bl b) (.bool b)
  | int (i : Int) : Rp H (.int i) (.int i)
  | str (x : Str) : Rp H (.str x) (.str x)
  | lst {a : Addr} {xs : List V} {ds : List PyData} : H a = some (.lst xs) → RpAll H xs ds → Rp H (.ref a) (.list ds)
  | tup {a : Addr} {xs : List V} {ds : List PyData} : H a = some (.tup xs) → RpAll H xs ds → Rp H (.ref a) (.tuple ds)
  | dct {a : Addr} : H a = some (.dK []) → Rp H (.ref a) (.dict [])
inductive RpAll (H : Hp) : List V → List PyData → Prop
  | nil : RpAll H [] []
  | cons {v : V} {vs : List V} {d : PyData} {ds : List PyData} : Rp H v d → RpAll H vs ds → RpAll H (v :: vs) (d :: ds)
end
/-- all stays but tables, which may grow -/
def Ex (H H' : Hp) : Prop := ∀ b o, H b = some o → H' b = some o ∨ ∃ ps qs, o = .tbl ps ∧ H' b = some (.tbl qs) ∧ TriplesOk qs.toList
theorem Ex.refl (H : Hp) : Ex H H := fun _ _ h => .inl h
theorem Ex.of {H H' : Hp} (s : Same H H') : Ex H H' := fun b o h => .inl (s b o h)
theorem Ex.trans {H H1 H2 : Hp} (a : Ex H H1) (b : Ex H1 H2) : Ex H H2 := fun c o h => by
  rcases a c o h with q | ⟨ps, qs, e, q⟩
  · exact b c o q
  · rcases b c _ q.1 with r | ⟨ps', qs', _, r⟩
    · exact .inr ⟨ps, qs, e, r, q.2⟩
    · exact .inr ⟨ps, qs', e, r⟩
theorem Ex.keep {H H' : Hp} (e : Ex H H') {b : Addr} {o : HO} (h : H b = some o) (n : ∀ ps, o ≠ .tbl ps) : H' b = some o := by
  rcases e b o h with q | ⟨ps, _, z, _⟩
  · exact q
  · exact absurd z (n ps)
theorem Ex.lst {H H' : Hp} (e : Ex H H') {b : Addr} {xs : List V} (h : H b = some (.lst xs)) : H' b = some (.lst xs) := e.keep h fun _ => nofun
theorem Ex.tup {H H' : Hp} (e : Ex H H') {b : Addr} {xs : List V} (h : H b = some (.tup xs)) : H' b = some (.tup xs) := e.keep h fun _ => nofun
theorem Ex.free {H H' : Hp} (e : Ex H H') {l : Addr} (h : H' l = none) : H l = none := by
  cases q : H l with
  | none => rfl
  | some o =>
    rcases e l o q with r | ⟨_, _, _, r, _⟩
    · rw [h] at r; cases r
    · rw [h] at r; cases r
theorem Ex.new {H : Hp} {p : Addr} {o : HO} (h : H p = none) : Ex H (upd H p o) := fun b x e => .inl (by rw [upd_ne (ne_of_none e h)]; exact e)
theorem same_upd {H : Hp} {p : Addr} {o : HO} (h : H p = none) : Same H (upd H p o) := fun b x e => by
  rw [upd_ne (ne_of_none e h)]
  exact e
mutual
theorem Rp.ex {H H' : Hp} (e : Ex H H') : ∀ (d : PyData) (v : V), Rp H v d → Rp H' v d
  | .none, _, h => by cases h; exact .non
  | .bool b, _, h => by cases h; exact .bl b
  | .int i, _, h => by cases h; exact .int i
  | .str x, _, h => by cases h; exact .str x
  | .list ds, _, h => by
    cases h with
    | lst h1 h2 => exact .lst (e.lst h1) (RpAll.ex e ds _ h2)
  | .tuple ds, _, h => by
    cases h with
    | tup h1 h2 => exact .tup (e.tup h1) (RpAll.ex e ds _ h2)
  | .dict _, _, h => by
    cases h with
    | dct h1 => exact .dct (e.keep h1 fun _ => nofun)
theorem RpAll.ex {H H' : Hp} (e : Ex H H') : ∀ (ds : List PyData) (vs : List V), RpAll H vs ds → RpAll H' vs ds
  | [], _, h => by cases h; exact .nil
  | d :: ds, _, h => by
    cases h with
    | cons h1 h2 => exact .cons (Rp.ex e d _ h1) (RpAll.ex e ds _ h2)
end
theorem RpAll.length {H : Hp} : ∀ {vs : List V} {ds : List PyData}, RpAll H vs ds → vs.length = ds.length
  | _, _, .nil => rfl
  | _, _, .cons _ t => congrArg (· + 1) (RpAll.length t)
theorem RpAll.get {H : Hp} : ∀ {vs : List V} {ds : List PyData} {i : Nat} {v : V}, RpAll H vs ds → vs[i]? = some v → ∃ d, ds[i]? = some d ∧ Rp H v d
  | _, _, _, _, .nil, e => by simp at e
  | _, _, 0, _, .cons r _, e => by simp at e; subst e; exact ⟨_, rfl, r⟩
  | _, _, i + 1, _, .cons _ t, e => by
    obtain ⟨d, h1, h2⟩ := RpAll.get (i := i) t (by simpa using e)
    exact ⟨d, by simpa using h1, h2⟩
theorem RpAll.take {H : Hp} : ∀ {vs : List V} {ds : List PyData} (n : Nat), RpAll H vs ds → RpAll H (vs.take n) (ds.take n)
  | _, _, 0, _ => .nil
  | _, _, _ + 1, .nil => .nil
  | _, _, n + 1, .cons r t => .cons r (RpAll.take n t)
theorem RpAll.append {H : Hp} : ∀ {vs ws : List V} {ds es : List PyData}, RpAll H vs ds → RpAll H ws es → RpAll H (vs ++ ws) (ds ++ es)
  | _, _, _, _, .nil, s => s
  | _, _, _, _, .cons r t, s => .cons r (RpAll.append t s)
/-! ### plans, as the document tells -/
def tyName : PyData → String
  | .none => "NoneType" | .bool _ => "bool" | .int _ => "int" | .str _ => "str" | .list _ => "list" | .tuple _ => "tuple" | .dict _ => "dict"
def rowsD : PyData → Option (List PyData)
  | .list xs => some xs
  | .tuple xs => some xs
  | _ => none
def isRow (d : PyData) : Bool := (rowsD d).isSome
def isWhole : PyData → Bool
  | .int _ => true
  | _ => false
def isIntB : PyData → Bool
  | .int _ => true
  | .bool _ => true
  | _ => false
def isBoolB : PyData → Bool
  | .bool _ => true
  | _ => false
def isNone : PyData → Bool
  | .none => true
  | _ => false
abbrev GREAT : Int := 1000000000000000000000000000000
def isPatience : PyData → Bool
  | .none => true
  | .int i => decide (0 ≤ i) && decide (i ≤ GREAT)
  | _ => false
def isTurns (d : PyData) : Bool := match rowsD d with
  | some ds => decide (1 ≤ ds.length) && decide (ds.length ≤ 8) && ds.all isPatience
  | none => false
def isMany : PyData → Bool
  | .none => true
  | .int i => decide (0 ≤ i)
  | _ => false
def isPiece (d : PyData) : Bool := match rowsD d with
  | some [t, m] => isTurns t && isMany m
  | _ => false
def sndD (d : PyData) : PyData := match rowsD d with
  | some [_, m] => m
  | _ => .none
def worth : PyData → Int
  | .int i => i
  | _ => 0
def sumSnd (ds : List PyData) : Int := (ds.map fun d => worth (sndD d)).sum
def isPlanL (ds : List PyData) : Bool := decide (1 ≤ ds.length) && decide (ds.length ≤ 8) && ds.all isPiece && !((ds.take (ds.length - 1)).any fun d => isNone (sndD d)) && decide (sumSnd ds ≤ GREAT)
def isPlan (d : PyData) : Bool := match rowsD d with
  | some ds => isPlanL ds
  | none => false
theorem Rp.ty {K : PySem.W.Frag} {H : Hp} {v : V} {d : PyData} (h : Rp H v d) : TyX K H v (.type (tyName d)) := by
  cases h with
  | non => exact .base .non
  | bl b => exact .base (.bl b)
  | int i => exact .base (.int i)
  | str x => exact .base (.str x)
  | lst h _ => exact .base (.lst h)
  | tup h _ => exact .base (.tup h)
  | dct h => exact .base (.dK h)
theorem kit_int {K : PySem.W.Frag} (d : PyData) : PySem.W.kitOne K (.type (tyName d)) (.type "int") = some (isIntB d) := by cases d <;> (refine kit_ty ?_; dsimp only [tyName, isIntB]; decide +kernel)
theorem kit_bool {K : PySem.W.Frag} (d : PyData) : PySem.W.kitOne K (.type (tyName d)) (.type "bool") = some (isBoolB d) := by cases d <;> (refine kit_ty ?_; dsimp only [tyName, isBoolB]; decide +kernel)
theorem kit_list {K : PySem.W.Frag} (d : PyData) : PySem.W.kitOne K (.type (tyName d)) (.type "list") = some (match d with | .list _ => true | _ => false) := by cases d <;> (refine kit_ty ?_; dsimp only [tyName]; decide +kernel)
theorem kit_tuple {K : PySem.W.Frag} (d : PyData) : PySem.W.kitOne K (.type (tyName d)) (.type "tuple") = some (match d with | .tuple _ => true | _ => false) := by cases d <;> (refine kit_ty ?_; dsimp only [tyName]; decide +kernel)
theorem kit_rows {K : PySem.W.Frag} (d : PyData) : PySem.W.kitAny K (.type (tyName d)) [.type "list", .type "tuple"] = some (isRow d) := by
  refine kitAny_cons (kit_list d) (fun h => kitAny_cons (kit_tuple d) (fun h2 => ?_) fun h2 => ?_) fun h => ?_
  · cases d <;> first | exact kitAny_nil | (simp at h; done) | (simp at h2; done)
  · cases d <;> first | rfl | (simp at h; done) | (simp at h2; done)
  · cases d <;> first | rfl | (simp at h; done)
/-- a row's things -/
theorem Rp.rows {H : Hp} {v : V} {d : PyData} {ds : List PyData} (h : Rp H v d) (e : rowsD d = some ds) : ∃ a xs, v = .ref a ∧ RpAll H xs ds ∧ (H a = some (.lst xs) ∨ H a = some (.tup xs)) := by
  cases h with
  | lst h1 h2 => cases e; exact ⟨_, _, rfl, h2, .inl h1⟩
  | tup h1 h2 => cases e; exact ⟨_, _, rfl, h2, .inr h1⟩
  | _ => cases e
/-! ### for x in a list or a tuple -/
structure StSeq (H : Hp) (a : Addr) (xs : List V) : Prop where
  or : H a = some (.lst xs) ∨ H a = some (.tup xs)
theorem StSeq.ex {H H' : Hp} {a : Addr} {xs : List V} (s : StSeq H a xs) (e : Ex H H') : StSeq H' a xs := ⟨s.or.elim (fun h => .inl (e.lst h)) fun h => .inr (e.tup h)⟩
theorem StSeq.sq {K : PySem.W.Frag} {H : Hp} {a : Addr} {xs : List V} (s : StSeq H a xs) : SqL K H a xs ∨ SqT K H a xs := s.or.elim (fun h => .inl (SqL.of h)) fun h => .inr (SqT.of h)
/-- the thing that is walked stands -/
def StandsAs (K : PySem.W.Frag) (a : Addr) (xs : List V) (J : It) (H : Hp) : Prop := (J = Itl K a ∧ SqL K H a xs) ∨ (J = Itt K a ∧ SqT K H a xs)
section
variable {X : Cx} {tg : Expr}
def iSeq (K : PySem.W.Frag) (tl : TE) : TI := fun σ H R => tl σ H fun x H1 => ∃ a xs, x = .ref a ∧ StSeq H1 a xs ∧ ∀ J, (∀ H2, Ex H1 H2 → StandsAs K a xs J H2) → R J H1
theorem pi_seq {l : Expr} {tl : TE} (hl : PE X l tl) : PI X tg l (iSeq X.K tl) := by
  refine ⟨fun pins s σ H R I h => ?_⟩
  refine thn (hl.run pins s σ H _ I h) fun v s1 ⟨x, H1, I1, r1, q1⟩ => ?_
  obtain ⟨a, xs, e, st, q⟩ := q1
  subst e
  cases r1
  have new : ∀ b ∈ [s1.heap.objs.size], FpOk X pins H1 b := fun b hb => by
    rw [List.mem_singleton.mp hb]
    exact I1.fpOk (Nat.le_refl _) (I1.hok.fresh (Nat.le_refl _))
  rcases st.or with hq | hq
  · obtain ⟨its, rv, p, hz⟩ := I1.list (SqL.of hq)
    exact wpAny_pyIter_list p.isList ⟨s1.heap.objs.size, [s1.heap.objs.size], _, _, H1, rfl, I1.kept (t' := s1.toks) fun b o e => Heap.get?_push_of_some _ e, turn_list a _, ⟨_, Heap.get?_push_size _ rfl, rfl, rfl⟩, new, q _ fun H2 e => .inl ⟨rfl, SqL.of (e.lst hq)⟩⟩
  · obtain ⟨its, rv, p, hz⟩ := I1.tuple (SqT.of hq)
    exact wpAny_pyIter_tuple (show s1.heap.IsTuple a its.toArray from p) ⟨s1.heap.objs.size, [s1.heap.objs.size], _, _, H1, rfl, I1.kept (t' := s1.toks) fun b o e => Heap.get?_push_of_some _ e, turn_tuple a _, ⟨_, Heap.get?_push_size _ rfl, rfl, rfl⟩, new, q _ fun H2 e => .inr ⟨rfl, SqT.of (e.tup hq)⟩⟩
end
theorem StandsAs.go {K : PySem.W.Frag} {a : Addr} {xs : List V} {J : It} {H : Hp} {i : Nat} {x : V} (s : StandsAs K a xs J H) (h : xs[i]? = some x) : J.go i H := by
  rcases s with ⟨rfl, q⟩ | ⟨rfl, q⟩ <;> exact ⟨xs, x, q, h⟩
theorem StandsAs.stop {K : PySem.W.Frag} {a : Addr} {xs : List V} {J : It} {H : Hp} {i : Nat} (s : StandsAs K a xs J H) (h : xs.length ≤ i) : J.stop i H := by
  rcases s with ⟨rfl, q⟩ | ⟨rfl, q⟩ <;> exact ⟨xs, q, h⟩
theorem StandsAs.yld {K : PySem.W.Frag} {a : Addr} {xs : List V} {J : It} {H H' : Hp} {i : Nat} {x : V} (s : StandsAs K a xs J H) (h : J.yld i H x H') : H' = H ∧ xs[i]? = some x := by
  rcases s with ⟨rfl, q⟩ | ⟨rfl, q⟩ <;> exact ⟨h.1, h.2 xs q⟩
theorem turn_by {α : Type} {K : PySem.W.Frag} {ad : Addr} {xs : List V} {J : It} {n0 : Nat} {g : TG} {tt : TT} {te : TE} {Out : α → V → Hp → (α → Hp → Prop) → Prop} {Fin : α → Hp → Prop} (Pv : α → Nat → Hp → Prop)
    (stands : ∀ a i H, Pv a i H → StandsAs K ad xs J H)
    (step : ∀ a i x H, xs[i]? = some x → Pv a i H → g x (nones n0) H fun σ2 H2 => tt σ2 H2 fun b H3 => if b = true then te σ2 H3 fun y H4 => Out a y H4 (fun a' H' => Pv a' (i + 1) H') else Pv a (i + 1) H3)
    (done : ∀ a H, Pv a xs.length H → Fin a H) : TurnOf J n0 g tt te Out Fin (fun a i m H => m = xs.length - i ∧ i ≤ xs.length ∧ Pv a i H) := by
  rintro a i m H ⟨rfl, hi, p⟩
  have s := stands a i H p
  by_cases hlt : i < xs.length
  · refine .inr ⟨s.go (List.getElem?_eq_getElem hlt), fun a' H' => Pv a' (i + 1) H', fun a' H' p' => ⟨xs.length - (i + 1), by omega, rfl, hlt, p'⟩, fun x H' y => ?_⟩
    obtain ⟨rfl, hx⟩ := s.yld y
    exact step a i x _ hx p
  · have e : i = xs.length := by omega
    subst e
    exact .inl ⟨s.stop (Nat.le_refl _), done a H p⟩
end CL
set_option Elab.async false
set_option linter.all false
set_option maxRecDepth 100000
set_option maxHeartbeats 4000000
namespace GE
open PySem PySem.Spec PyProof.Rows L2 GenW
open Sem (wp)
/-! ### a generator expression that uses names of the def around it -/
abbrev clC (X : Cx) (scope : Scope) : List (Str × Addr) := cloFrom X.env.cells scope.names []
abbrev ceC (X : Cx) (scope : Scope) (C : Addr) (code : Value) : Env := genEnv scope (clC X scope) C code builtinsNs X.env
structure GSf (X : Cx) (scope : Scope) : Prop where
  kind : scope.kind = .function
  co : scope.isCoroutine = false
  own : ∀ y ∈ scope.names, y.2 ≠ .cell
  dot : scope.names.lookup (".0" : Str) = some NameKind.local
  free : ∀ y ∈ scope.names, y.2 = .free → ∃ c, X.env.cells.lookup y.1 = some c
theorem GSf.cl_of {X : Cx} {scope : Scope} (S : GSf X scope) {x : Str} {c : Addr} (h : (clC X scope).lookup x = some c) : X.env.cells.lookup x = some c := by
  rcases cloFrom_mem (PySem.mem_of_lookup h) with z | ⟨h1, h2⟩
  · cases z
  · obtain ⟨c', e⟩ := S.free _ h1 rfl
    have e' : X.env.cells.lookup x = some c' := e
    rw [e'] at h2
    rw [e', h2]
    rfl
theorem GSf.has {X : Cx} {scope : Scope} (S : GSf X scope) {x : Str} (h : scope.names.lookup x = some .cell ∨ scope.names.lookup x = some .free) : ∃ c, (clC X scope).lookup x = some c := by
  rcases h with h | h
  · exact absurd rfl (S.own _ (PySem.mem_of_lookup h))
  · exact mem_lookup (cloFrom_has (PySem.mem_of_lookup h))
section
variable {X : Cx} {pins : List (Addr × Obj)} {σ : L2.St} {H : Hp} {s : Shared}

theorem ge_startC {A : Around} {N : List Str} {scope : Scope} {code : Value} {fp : List Addr} {go : Obj} {G : Array GenState} {tk : Nat} {h5 : Heap} {m0 : Str → Option Value} (I : Inv X pins σ H s) (S : GSf X scope) (hA : A.handled = none) (hf : A.frames = some X.stack)
    (hfp : ∀ b ∈ fp, FpOk X pins H b ∧ b < s.heap.objs.size) (hG : AllBare G) (hns : h5.Ns s.heap.objs.size m0) (hk : ∀ b o, s.heap.get? b = some o → h5.get? b = some o) (hgo : h5.get? (s.heap.objs.size + 1) = some go) (hgd : ∀ v, go.data ≠ .cell v) :
    Inv (gx X A N s H (ceC X scope s.heap.objs.size code) fp [(s.heap.objs.size + 1, go)]) [] (nones N.length) H { s with gens := G, toks := tk, heap := h5 } := by
  have noc : ∀ x c, (ceC X scope s.heap.objs.size code).cells.lookup x = some c → X.env.cells.lookup x = some c := fun x c e => S.cl_of e
  have stkne : ∀ b, s.heap.objs.size ≤ b → b ∉ frs X.stack := fun b hb z => by
    rcases List.mem_cons.mp (I.stkSub b z) with e | e
    · exact absurd (Nat.lt_of_lt_of_le I.lt (by rw [← e]; exact hb)) (Nat.lt_irrefl _)
    · exact I.nofs hb e
  refine ⟨⟨I.ok.mod, S.kind, I.ok.glob, rfl, Nat.le_refl _, fun x y c h1 h2 => I.ok.inj x y c (noc x c h1) (noc y c h2), fun x hx => S.has hx, fun x c h _ => (by cases h), fun _ => hA, Around.frames_deeper hf, .inr ⟨rfl, rfl⟩, fun b hb => ⟨Nat.ne_of_lt (hfp b hb).2, fun x c e => ((hfp b hb).1.2.2.2.2.1 x c (noc x c e))⟩,
    I.bs, Nat.le_trans I.ok.bsz I.sz, fun b o e hb => ?_, fun b hb z => ?_, I.stack, I.stkFree⟩, rfl, hG, Un.kept hk, ⟨m0, hns, fun i x v _ h2 _ => (nones_some h2).elim⟩, fun x c e => (I.cell x c (noc x c e)).imp fun v hv => hv.keeps hk, I.hok.fresh (Nat.le_refl _), fun x c e => I.freeC x c (noc x c e), fun p hp => ?_, I.hok.kept hk, List.length_replicate⟩
  · rcases (hfp b hb).1.2.2.2.1 with z | z
    · exact I.ok.noex b o e z
    · exact absurd (Nat.lt_of_lt_of_le (Heap.lt_size e) (Nat.le_trans I.ok.bsz z)) (Nat.lt_irrefl _)
  · rcases List.mem_cons.mp (I.stkSub b z) with e | e
    · exact (hfp b hb).1.2.1 e
    · exact (hfp b hb).1.2.2.1 e
  · have hp' : p ∈ [(s.heap.objs.size + 1, go)] := by simpa using hp
    rw [List.mem_singleton.mp hp']
    exact ⟨hgo, I.hok.fresh (Nat.le_succ _), Nat.succ_ne_self _, stkne _ (Nat.le_succ _), hgd⟩


theorem gen_makeC {c P : Addr} {elt tg iter : Expr} {ifs : List Expr} {gpos : Pos} {scope : Scope} {wi : TI} {k : Nat} {Q' : Value → Shared → Prop} {R : It → Hp → Prop}
    (hr : Room k X.A) (TB : GxR.TabB X.base X.mg c P) (hcode : X.env.code = .ref c) (S : GSf X scope) (hi : PI X tg iter wi) (hs : ∀ v, genFold iter X.env v = pure v) (I : Inv X pins σ H s) (h : wi σ H fun J H1 => GxR.TabG H1 P ∧ R J H1)
    (hQ : ∀ J H1 H2 s4 s5 code fp it tn go g, R J H1 → GxR.Tabbed P H1 H2 → Inv X pins σ H2 s4 → (∀ b ∈ fp, FpOk X pins H2 b ∧ b < s4.heap.objs.size) → Turn X.prog X.w X.K tg J fp it tn → tn 0 s5.heap →
      (∀ A N, A.handled = none → A.frames = some X.stack → Inv (gx X A N s4 H2 (ceC X scope s4.heap.objs.size code) fp [(s4.heap.objs.size + 1, go)]) [] (nones N.length) H2 s5) →
      (∀ h : Heap, h.get? (s4.heap.objs.size + 1) = some go → h.IsGen (s4.heap.objs.size + 1) g) →
      s5.gens[g]? = some (.fresh (.compStart (.GeneratorExp elt [⟨tg, iter, ifs, 0⟩] scope gpos) 0 (.ref it) .none (ceC X scope s4.heap.objs.size code))) → Q' (.ref (s4.heap.objs.size + 1)) s5) :
    wpAny (model X.prog X.w) X.A (eval (.GeneratorExp elt [⟨tg, iter, ifs, 0⟩] scope gpos) X.env) Q' X.xe s := by
  have hcl : closureFor scope X.env = pure (clC X scope) := closure_ok S.free
  refine wpAny_GeneratorExp_make S.co hcl S.own S.dot S.kind (by have := hr.dp; omega) (thn (hi.run pins s σ H _ I h) fun xv s1 hx => thn hx fun itv s2 h2 => ?_) hs
  obtain ⟨it, fp, tn, J, H1, e, I2, T, st2, f2, ⟨ps, hP, ht⟩, q1⟩ := h2
  subst e
  have hPs : s2.heap.get? P = some { cls := .none, data := .fields ps } := I2.hok P _ hP
  have cd : PySem.W.CodeHd s2.heap c P := TB.code.keeps fun b u e => I2.bk b u e
  have nfp : ∀ b ∈ fp, b ≠ P := fun b hb z => by
    have := (f2 b hb).1
    rw [z, hP] at this
    cases this
  have szf : ∀ b ∈ fp, b < s2.heap.objs.size := fun b hb => by
    obtain ⟨o, e, _⟩ := T.obj _ _ st2 b hb
    exact Heap.lt_size e
  have cont : ∀ (code : Value) (h3 : Heap) (tk : Nat) (ps' : Array Value), Heap.ExtBut P s2.heap h3 → s2.heap.objs.size ≤ h3.objs.size → h3.get? P = some { cls := .none, data := .fields ps' } → (∃ more, ps' = ps ++ more) → TriplesOk ps'.toList →
      wpAny (model X.prog X.w) X.A (builtinsFor X.env.globals X.env.builtins) (fun bi s4 =>
        ∀ h', h'.Ns s4.heap.objs.size (fun y => if y = ".0" then some (.ref it) else none) → Heap.SameBut s4.heap.objs.size (s4.heap.push { cls := .type "frame", data := .dict #[] }) h' →
          Q' (.ref h'.objs.size) { s4 with
            gens := s4.gens.push (.fresh (.compStart (.GeneratorExp elt [⟨tg, iter, ifs, 0⟩] scope gpos) 0 (.ref it) .none (genEnv scope (clC X scope) s4.heap.objs.size code bi X.env))),
            toks := s4.toks + 1 + 1 + 1,
            heap := h'.push { cls := .type "generator", data := .fields #[.int s4.gens.size 0, .str "<genexpr>" (s4.toks + 1), .str (X.env.qual ++ "<genexpr>") (s4.toks + 1 + 1)] } }) X.xe { s2 with heap := h3, toks := tk } := by
    intro code h3 tk ps' hx hsz hP3 hmore ht3
    obtain ⟨bm, ob, e1, e2, e3, e4, e5, e6, e7, e8⟩ := TB.bm
    obtain ⟨more, rfl⟩ := hmore
    have I3 : Inv X pins σ (upd H1 P (.tbl (ps ++ more))) { s2 with heap := h3, toks := tk } := GxR.inv_tab (more := more) (g' := s2.gens) (d' := s2.drawn) I2 hP (fun b u hb e => hx b u hb e) hP3 I2.bare
    have tab : GxR.Tabbed P H1 (upd H1 P (.tbl (ps ++ more))) := ⟨⟨_, upd_same, ht3⟩, fun b hb => upd_ne hb⟩
    have st3 : tn 0 h3 := T.keep _ _ _ st2 fun b hb o e => hx b o (nfp b hb) e
    have f3 : ∀ b ∈ fp, FpOk X pins (upd H1 P (.tbl (ps ++ more))) b ∧ b < h3.objs.size := fun b hb =>
      ⟨⟨by rw [upd_ne (nfp b hb)]; exact (f2 b hb).1, (f2 b hb).2⟩, Nat.lt_of_lt_of_le (szf b hb) hsz⟩
    refine wpAny_builtinsFor (m := X.mg) (by rw [I3.ok.glob]; exact I3.mod.glob.keeps I3.bk) e1 e2 (I3.bk _ _ e5) e6 e7 e8 ?_
    intro h' hns hsb
    have hsz' : h'.objs.size = h3.objs.size + 1 := by rw [hsb.1, Heap.size_push]
    have keep' : ∀ b o, h3.get? b = some o → h'.get? b = some o := fun b o e => hsb.extBut b o (Nat.ne_of_lt (Heap.lt_size e)) (Heap.get?_push_of_some _ e)
    have main : ∀ (go : Obj), go.cls = .type "generator" → (∃ nm qn, go.data = .fields #[.int s2.gens.size 0, nm, qn]) → go.slots = #[] → (∀ h : Heap, (h.push go).get? h.objs.size = some go) → ∀ t',
        Q' (.ref h'.objs.size) { s2 with heap := h'.push go, toks := t', gens := s2.gens.push (.fresh (.compStart (.GeneratorExp elt [⟨tg, iter, ifs, 0⟩] scope gpos) 0 (.ref it) .none (genEnv scope (clC X scope) h3.objs.size code builtinsNs X.env))) } := by
      intro go gc ⟨nm, qn, gd⟩ gsl gp t'
      have hgp := gp h'
      rw [hsz'] at hgp ⊢
      have keep5 : ∀ b o, h3.get? b = some o → (h'.push go).get? b = some o := fun b o e => Heap.get?_push_of_some _ (keep' b o e)
      refine hQ J H1 (upd H1 P (.tbl (ps ++ more))) { s2 with heap := h3, toks := tk } _ code fp it tn go s2.gens.size q1 tab I3 f3 T (T.keep _ _ _ st3 fun b _ o e => keep5 b o e) (fun A N hA hf => ?_) (fun h e => ⟨go, nm, qn, e, gc, gd, gsl⟩) (Array.getElem?_push_size ..)
      exact ge_startC (s := { s2 with heap := h3, toks := tk }) I3 S hA hf f3 (I2.bare.push rfl) (hns.push _) keep5 hgp (fun v z => by rw [gd] at z; cases z)
    exact main _ rfl ⟨_, _, rfl⟩ rfl (fun h => Heap.get?_push_size _ rfl) _
  refine ⟨I2.nolimit, ?_⟩
  cases hf : codeAmong gpos ps.toList with
  | none =>
    refine wpAny_genexprCodeX hcode (cd.code hPs ht) (cd.tab hPs) hf fun c' h' tk hx hge hlt hco' _ htab' _ => ?_
    obtain ⟨o1, vs, f1, tf, fl, tg', inF, tx, tt, op, _, _, _, _, _, _, _, _, _, htr, _⟩ := hco'
    exact cont _ h' tk _ hx (Nat.le_trans hge (Nat.le_of_lt hlt)) htab'.2 ⟨_, rfl⟩ htr
  | some cv =>
    refine wpAny_genexprCode_hit hcode (cd.code hPs ht) hf ?_
    exact cont cv s2.heap s2.toks ps (Heap.ExtBut.refl _ _) (Nat.le_refl _) hPs ⟨#[], by simp⟩ ht



theorem pe_allC {N : List Str} {c P : Addr} {elt tg iter : Expr} {ifs : List Expr} {p pos gpos : Pos} {scope : Scope} {wi : TI} {g : TG} {tt : TT} {te : TE} {k : Nat}
    (hr : Room (k + 1) X.A) (hgl : Gl X "all") (hm : X.mg "all" = none) (TB : GxR.TabB X.base X.mg c P) (hcode : X.env.code = .ref c) (S : GSf X scope) (hi : PI X tg iter wi)
    (hg : ∀ (A : Around) (s : Shared) (H : Hp) (C : Addr) (code : Value) (fp : List Addr) (pn : List (Addr × Obj)), Room k (A.deeper (ceC X scope C code)) → PG (gx X A N s H (ceC X scope C code) fp pn) tg g)
    (ht : ∀ (A : Around) (s : Shared) (H : Hp) (C : Addr) (code : Value) (fp : List Addr) (pn : List (Addr × Obj)), Room k (A.deeper (ceC X scope C code)) → PTs (gx X A N s H (ceC X scope C code) fp pn) ifs tt)
    (he : ∀ (A : Around) (s : Shared) (H : Hp) (C : Addr) (code : Value) (fp : List Addr) (pn : List (Addr × Obj)), Room k (A.deeper (ceC X scope C code)) → PE (gx X A N s H (ceC X scope C code) fp pn) elt te)
    (hs : ∀ v, genFold iter X.env v = pure v := by intro _; rfl)
    (hb : bootBuiltins "all" = some (.builtin "all") := by decide +kernel)
    (hst : starEach [.GeneratorExp elt [⟨tg, iter, ifs, 0⟩] scope gpos] X.env = (false, eval (.GeneratorExp elt [⟨tg, iter, ifs, 0⟩] scope gpos) X.env) :: starEach [] X.env := by rfl) :
    PE X (.Call (.Name "all" p) [.GeneratorExp elt [⟨tg, iter, ifs, 0⟩] scope gpos] [] pos) (tGen P N.length wi g tt te outAll true) := by
  refine ⟨fun pins s σ H Q I h => ?_⟩
  refine wpAny_Call_Name_kw (ld_blt I hgl hm hb ?_)
  refine PyProof.Rows.callWith_builtin1 ?_ hst (by rfl)
  rw [hst]
  show wpAny _ _ (spliced ((false, eval (.GeneratorExp elt [⟨tg, iter, ifs, 0⟩] scope gpos) X.env) :: backTo pos (starEach [] X.env))) _ _ s
  refine Calls.spliced_cons (gen_makeC hr TB hcode S hi hs I h fun J H1 H2 s4 s5 code fp it tn go gn hR tab I4 f4 T st5 mk hgo hgs => ?_)
  refine Calls.spliced_nil ?_
  obtain ⟨W, ⟨m0, w0⟩, turn⟩ := hR H2 tab
  have rY := room3 hr (ceC X scope s4.heap.objs.size code)
  have I5 := mk X.A.in1.in1 N hr.hd I.ok.frames
  generalize hpn : [(s4.heap.objs.size + 1, go)] = pn at I5
  have hpm : (s4.heap.objs.size + 1, go) ∈ pn := by rw [← hpn]; exact List.mem_singleton.mpr rfl
  have hpf : ∀ p ∈ pn, p.1 ∉ fp := fun p hp z => by
    rw [← hpn] at hp
    rw [List.mem_singleton.mp hp] at z
    exact absurd (f4 _ z).2 (Nat.not_lt.mpr (Nat.le_succ _))
  have gi0 : GI (gx X X.A.in1.in1 N s4 H2 (ceC X scope s4.heap.objs.size code) fp pn) conU fp tn () 0 H2 s5 := ⟨I5, trivial, st5, fun b hb => (f4 b hb).1.1⟩
  have isg := hgo _ (I5.pin _ (List.mem_append_left _ hpm)).1
  refine call_function_tree F.kind_all F.plain_all F.entry_all (F.args_all1 _) ?_
  unfold Builtin.«all»
  refine wpAny_bind (m := oneArg "all" _) (wpAny_pure ?_)
  refine wpAny_bind (wpAny_pyIter_gen isg ?_)
  refine wpAny_pure ⟨plainId_quiet F.plain_all_loop _, ?_⟩
  refine all_loop (Y := gx X X.A.in1.in1 N s4 H2 (ceC X scope s4.heap.objs.size code) fp pn) (A := X.A) (g := gn) (QB := fun b H => Q (.bl b) H) hr.hd hr.depth hpm hgo (fun b s' H' I' q => ?_) (m0 + 1) 0 H2 (fun a H => W a 0 m0 H) s5 _ hgs gi0 w0 (fun a' s'' gi' w' => ?_)
  · exact ⟨.bl b, H', ge_back I4 f4 I', rfl, q⟩
  · exact ⟨rfl, seg_start (Y := gx X X.A.in1.in1 N s4 H2 (ceC X scope s4.heap.objs.size code) fp pn) conU_ok rfl T (hg _ _ _ _ _ _ _ rY) (ht _ _ _ _ _ _ _ rY) (he _ _ _ _ _ _ _ rY) rfl (fun b hb => hb) (fun b hb => nomatch hb) hpf rfl S.co turn m0 a' (m0 + 1) H2 s'' (Nat.lt_succ_self _) w' gi'⟩
end
end GE
set_option Elab.async false
set_option linter.all false
set_option maxRecDepth 100000
set_option maxHeartbeats 1000000
namespace GV
open PySem PySem.Spec PyProof.Rows L2 GenW GE
open Sem (wp)
/-! ### a generator expression that reads names of the def around it: ζ holds their values -/
def Keeps (ζ σ : L2.St) : Prop := ∀ (j : Nat) (v : V), ζ[j]? = some (some v) → σ[j]? = some (some v)
section
variable {α : Type}
def GI (ζ : L2.St) (Y : Cx) (C : Con α) (fpI : List Addr) (tn : Nat → Heap → Prop) (a : α) (i : Nat) (H : Hp) (s : Shared) : Prop :=
  Inv Y (pinsAt C.fp s.heap) (ζ) H s ∧ C.at_ a s.heap ∧ tn i s.heap ∧ ∀ b ∈ fpI, H b = none
def GP (ζ : L2.St) (Y : Cx) (C : Con α) (fpI : List Addr) (tn : Nat → Heap → Prop) (Out : α → V → Hp → (α → Hp → Prop) → Prop) : Protocol := fun _ s₀ v s kap =>
  ∃ a i H y Nx, RelV y v ∧ GI ζ Y C fpI tn a i H s ∧ Out a y H Nx ∧ (∀ b ∈ C.fp, ∀ o, s₀.heap.get? b = some o → s.heap.get? b = some o) ∧ ∀ a' s'', GI ζ Y C fpI tn a' i H s'' → Nx a' H → kap (.send .none) s''
def GF (ζ : L2.St) (Y : Cx) (C : Con α) (Fin : α → Hp → Prop) : Nat → Shared → Shared → Prop := fun _ s₀ s₁ =>
  ∃ a H, Inv Y (pinsAt C.fp s₁.heap) (ζ) H s₁ ∧ C.at_ a s₁.heap ∧ (∀ b ∈ C.fp, ∀ o, s₀.heap.get? b = some o → s₁.heap.get? b = some o) ∧ Fin a H
abbrev GRr (ζ : L2.St) (Y : Cx) (C : Con α) (Fin : α → Hp → Prop) : GenEnd := fun n s₀ r s₁ => r = .ok .next ∧ GF ζ Y C Fin n s₀ s₁
def TurnV (J : It) (ζ : L2.St) (g : TG) (tt : TT) (te : TE) (Out : α → V → Hp → (α → Hp → Prop) → Prop) (Fin : α → Hp → Prop) (W : α → Nat → Nat → Hp → Prop) : Prop :=
  ∀ a i m H, W a i m H → (J.stop i H ∧ Fin a H) ∨ (J.go i H ∧ ∃ Nx : α → Hp → Prop, (∀ a' H', Nx a' H' → ∃ m', m' < m ∧ W a' (i + 1) m' H') ∧
    ∀ x H', J.yld i H x H' → g x ζ H' fun σ2 H2 => Keeps ζ σ2 ∧ tt σ2 H2 fun b H3 => if b = true then te σ2 H3 fun y H4 => Out a y H4 Nx else Nx a H3)

section
variable {ζ : L2.St} {Y : Cx} {C : Con α} {tg elt iter : Expr} {ifs : List Expr} {scope : Scope} {pos : Pos} {J : It} {fpI : List Addr} {it : Addr} {tn : Nat → Heap → Prop} {g : TG} {tt : TT} {te : TE}
  {Out : α → V → Hp → (α → Hp → Prop) → Prop} {Fin : α → Hp → Prop} {W : α → Nat → Nat → Hp → Prop} {A : Around}
/-- the loop of a generator expression -/
theorem seg_loop (CO : ConOk C) (hcalm : Y.calm = true) (T : Turn Y.prog Y.w Y.K tg J fpI it tn) (hg : PG Y tg g) (ht : PTs Y ifs tt) (he : PE Y elt te) (hA : A.deeper Y.env = Y.A)
    (hex : ∀ b ∈ fpI, b ∈ Y.ex) (hdis : ∀ b ∈ C.fp, b ∉ fpI) (hpn : ∀ p ∈ Y.pn, p.1 ∉ fpI) (hxe : Y.xe = fun _ _ => False) (hco : Y.env.scope.isCoroutine = false) (hz : ζ.length = Y.N.length) (turn : TurnV J ζ g tt te Out Fin W) :
    ∀ (m : Nat) (a : α) (i n : Nat) (H : Hp) (s₀ s : Shared), m < n → W a i m H → GI ζ Y C fpI tn a i H s → (∀ b ∈ C.fp, ∀ o, s₀.heap.get? b = some o → s.heap.get? b = some o) →
      Seg (model Y.prog Y.w) A (GRr ζ Y C Fin) (GP ζ Y C fpI tn Out) n s₀ (.compLoop (.GeneratorExp elt [⟨tg, iter, ifs, 0⟩] scope pos) 0 (.ref it) .none Y.env)
        ((model Y.prog Y.w).den (.compLoop (.GeneratorExp elt [⟨tg, iter, ifs, 0⟩] scope pos) 0 (.ref it) .none Y.env)) [] s := by
  have ov : A.over (.compLoop (.GeneratorExp elt [⟨tg, iter, ifs, 0⟩] scope pos) 0 (.ref it) .none Y.env) [] = Y.A := over_loopG.trans hA
  have stat : ∀ {pins : List (Addr × Obj)} {σ' : L2.St} {H' : Hp} {s' : Shared}, Inv Y pins σ' H' s' → (∀ p ∈ pins, p.1 ∉ fpI) → (∀ b ∈ fpI, H' b = none) → ∀ b ∈ fpI, FpOk Y pins H' b := fun {pins σ' H' s'} I' hp hn b hb =>
    ⟨hn b hb, (I'.ok.exf b (hex b hb)).1, I'.ok.exfs b (hex b hb), .inl (hex b hb), fun x c e => (I'.ok.exf b (hex b hb)).2 x c e, fun p hp' z => (List.mem_append.mp hp').elim (fun q => hpn p q (z ▸ hb)) fun q => hp p q (z ▸ hb)⟩
  have pinN : ∀ h : Heap, ∀ p ∈ pinsAt C.fp h, p.1 ∉ fpI := fun h p hp => hdis p.1 (of_pinsAt hp).1
  intro m
  induction m using Nat.strongRecOn with
  | ind m ih =>
    intro a i n H s₀ s hmn hw hGI since
    obtain ⟨I, hat, st, hn0⟩ := hGI
    show Seg _ A _ _ n s₀ _ ((compTurn (.GeneratorExp elt [⟨tg, iter, ifs, 0⟩] scope pos) 0 (.ref it) .none Y.env).onRaise (leaving Y.env)) [] s
    rw [compTurn_gen, Sem.onRaise_eq_wrap]
    refine seg_bind_wrap (wpAny_standAt ?_)
    have sf := stat I (pinN s.heap) hn0
    rcases turn a i m H hw with ⟨stop, fin⟩ | ⟨go, Nx, hNx, step⟩
    · refine seg_bind_wrap ?_
      rw [ov]
      refine thnF (T.done Y rfl rfl rfl hcalm i _ s _ H (fun _ _ => False) I sf st stop) fun r s1 ⟨hr, I1⟩ => ?_
      subst hr
      have hk : ∀ b ∈ C.fp, ∀ o, s.heap.get? b = some o → s1.heap.get? b = some o := fun b hb o e => (I1.pin (b, o) (List.mem_append_right _ (mem_pinsAt hb e))).1
      refine seg_end (.ok .next) ⟨rfl, a, H, I1.pins_of fun p hp => ?_, CO.keep _ _ _ hat hk, fun b hb o e => hk b hb o (since b hb o e), fin⟩
      obtain ⟨hb, e⟩ := of_pinsAt hp
      obtain ⟨o, e2, _⟩ := CO.obj _ _ hat p.1 hb
      have e3 := hk p.1 hb o e2
      rw [e] at e3
      cases e3
      exact I1.pin (p.1, p.2) (List.mem_append_right _ (mem_pinsAt hb e2))
    · refine seg_bind_wrap ?_
      rw [ov]
      refine thnF (T.item Y rfl rfl rfl hcalm i _ s _ H (fun _ _ => False) I sf st go) fun r s1 ⟨u, hr, h1⟩ => ?_
      subst hr
      refine seg_bind_wrap ?_
      rw [ov]
      refine thnF h1 fun _ s2 ⟨x, H2, I2, r2, y2, st2, n2⟩ => ?_
      have I2' := I2.pinned (stat I2 (pinN s.heap) n2) (T.obj _ _ st2)
      refine seg_bind_wrap ?_
      rw [ov]
      have xf : ∀ {β : Type} {t : Sem β} {P P' : β → Shared → Prop} {E' : Value → Shared → Prop} {z : Shared}, wpAny (model Y.prog Y.w) Y.A t P Y.xe z → (∀ a s, P a s → P' a s) → wpAny (model Y.prog Y.w) Y.A t P' E' z := fun {β t P P' E' z} q hq => by
        rw [hxe] at q
        exact thnF q hq
      refine xf (hg.run _ s2 _ H2 x u _ I2' r2 (step x H2 y2)) fun _ s3 ⟨σ3, H3, I3, kz, q3⟩ => ?_
      refine seg_bind_wrap ?_
      rw [ov]
      refine xf (ht.run _ s3 σ3 H3 _ I3 q3) fun ok s4 ⟨H4, I4, q4⟩ => ?_
      -- what stands at a turn's end
      have fin : ∀ {s' : Shared} {H' : Hp}, Inv Y (pinsAt C.fp s.heap ++ pinsAt fpI s2.heap) σ3 H' s' →
          GI ζ Y C fpI tn a (i + 1) H' s' ∧ ∀ b ∈ C.fp, ∀ o, s₀.heap.get? b = some o → s'.heap.get? b = some o := fun {s' H'} I' => by
        have hk : ∀ b ∈ C.fp, ∀ o, s.heap.get? b = some o → s'.heap.get? b = some o := fun b hb o e => (I'.pin (b, o) (List.mem_append_right _ (List.mem_append_left _ (mem_pinsAt hb e)))).1
        have pin' : ∀ b ∈ fpI, ∀ o, s2.heap.get? b = some o → s'.heap.get? b = some o ∧ H' b = none := fun b hb o e =>
          let z := I'.pin (b, o) (List.mem_append_right _ (List.mem_append_right _ (mem_pinsAt hb e)))
          ⟨z.1, z.2.1⟩
        have I1 : Inv Y (pinsAt C.fp s'.heap) σ3 H' s' := I'.pins_of fun p hp => by
          obtain ⟨hb, e⟩ := of_pinsAt hp
          obtain ⟨o, e2, _⟩ := CO.obj _ _ hat p.1 hb
          have e3 := hk p.1 hb o e2
          rw [e] at e3
          cases e3
          exact I'.pin (p.1, p.2) (List.mem_append_right _ (List.mem_append_left _ (mem_pinsAt hb e2)))
        refine ⟨⟨I1.weak (by rw [I1.len, hz]) kz, CO.keep _ _ _ hat hk, T.keep _ _ _ st2 fun b hb o e => (pin' b hb o e).1, fun b hb => ?_⟩, fun b hb o e => hk b hb o (since b hb o e)⟩
        obtain ⟨o, e, _⟩ := T.obj _ _ st2 b hb
        exact (pin' b hb o e).2
      cases ok with
      | false =>
        simp only [Bool.false_eq_true, if_false] at q4 ⊢
        obtain ⟨f1, f2⟩ := fin I4
        obtain ⟨m', hm', w'⟩ := hNx a H4 q4
        exact seg_again rfl (ih m' hm' a (i + 1) n H4 s₀ s4 (by omega) w' f1 f2)
      | true =>
        simp only [if_true] at q4 ⊢
        obtain ⟨n', rfl⟩ : ∃ n', n = n' + 1 := ⟨n - 1, by omega⟩
        have hy : ∀ v, yieldOut Y.env v = yieldValue v := fun v => by simp only [yieldOut, hco, Bool.false_eq_true, if_false]
        simp only [hy]
        rw [Sem.bind_eq_wrap', Sem.bind_eq_wrap', Sem.wrap_wrap, Sem.wrap_wrap]
        refine seg_wrap ?_
        rw [ov]
        refine xf (he.run _ s4 σ3 H4 _ I4 q4) fun y s5 ⟨yv, H5, I5, r5, o5⟩ => ?_
        obtain ⟨f1, f2⟩ := fin I5
        refine seg_at (seg_yield rfl rfl rfl ⟨a, i + 1, H5, yv, Nx, r5, f1, o5, f2, fun a' s'' hGI' hN' => ?_⟩)
        obtain ⟨m', hm', w'⟩ := hNx a' H5 hN'
        exact seg_again rfl (ih m' hm' a' (i + 1) n' H5 s'' s'' (by omega) w' hGI' fun _ _ _ e => e)

/-- .. and its start -/
theorem seg_start (CO : ConOk C) (hcalm : Y.calm = true) (T : Turn Y.prog Y.w Y.K tg J fpI it tn) (hg : PG Y tg g) (ht : PTs Y ifs tt) (he : PE Y elt te) (hA : A.deeper Y.env = Y.A)
    (hex : ∀ b ∈ fpI, b ∈ Y.ex) (hdis : ∀ b ∈ C.fp, b ∉ fpI) (hpn : ∀ p ∈ Y.pn, p.1 ∉ fpI) (hxe : Y.xe = fun _ _ => False) (hco : Y.env.scope.isCoroutine = false) (hz : ζ.length = Y.N.length) (turn : TurnV J ζ g tt te Out Fin W)
    (m : Nat) (a : α) (n : Nat) (H : Hp) (s : Shared) (hm : m < n) (hw : W a 0 m H) (hGI : GI ζ Y C fpI tn a 0 H s) :
      Seg (model Y.prog Y.w) A (GRr ζ Y C Fin) (GP ζ Y C fpI tn Out) n s (.compStart (.GeneratorExp elt [⟨tg, iter, ifs, 0⟩] scope pos) 0 (.ref it) .none Y.env)
        ((model Y.prog Y.w).den (.compStart (.GeneratorExp elt [⟨tg, iter, ifs, 0⟩] scope pos) 0 (.ref it) .none Y.env)) [] s := by
  have loop := seg_loop (iter := iter) (scope := scope) (pos := pos) CO hcalm T hg ht he hA hex hdis hpn hxe hco hz turn m a 0 n H s s hm hw hGI fun _ _ _ e => e
  show Seg _ A _ _ _ s _ ((compStart (.GeneratorExp elt [⟨tg, iter, ifs, 0⟩] scope pos) 0 (.ref it) .none Y.env).onRaise (leaving Y.env)) [] s
  unfold compStart
  rw [Sem.onRaise_eq_wrap]
  show Seg _ A _ _ _ s _ ((ask >>= _).wrap _ _ _ _) [] s
  refine seg_bind_wrap (wpAny_askSetting ?_)
  split
  · exact seg_again rfl loop
  · first
      | exact seg_bind_wrap (wpAny_rule (seg_bind_wrap (wpAny_standAt (seg_bind_wrap (T.self _ 0 s _ _ hGI.2.2.1 (seg_again rfl loop))))))
      | (refine seg_bind_wrap (wpAny_rule ?_); show Seg _ A _ _ _ s _ ((standAt iter.pos >>= _).wrap _ _ _ _) [] s; exact seg_bind_wrap (wpAny_standAt (seg_bind_wrap (T.self _ 0 s _ _ hGI.2.2.1 (seg_again rfl loop)))))

/-- one item of such a generator -/
theorem next_ge {A : Around} {ga : Addr} {go : Obj} {g i n : Nat} {gs : GenState} {a : α} {H : Hp} {Nx : α → Hp → Prop} {s : Shared} {Q : Option Value → Shared → Prop} {E : Value → Shared → Prop}
    (CO : ConOk C) (hh : A.handled = none) (hd : A.depth < recursionLimit) (hpn : (ga, go) ∈ Y.pn) (hgo : ∀ h : Heap, h.get? ga = some go → h.IsGen ga g) (hgs : s.gens[g]? = some gs)
    (gi : GI ζ Y C fpI tn a i H s) (hN : Nx a H)
    (goes : ∀ a' s'', GI ζ Y C fpI tn a' i H s'' → Nx a' H → gs.Goes (model Y.prog Y.w) A.in1 (GRr ζ Y C Fin) (GP ζ Y C fpI tn Out) n (.send .none) s'')
    (hsome : ∀ i1 H1 y v Nx1 s1 gs1, RelV y v → GI ζ Y C fpI tn a i1 H1 s1 → Out a y H1 Nx1 → s1.gens[g]? = some gs1 →
      GoOn (model Y.prog Y.w) A.in1 (GRr ζ Y C Fin) (GP ζ Y C fpI tn Out) (fun a' s'' => GI ζ Y C fpI tn a' i1 H1 s'') (fun a' => Nx1 a' H1) gs1 n → Q (some v) s1)
    (hnone : ∀ H1 s1, Inv Y (pinsAt C.fp s1.heap) (ζ) H1 s1 → C.at_ a s1.heap → Fin a H1 → Q none s1) :
    wpAny (model Y.prog Y.w) A (pyNext (.ref ga)) Q E s := by
  obtain ⟨I, hat, st, hn0⟩ := id gi
  have hlt : g < s.gens.size := by
    rcases Nat.lt_or_ge g s.gens.size with h' | h'
    · exact h'
    · rw [Array.getElem?_eq_none h'] at hgs; cases hgs
  refine wpAny_gsz (n := g + 1) hlt ?_
  have gi' : GI ζ Y C fpI tn a i H (s.setGen g .running) := ⟨Inv.gensG I (bare_setGen I.bare rfl), hat, st, hn0⟩
  have hig : s.heap.IsGen ga g := hgo _ (I.pin (ga, go) (List.mem_append_left _ hpn)).1
  refine wpAny_pyNext_genexpQ (P := GF ζ Y C Fin) (Y := GP ζ Y C fpI tn Out) hh I.nolimit hd hig hgs (goes a _ gi' hN) (fun v s1 gs1 hb hv => ?_) (fun s1 hp h' hk => ?_)
  · obtain ⟨a1, i1, H1, y, Nx1, rv, gi1, o1, since, kap⟩ := hv
    have hat1 : C.at_ a s1.heap := CO.keep _ _ _ hat since
    have ea : a1 = a := CO.inj _ _ _ gi1.2.1 hat1
    subst ea
    intro hsz
    have hlt1 : g < s1.gens.size := by
      rw [setGen_size] at hsz
      exact hsz
    have gi2 : GI ζ Y C fpI tn a1 i1 H1 (s1.setGen g gs1) := ⟨Inv.gensG gi1.1 (bare_setGen gi1.1.bare hb), gi1.2.1, gi1.2.2.1, gi1.2.2.2⟩
    refine hsome i1 H1 y v Nx1 _ gs1 rv gi2 o1 (by simp [Shared.setGen, hlt1]) ?_
    cases n with
    | zero => exact fun a' s'' q1 q2 => kap a' s'' q1 q2
    | succ n1 => exact fun a' s'' q1 q2 => kap a' s'' q1 q2
  · obtain ⟨a1, H1, I1, hat1, since, fin⟩ := hp
    have ea : a1 = a := CO.inj _ _ _ hat1 (CO.keep _ _ _ hat since)
    subst ea
    intro _
    have I2 : Inv Y (pinsAt C.fp s1.heap) (ζ) H1 { s1.setGen g .finished with heap := h' } := (Inv.gensG I1 (bare_setGen (x := .finished) (g := g) I1.bare rfl)).kept (t' := s1.toks) hk
    exact hnone H1 _ (GE.repin CO hat1 I2 fun b _ o e => hk b o e) (CO.keep _ _ _ hat1 fun b _ o e => hk b o e) fin
end
end

section
variable {ζ : L2.St} {Y : Cx} {fpI : List Addr} {tn : Nat → Heap → Prop}
theorem all_loop {A : Around} {ga : Addr} {go : Obj} {g : Nat} {QB : Bool → Hp → Prop} {R : Result → Shared → Prop} (hh : A.handled = none) (hd : A.depth < recursionLimit) (hpn : (ga, go) ∈ Y.pn) (hgo : ∀ h : Heap, h.get? ga = some go → h.IsGen ga g)
    (hR : ∀ b s' H', Inv Y [] (ζ) H' s' → QB b H' → R (.ok (.ret (.bool b))) s') :
    ∀ (n i : Nat) (H : Hp) (Nx : Unit → Hp → Prop) (s : Shared) (gs : GenState), s.gens[g]? = some gs → GI ζ Y conU fpI tn () i H s → Nx () H →
      (∀ a' s'', GI ζ Y conU fpI tn a' i H s'' → Nx a' H → gs.Goes (model Y.prog Y.w) A.in1.in1 (GRr ζ Y conU fun _ H => QB true H) (GP ζ Y conU fpI tn (outAll QB)) n (.send .none) s'') →
      codeAny (model Y.prog Y.w) A (.builtin "all.loop" ⟨[.ref ga], []⟩) R s := by
  intro n
  induction n with
  | zero =>
    intro i H Nx s gs hgs gi hN goes
    refine codeAny_builtin F.entry_all_loop ?_
    rw [Around.under_plainId F.plain_all_loop _]
    show wpAny _ A.in1 (pyNext (.ref ga) >>= _) _ _ s
    refine wpAny_bind (next_ge (A := A.in1) conU_ok hh hd hpn hgo hgs gi hN goes (fun i1 H1 y v Nx1 s1 gs1 rv gi1 o1 hg1 go1 => ?_) (fun H1 s1 I1 _ fin => ?_))
    · obtain ⟨c, rfl, hc⟩ := o1
      cases (show v = Value.bool c from rv)
      refine wpAny_bind (wpAny_holding (wpAny_truthy_bool ?_))
      refine wpAny_bind (wpAny_letGo ?_)
      cases c with
      | true => exact (go1 () s1 gi1 hc).elim
      | false =>
        simp only [Bool.false_eq_true, if_false]
        exact wpAny_bind (wpAny_rule (wpAny_pure (hR false s1 H1 gi1.1 hc)))
    · exact wpAny_bind (wpAny_rule (wpAny_pure (hR true s1 H1 I1 fin)))
  | succ n ih =>
    intro i H Nx s gs hgs gi hN goes
    refine codeAny_builtin F.entry_all_loop ?_
    rw [Around.under_plainId F.plain_all_loop _]
    show wpAny _ A.in1 (pyNext (.ref ga) >>= _) _ _ s
    refine wpAny_bind (next_ge (A := A.in1) conU_ok hh hd hpn hgo hgs gi hN goes (fun i1 H1 y v Nx1 s1 gs1 rv gi1 o1 hg1 go1 => ?_) (fun H1 s1 I1 _ fin => ?_))
    · obtain ⟨c, rfl, hc⟩ := o1
      cases (show v = Value.bool c from rv)
      refine wpAny_bind (wpAny_holding (wpAny_truthy_bool ?_))
      refine wpAny_bind (wpAny_letGo ?_)
      cases c with
      | true =>
        simp only [if_true]
        exact wpAny_pure ⟨plainId_quiet F.plain_all_loop _, ih i1 H1 Nx1 s1 gs1 hg1 gi1 hc go1⟩
      | false =>
        simp only [Bool.false_eq_true, if_false]
        exact wpAny_bind (wpAny_rule (wpAny_pure (hR false s1 H1 gi1.1 hc)))
    · exact wpAny_bind (wpAny_rule (wpAny_pure (hR true s1 H1 I1 fin)))
end
section
variable {X : Cx} {pins : List (Addr × Obj)} {σ : L2.St} {H : Hp} {s : Shared}

/-- what is read in it of the def's own names -/
structure Capt (X : Cx) (scope : Scope) (N : List Str) (caps : List (Option Nat)) : Prop where
  len : caps.length = N.length
  at_ : ∀ (i k : Nat), caps[i]? = some (some k) → ∃ (x : Str) (c : Addr), N[i]? = some x ∧ X.N[k]? = some x ∧ scope.names.lookup x = some .free ∧ (X.env.kindOf x = some .cell ∨ X.env.kindOf x = some .free) ∧ X.env.cells.lookup x = some c ∧ (clC X scope).lookup x = some c
def zet (caps : List (Option Nat)) (σ : L2.St) : L2.St := caps.map fun o => o.bind fun k => (σ[k]?).join
theorem zet_at {caps : List (Option Nat)} {σ : L2.St} {i : Nat} {v : V} (h : (zet caps σ)[i]? = some (some v)) : ∃ k, caps[i]? = some (some k) ∧ σ[k]? = some (some v) := by
  unfold zet at h
  rw [List.getElem?_map] at h
  cases e : caps[i]? with
  | none => rw [e] at h; cases h
  | some o =>
    rw [e] at h
    cases o with
    | none => simp at h
    | some k =>
      refine ⟨k, rfl, ?_⟩
      simp at h
      cases e2 : σ[k]? with
      | none => rw [e2] at h; simp at h
      | some w => rw [e2] at h; simp at h; rw [h]
theorem ge_startV {caps : List (Option Nat)} {A : Around} {N : List Str} {scope : Scope} {code : Value} {fp : List Addr} {go : Obj} {G : Array GenState} {tk : Nat} {h5 : Heap} {m0 : Str → Option Value} (I : Inv X pins σ H s) (S : GSf X scope) (cp : Capt X scope N caps) (hA : A.handled = none) (hf : A.frames = some X.stack)
    (hfp : ∀ b ∈ fp, FpOk X pins H b ∧ b < s.heap.objs.size) (hG : AllBare G) (hns : h5.Ns s.heap.objs.size m0) (hk : ∀ b o, s.heap.get? b = some o → h5.get? b = some o) (hgo : h5.get? (s.heap.objs.size + 1) = some go) (hgd : ∀ v, go.data ≠ .cell v) :
    Inv (gx X A N s H (ceC X scope s.heap.objs.size code) fp [(s.heap.objs.size + 1, go)]) [] (zet caps σ) H { s with gens := G, toks := tk, heap := h5 } := by
  have noc : ∀ x c, (ceC X scope s.heap.objs.size code).cells.lookup x = some c → X.env.cells.lookup x = some c := fun x c e => S.cl_of e
  have stkne : ∀ b, s.heap.objs.size ≤ b → b ∉ frs X.stack := fun b hb z => by
    rcases List.mem_cons.mp (I.stkSub b z) with e | e
    · exact absurd (Nat.lt_of_lt_of_le I.lt (by rw [← e]; exact hb)) (Nat.lt_irrefl _)
    · exact I.nofs hb e
  refine ⟨⟨I.ok.mod, S.kind, I.ok.glob, rfl, Nat.le_refl _, fun x y c h1 h2 => I.ok.inj x y c (noc x c h1) (noc y c h2), fun x hx => S.has hx, fun x c h _ => (by cases h), fun _ => hA, Around.frames_deeper hf, .inr ⟨rfl, rfl⟩, fun b hb => ⟨Nat.ne_of_lt (hfp b hb).2, fun x c e => ((hfp b hb).1.2.2.2.2.1 x c (noc x c e))⟩,
    I.bs, Nat.le_trans I.ok.bsz I.sz, fun b o e hb => ?_, fun b hb z => ?_, I.stack, I.stkFree⟩, rfl, hG, Un.kept hk, ⟨m0, hns, fun i x v h1 h2 _ => by
      obtain ⟨k, hk1, hk2⟩ := zet_at h2
      obtain ⟨x', c, e1, e2, e3, e4, e5, e6⟩ := cp.at_ i k hk1
      have e1' := e1.symm.trans h1
      cases e1'
      obtain ⟨m1, _, look⟩ := I.loc
      obtain ⟨u, ru, lk⟩ := look k x v e2 hk2 (e4.elim (fun z => .inr (.inl z)) fun z => .inr (.inr z))
      refine ⟨u, ru, .inr ⟨.inr e3, c, e6, ?_⟩⟩
      rcases lk with ⟨z, _⟩ | ⟨_, c', z1, z2⟩
      · rcases e4 with y | y <;> (rw [y] at z; cases z)
      · rw [e5] at z1
        cases z1
        exact z2.keeps hk⟩, fun x c e => (I.cell x c (noc x c e)).imp fun v hv => hv.keeps hk, I.hok.fresh (Nat.le_refl _), fun x c e => I.freeC x c (noc x c e), fun p hp => ?_, I.hok.kept hk, by show (zet caps σ).length = N.length; unfold zet; rw [List.length_map]; exact cp.len⟩
  · rcases (hfp b hb).1.2.2.2.1 with z | z
    · exact I.ok.noex b o e z
    · exact absurd (Nat.lt_of_lt_of_le (Heap.lt_size e) (Nat.le_trans I.ok.bsz z)) (Nat.lt_irrefl _)
  · rcases List.mem_cons.mp (I.stkSub b z) with e | e
    · exact (hfp b hb).1.2.1 e
    · exact (hfp b hb).1.2.2.1 e
  · have hp' : p ∈ [(s.heap.objs.size + 1, go)] := by simpa using hp
    rw [List.mem_singleton.mp hp']
    exact ⟨hgo, I.hok.fresh (Nat.le_succ _), Nat.succ_ne_self _, stkne _ (Nat.le_succ _), hgd⟩


theorem gen_makeV {caps : List (Option Nat)} {N : List Str} {c P : Addr} {elt tg iter : Expr} {ifs : List Expr} {gpos : Pos} {scope : Scope} {wi : TI} {k : Nat} {Q' : Value → Shared → Prop} {R : It → Hp → Prop}
    (hr : Room k X.A) (TB : GxR.TabB X.base X.mg c P) (hcode : X.env.code = .ref c) (S : GSf X scope) (cp : Capt X scope N caps) (hi : PI X tg iter wi) (hs : ∀ v, genFold iter X.env v = pure v) (I : Inv X pins σ H s) (h : wi σ H fun J H1 => GxR.TabG H1 P ∧ R J H1)
    (hQ : ∀ J H1 H2 s4 s5 code fp it tn go g, R J H1 → GxR.Tabbed P H1 H2 → Inv X pins σ H2 s4 → (∀ b ∈ fp, FpOk X pins H2 b ∧ b < s4.heap.objs.size) → Turn X.prog X.w X.K tg J fp it tn → tn 0 s5.heap →
      (∀ A, A.handled = none → A.frames = some X.stack → Inv (gx X A N s4 H2 (ceC X scope s4.heap.objs.size code) fp [(s4.heap.objs.size + 1, go)]) [] (zet caps σ) H2 s5) →
      (∀ h : Heap, h.get? (s4.heap.objs.size + 1) = some go → h.IsGen (s4.heap.objs.size + 1) g) →
      s5.gens[g]? = some (.fresh (.compStart (.GeneratorExp elt [⟨tg, iter, ifs, 0⟩] scope gpos) 0 (.ref it) .none (ceC X scope s4.heap.objs.size code))) → Q' (.ref (s4.heap.objs.size + 1)) s5) :
    wpAny (model X.prog X.w) X.A (eval (.GeneratorExp elt [⟨tg, iter, ifs, 0⟩] scope gpos) X.env) Q' X.xe s := by
  have hcl : closureFor scope X.env = pure (clC X scope) := closure_ok S.free
  refine wpAny_GeneratorExp_make S.co hcl S.own S.dot S.kind (by have := hr.dp; omega) (thn (hi.run pins s σ H _ I h) fun xv s1 hx => thn hx fun itv s2 h2 => ?_) hs
  obtain ⟨it, fp, tn, J, H1, e, I2, T, st2, f2, ⟨ps, hP, ht⟩, q1⟩ := h2
  subst e
  have hPs : s2.heap.get? P = some { cls := .none, data := .fields ps } := I2.hok P _ hP
  have cd : PySem.W.CodeHd s2.heap c P := TB.code.keeps fun b u e => I2.bk b u e
  have nfp : ∀ b ∈ fp, b ≠ P := fun b hb z => by
    have := (f2 b hb).1
    rw [z, hP] at this
    cases this
  have szf : ∀ b ∈ fp, b < s2.heap.objs.size := fun b hb => by
    obtain ⟨o, e, _⟩ := T.obj _ _ st2 b hb
    exact Heap.lt_size e
  have cont : ∀ (code : Value) (h3 : Heap) (tk : Nat) (ps' : Array Value), Heap.ExtBut P s2.heap h3 → s2.heap.objs.size ≤ h3.objs.size → h3.get? P = some { cls := .none, data := .fields ps' } → (∃ more, ps' = ps ++ more) → TriplesOk ps'.toList →
      wpAny (model X.prog X.w) X.A (builtinsFor X.env.globals X.env.builtins) (fun bi s4 =>
        ∀ h', h'.Ns s4.heap.objs.size (fun y => if y = ".0" then some (.ref it) else none) → Heap.SameBut s4.heap.objs.size (s4.heap.push { cls := .type "frame", data := .dict #[] }) h' →
          Q' (.ref h'.objs.size) { s4 with
            gens := s4.gens.push (.fresh (.compStart (.GeneratorExp elt [⟨tg, iter, ifs, 0⟩] scope gpos) 0 (.ref it) .none (genEnv scope (clC X scope) s4.heap.objs.size code bi X.env))),
            toks := s4.toks + 1 + 1 + 1,
            heap := h'.push { cls := .type "generator", data := .fields #[.int s4.gens.size 0, .str "<genexpr>" (s4.toks + 1), .str (X.env.qual ++ "<genexpr>") (s4.toks + 1 + 1)] } }) X.xe { s2 with heap := h3, toks := tk } := by
    intro code h3 tk ps' hx hsz hP3 hmore ht3
    obtain ⟨bm, ob, e1, e2, e3, e4, e5, e6, e7, e8⟩ := TB.bm
    obtain ⟨more, rfl⟩ := hmore
    have I3 : Inv X pins σ (upd H1 P (.tbl (ps ++ more))) { s2 with heap := h3, toks := tk } := GxR.inv_tab (more := more) (g' := s2.gens) (d' := s2.drawn) I2 hP (fun b u hb e => hx b u hb e) hP3 I2.bare
    have tab : GxR.Tabbed P H1 (upd H1 P (.tbl (ps ++ more))) := ⟨⟨_, upd_same, ht3⟩, fun b hb => upd_ne hb⟩
    have st3 : tn 0 h3 := T.keep _ _ _ st2 fun b hb o e => hx b o (nfp b hb) e
    have f3 : ∀ b ∈ fp, FpOk X pins (upd H1 P (.tbl (ps ++ more))) b ∧ b < h3.objs.size := fun b hb =>
      ⟨⟨by rw [upd_ne (nfp b hb)]; exact (f2 b hb).1, (f2 b hb).2⟩, Nat.lt_of_lt_of_le (szf b hb) hsz⟩
    refine wpAny_builtinsFor (m := X.mg) (by rw [I3.ok.glob]; exact I3.mod.glob.keeps I3.bk) e1 e2 (I3.bk _ _ e5) e6 e7 e8 ?_
    intro h' hns hsb
    have hsz' : h'.objs.size = h3.objs.size + 1 := by rw [hsb.1, Heap.size_push]
    have keep' : ∀ b o, h3.get? b = some o → h'.get? b = some o := fun b o e => hsb.extBut b o (Nat.ne_of_lt (Heap.lt_size e)) (Heap.get?_push_of_some _ e)
    have main : ∀ (go : Obj), go.cls = .type "generator" → (∃ nm qn, go.data = .fields #[.int s2.gens.size 0, nm, qn]) → go.slots = #[] → (∀ h : Heap, (h.push go).get? h.objs.size = some go) → ∀ t',
        Q' (.ref h'.objs.size) { s2 with heap := h'.push go, toks := t', gens := s2.gens.push (.fresh (.compStart (.GeneratorExp elt [⟨tg, iter, ifs, 0⟩] scope gpos) 0 (.ref it) .none (genEnv scope (clC X scope) h3.objs.size code builtinsNs X.env))) } := by
      intro go gc ⟨nm, qn, gd⟩ gsl gp t'
      have hgp := gp h'
      rw [hsz'] at hgp ⊢
      have keep5 : ∀ b o, h3.get? b = some o → (h'.push go).get? b = some o := fun b o e => Heap.get?_push_of_some _ (keep' b o e)
      refine hQ J H1 (upd H1 P (.tbl (ps ++ more))) { s2 with heap := h3, toks := tk } _ code fp it tn go s2.gens.size q1 tab I3 f3 T (T.keep _ _ _ st3 fun b _ o e => keep5 b o e) (fun A hA hf => ?_) (fun h e => ⟨go, nm, qn, e, gc, gd, gsl⟩) (Array.getElem?_push_size ..)
      exact ge_startV (s := { s2 with heap := h3, toks := tk }) I3 S cp hA hf f3 (I2.bare.push rfl) (hns.push _) keep5 hgp (fun v z => by rw [gd] at z; cases z)
    exact main _ rfl ⟨_, _, rfl⟩ rfl (fun h => Heap.get?_push_size _ rfl) _
  refine ⟨I2.nolimit, ?_⟩
  cases hf : codeAmong gpos ps.toList with
  | none =>
    refine wpAny_genexprCodeX hcode (cd.code hPs ht) (cd.tab hPs) hf fun c' h' tk hx hge hlt hco' _ htab' _ => ?_
    obtain ⟨o1, vs, f1, tf, fl, tg', inF, tx, tt, op, _, _, _, _, _, _, _, _, _, htr, _⟩ := hco'
    exact cont _ h' tk _ hx (Nat.le_trans hge (Nat.le_of_lt hlt)) htab'.2 ⟨_, rfl⟩ htr
  | some cv =>
    refine wpAny_genexprCode_hit hcode (cd.code hPs ht) hf ?_
    exact cont cv s2.heap s2.toks ps (Heap.ExtBut.refl _ _) (Nat.le_refl _) hPs ⟨#[], by simp⟩ ht



def tGenV (P : Addr) (caps : List (Option Nat)) (wi : TI) (g : TG) (tt : TT) (te : TE) (Out : (Bool → Hp → Prop) → Unit → V → Hp → (Unit → Hp → Prop) → Prop) (fin : Bool) : TE := fun σ H Q => wi σ H fun J H1 => GxR.TabG H1 P ∧ ∀ H2, GxR.Tabbed P H1 H2 →
  ∃ W : Unit → Nat → Nat → Hp → Prop, (∃ m, W () 0 m H2) ∧ TurnV J (zet caps σ) g tt te (Out fun b H => Q (.bl b) H) (fun _ H => Q (.bl fin) H) W
theorem pe_allV {caps : List (Option Nat)} {N : List Str} {c P : Addr} {elt tg iter : Expr} {ifs : List Expr} {p pos gpos : Pos} {scope : Scope} {wi : TI} {g : TG} {tt : TT} {te : TE} {k : Nat}
    (hr : Room (k + 1) X.A) (hgl : Gl X "all") (hm : X.mg "all" = none) (TB : GxR.TabB X.base X.mg c P) (hcode : X.env.code = .ref c) (S : GSf X scope) (cp : Capt X scope N caps) (hi : PI X tg iter wi)
    (hg : ∀ (A : Around) (s : Shared) (H : Hp) (C : Addr) (code : Value) (fp : List Addr) (pn : List (Addr × Obj)), Room k (A.deeper (ceC X scope C code)) → PG (gx X A N s H (ceC X scope C code) fp pn) tg g)
    (ht : ∀ (A : Around) (s : Shared) (H : Hp) (C : Addr) (code : Value) (fp : List Addr) (pn : List (Addr × Obj)), Room k (A.deeper (ceC X scope C code)) → PTs (gx X A N s H (ceC X scope C code) fp pn) ifs tt)
    (he : ∀ (A : Around) (s : Shared) (H : Hp) (C : Addr) (code : Value) (fp : List Addr) (pn : List (Addr × Obj)), Room k (A.deeper (ceC X scope C code)) → PE (gx X A N s H (ceC X scope C code) fp pn) elt te)
    (hs : ∀ v, genFold iter X.env v = pure v := by intro _; rfl)
    (hb : bootBuiltins "all" = some (.builtin "all") := by decide +kernel)
    (hst : starEach [.GeneratorExp elt [⟨tg, iter, ifs, 0⟩] scope gpos] X.env = (false, eval (.GeneratorExp elt [⟨tg, iter, ifs, 0⟩] scope gpos) X.env) :: starEach [] X.env := by rfl) :
    PE X (.Call (.Name "all" p) [.GeneratorExp elt [⟨tg, iter, ifs, 0⟩] scope gpos] [] pos) (tGenV P caps wi g tt te outAll true) := by
  refine ⟨fun pins s σ H Q I h => ?_⟩
  refine wpAny_Call_Name_kw (ld_blt I hgl hm hb ?_)
  refine PyProof.Rows.callWith_builtin1 ?_ hst (by rfl)
  rw [hst]
  show wpAny _ _ (spliced ((false, eval (.GeneratorExp elt [⟨tg, iter, ifs, 0⟩] scope gpos) X.env) :: backTo pos (starEach [] X.env))) _ _ s
  refine Calls.spliced_cons (gen_makeV hr TB hcode S cp hi hs I h fun J H1 H2 s4 s5 code fp it tn go gn hR tab I4 f4 T st5 mk hgo hgs => ?_)
  refine Calls.spliced_nil ?_
  obtain ⟨W, ⟨m0, w0⟩, turn⟩ := hR H2 tab
  have rY := room3 hr (ceC X scope s4.heap.objs.size code)
  have I5 := mk X.A.in1.in1 hr.hd I.ok.frames
  generalize hpn : [(s4.heap.objs.size + 1, go)] = pn at I5
  have hpm : (s4.heap.objs.size + 1, go) ∈ pn := by rw [← hpn]; exact List.mem_singleton.mpr rfl
  have hpf : ∀ p ∈ pn, p.1 ∉ fp := fun p hp z => by
    rw [← hpn] at hp
    rw [List.mem_singleton.mp hp] at z
    exact absurd (f4 _ z).2 (Nat.not_lt.mpr (Nat.le_succ _))
  have gi0 : GI (zet caps σ) (gx X X.A.in1.in1 N s4 H2 (ceC X scope s4.heap.objs.size code) fp pn) conU fp tn () 0 H2 s5 := ⟨I5, trivial, st5, fun b hb => (f4 b hb).1.1⟩
  have isg := hgo _ (I5.pin _ (List.mem_append_left _ hpm)).1
  refine call_function_tree F.kind_all F.plain_all F.entry_all (F.args_all1 _) ?_
  unfold Builtin.«all»
  refine wpAny_bind (m := oneArg "all" _) (wpAny_pure ?_)
  refine wpAny_bind (wpAny_pyIter_gen isg ?_)
  refine wpAny_pure ⟨plainId_quiet F.plain_all_loop _, ?_⟩
  refine all_loop (ζ := zet caps σ) (Y := gx X X.A.in1.in1 N s4 H2 (ceC X scope s4.heap.objs.size code) fp pn) (A := X.A) (g := gn) (QB := fun b H => Q (.bl b) H) hr.hd hr.depth hpm hgo (fun b s' H' I' q => ?_) (m0 + 1) 0 H2 (fun a H => W a 0 m0 H) s5 _ hgs gi0 w0 (fun a' s'' gi' w' => ?_)
  · exact ⟨.bl b, H', ge_back I4 f4 I', rfl, q⟩
  · exact ⟨rfl, seg_start (ζ := zet caps σ) (Y := gx X X.A.in1.in1 N s4 H2 (ceC X scope s4.heap.objs.size code) fp pn) conU_ok rfl T (hg _ _ _ _ _ _ _ rY) (ht _ _ _ _ _ _ _ rY) (he _ _ _ _ _ _ _ rY) rfl (fun b hb => hb) (fun b hb => nomatch hb) hpf rfl S.co (by show (zet caps σ).length = N.length; unfold zet; rw [List.length_map]; exact cp.len) turn m0 a' (m0 + 1) H2 s'' (Nat.lt_succ_self _) w' gi'⟩
end
end GV
set_option Elab.async false
set_option linter.all false
set_option maxRecDepth 100000
set_option maxHeartbeats 4000000
namespace CL
open PySem PySem.Spec PyProof.Rows L2 GE
def topS (i : Nat) : Stmt := PySem.Challenge.pw_comersline_k37_orders_refused.main.body.getD i (.Pass ⟨0, 0, 0, 0⟩)
abbrev sWhole : Stmt := topS 19
abbrev sRow : Stmt := topS 20
theorem scWhole : FnScope ["thing"] ["thing"] (defScope sWhole) := ⟨rfl, rfl, rfl, by decide +kernel, rfl, by decide +kernel, by decide +kernel⟩
theorem scRow : FnScope ["thing"] ["thing"] (defScope sRow) := ⟨rfl, rfl, rfl, by decide +kernel, rfl, by decide +kernel, by decide +kernel⟩
/-- a def whose code object is known -/
structure FunC (K : PySem.W.Frag) (x qual : Str) (st : Stmt) (f : Addr) (fd : FuncData) (c : Addr) : Prop where
  ex : ∃ (oc : Value) (od : Option Addr) (kV doc pm : Value) (an : Option Addr) (ct : Value) (osl : Array (Option Value)),
    fd = PySem.W.fnOf x qual (defArgs st) (defBody st) (defScope st) .none kV doc pm an (.ref c) ct ∧ K.lookup f = some ⟨oc, od, .func fd, osl⟩ ∧ PySem.W.codeIn K (.ref c) qual = true
  kp : PySem.W.keepIn K (.ref f) = true
theorem FunC.ok {P : Program} {w : World} {K : PySem.W.Frag} {mg : Str → Option Value} {base : Heap} {x qual : Str} {st : Stmt} {f c : Addr} {fd : FuncData} {N ps : List Str} {k : Nat} {sp : Sp} (F : FunC K x qual st f fd c) (S : FnScope N ps (defScope st)) (len : ∀ vs H Q E, sp vs H Q E → vs.length = ps.length)
    (hbody : ∀ (A : Around) (outer : List Env) (s : Shared) (H : Hp) (vs : List V) (Q : VK) (E : XK), Room k (A.deeper (envOfC qual (defScope st) s.heap.objs.size f (.ref c))) → sp vs H Q E →
      ∃ t, PSs (cxOf CX0 P w K mg base N qual (defScope st) f (.ref c) A outer s H E).nox (defBody st) t ∧ t { nx := fun _ H' => Q .non H', rt := Q } (start N vs) H) : FnOk P w K mg base CX0 (k + 1) f fd ps sp := by
  obtain ⟨oc, od, kV, doc, pm, an, ct, osl, rfl, lk, hcd⟩ := F.ex
  refine fn_of lk hcd S len fun A outer s H vs Q E hr hsp => ?_
  obtain ⟨t, h, q⟩ := hbody A outer s H vs Q E hr hsp
  exact ⟨t, h.nox, q⟩
/-- a def that may be called by its name -/
structure Cal (P : Program) (w : World) (K : PySem.W.Frag) (mg : Str → Option Value) (base : Heap) (k : Nat) (x : Str) (ps : List Str) (sp : Sp) : Prop where
  ex : ∃ f fd, mg x = some (.ref f) ∧ PySem.W.keepIn K (.ref f) = true ∧ Binds K fd ps [] ∧ FnOk P w K mg base CX0 k f fd ps sp
theorem pe_cal {X : Cx} {k : Nat} {x : Str} {ps : List Str} {sp : Sp} {p pos : Pos} {e : Expr} {es : List Expr} {t : TA} (C : Cal X.prog X.w X.K X.mg X.base k x ps sp) (hr : Room k X.A) (hg : Gl X x) (ha : PA X (e :: es) t) (hdb : (x == ("__debug__" : Str)) = false := by decide)
    (he : starEach (e :: es) X.env = (false, eval e X.env) :: starEach es X.env := by rfl) (hpl : (backTo pos (starEach es X.env)).any (·.1) = false := by rfl) : PE X (.Call (.Name x p) (e :: es) [] pos) (tCall sp [] E0 t) := by
  obtain ⟨f, fd, h1, h2, h3, h4⟩ := C.ex
  exact pe_call h4 hr hg h1 h2 h3 .nil pass0 ha hdb he hpl
theorem Cal.mono {P : Program} {w : World} {K : PySem.W.Frag} {mg : Str → Option Value} {base : Heap} {j k : Nat} {x : Str} {ps : List Str} {sp : Sp} (C : Cal P w K mg base j x ps sp) (h : j ≤ k) : Cal P w K mg base k x ps sp := by
  obtain ⟨f, fd, h1, h2, h3, h4⟩ := C.ex
  exact ⟨f, fd, h1, h2, h3, h4.mono h⟩
/-- names that are still the built-in ones, and constants -/
structure Nm (mg : Str → Option Value) : Prop where
  isi : mg "isinstance" = none
  len : mg "len" = none
  all : mg "all" = none
  int : mg "int" = none
  bool : mg "bool" = none
  list : mg "list" = none
  tuple : mg "tuple" = none
  range : mg "range" = none
  sorted : mg "sorted" = none
  enum : mg "enumerate" = none
  repr : mg "repr" = none
  min : mg "min" = none
  most : ∃ t, mg "MOST_PEOPLE" = some (.int 60 t)
theorem tabG_same {P : Addr} {H H' : Hp} (s : Same H H') (h : GxR.TabG H P) : GxR.TabG H' P := by
  obtain ⟨ps, e, t⟩ := h
  exact ⟨ps, s _ _ e, t⟩
theorem ex_tabbed {P : Addr} {H H' : Hp} (g : GxR.TabG H P) (t : GxR.Tabbed P H H') : Ex H H' := fun b o e => by
  by_cases hb : b = P
  · subst hb
    obtain ⟨ps, h1, _⟩ := g
    obtain ⟨⟨qs, h2, hq⟩, _⟩ := t
    rw [h1] at e
    cases e
    exact .inr ⟨ps, qs, rfl, h2, hq⟩
  · exact .inl (by rw [t.2 b hb]; exact e)
theorem tabG_ex {P : Addr} {H H' : Hp} (h : GxR.TabG H P) (e : Ex H H') : GxR.TabG H' P := by
  obtain ⟨ps, h1, h2⟩ := h
  rcases e P _ h1 with q | ⟨_, qs, _, q, t⟩
  · exact ⟨ps, q, h2⟩
  · exact ⟨qs, q, t⟩
def spOne (g : PyData → Bool) : Sp := fun vs H Q _ => ∃ v d, vs = [v] ∧ Rp H v d ∧ ∀ H', Same H H' → Q (.bl (g d)) H'
theorem spOne_len {g : PyData → Bool} : ∀ vs H Q E, spOne g vs H Q E → vs.length = 1 := fun vs H Q E ⟨v, d, e, _⟩ => by rw [e]; rfl
section
variable {P : Program} {w : World} {K : PySem.W.Frag} {mg : Str → Option Value} {base : Heap}
theorem ok_whole {f : Addr} {fd : FuncData} (F : Fun K "is_whole" "is_whole" sWhole f fd) (T : Nm mg) : FnOk P w K mg base CX0 1 f fd ["thing"] (spOne isWhole) := by
  refine F.ok scWhole spOne_len (fun cdv A outer s H vs Q E hr h => ?_)
  obtain ⟨v, d, rfl, hR, q⟩ := h
  refine ⟨_, pss_one (ps_ret (pe_and (pe_callB call_isi (by rfl) T.isi (by decide +kernel) (pa_cons (pv 0) (pa_cons (pe_bltn (v := .ty "int") (by rfl) T.int PyProof.Rows.boot_int rfl) pa_nil)))
    (pe_one (pe_not (pe_callB call_isi (by rfl) T.isi (by decide +kernel) (pa_cons (pv 0) (pa_cons (pe_bltn (v := .ty "bool") (by rfl) T.bool PyProof.Rows.boot_bool rfl) pa_nil))))))), ?_⟩
  refine ⟨v, rfl, v, .ty "int", _, _, isIntB d, rfl, .ty _, hR.ty, kit_int d, isIntB d, rfl, ite2 (fun e => ?_) (fun e => ?_)⟩
  · refine ⟨v, rfl, v, .ty "bool", _, _, isBoolB d, rfl, .ty _, hR.ty, kit_bool d, isBoolB d, rfl, ?_⟩
    have z : (!isBoolB d) = isWhole d := by cases d <;> first | rfl | (exact absurd e Bool.false_ne_true)
    rw [z]
    exact q H (Same.refl H)
  · have z : isWhole d = false := by cases d <;> first | rfl | (exact absurd rfl e)
    have q' := q H (Same.refl H)
    rw [z] at q'
    exact q'
theorem ok_row {f : Addr} {fd : FuncData} (F : Fun K "is_row" "is_row" sRow f fd) (T : Nm mg) : FnOk P w K mg base CX0 1 f fd ["thing"] (spOne isRow) := by
  refine F.ok scRow spOne_len (fun cdv A outer s H vs Q E hr h => ?_)
  obtain ⟨v, d, rfl, hR, q⟩ := h
  refine ⟨_, pss_one (ps_ret (pe_callB call_isiT (by rfl) T.isi (by decide +kernel) (pa_cons (pv 0) (pa_cons (pe_tup (pa_cons (pe_bltn (v := .ty "list") (by rfl) T.list PyProof.Rows.boot_list rfl) (pa_cons (pe_bltn (v := .ty "tuple") (by rfl) T.tuple PyProof.Rows.boot_tuple rfl) pa_nil))) pa_nil)))), ?_⟩
  refine ⟨v, rfl, by show 2 ≤ sizeLine; decide, fun p np => ⟨v, p, [.ty "list", .ty "tuple"], _, _, isRow d, rfl, upd_same, .cons (.ty _) (.cons (.ty _) .nil), (Rp.ex (Ex.new np) d v hR).ty, kit_rows d, q _ (same_upd np)⟩⟩
end
theorem all_take {p : PyData → Bool} {ds : List PyData} {i : Nat} {d : PyData} (h : ds[i]? = some d) : (ds.take (i + 1)).all p = ((ds.take i).all p && p d) := by
  rw [List.take_add_one, h, List.all_append]
  simp
theorem any_take {p : PyData → Bool} {ds : List PyData} {i : Nat} {d : PyData} (h : ds[i]? = some d) : (ds.take (i + 1)).any p = ((ds.take i).any p || p d) := by
  rw [List.take_add_one, h, List.any_append]
  simp
theorem all_false {p : PyData → Bool} {ds : List PyData} {i : Nat} {d : PyData} (h : ds[i]? = some d) (e : p d = false) : ds.all p = false := by
  rw [List.all_eq_false]
  exact ⟨d, List.mem_of_getElem? h, by rw [e]; exact Bool.false_ne_true⟩
theorem any_true {p : PyData → Bool} {ds : List PyData} {i : Nat} {d : PyData} (h : ds[i]? = some d) (e : p d = true) : ds.any p = true := by
  rw [List.any_eq_true]
  exact ⟨d, List.mem_of_getElem? h, e⟩
theorem rix_of {K : PySem.W.Frag} {H : Hp} {a : Addr} {xs : List V} {i : Nat} {v : V} {Q : VK} (s : StSeq H a xs) (e : xs[i]? = some v) (q : Q v H) : rIx K (.ref a) (.int (i : Int)) H Q := by
  rcases s.or with h | h
  · exact .inl ⟨a, xs, (i : Int), v, rfl, rfl, SqL.of h, atI_nat e, q⟩
  · exact .inr (.inl ⟨a, xs, (i : Int), v, rfl, rfl, SqT.of h, atI_nat e, q⟩)
theorem name_yes {i : Nat} {x : V} {σ : L2.St} {H : Hp} {A B : L2.St → Hp → Prop} (h : A (σ.set i (some x)) H) : gName i x σ H (fun σ2 H2 => tYes σ2 H2 fun b H3 => if b = true then A σ2 H3 else B σ2 H3) := by
  show if true = true then A (σ.set i (some x)) H else B (σ.set i (some x)) H
  exact iteT h
theorem nd1 {x : Str} : [x].Nodup := by simp
theorem p18 : (10 : Int) ^ (18 : Int).toNat = 1000000000000000000 := by decide +kernel
theorem p30 : (10 : Int) ^ (30 : Int).toNat = GREAT := by decide +kernel
theorem same_ne {H H' : Hp} (s : Same H H') {p b : Addr} (np : H' p = none) (hb : H b ≠ none) : b ≠ p := fun z => by
  rw [z] at hb
  cases q : H p with
  | none => exact hb q
  | some o =>
    rw [s p o q] at np
    cases np
theorem ints_dp {K : PySem.W.Frag} {H : Hp} : ∀ gs : List Int, DpAll K H (gs.map V.int) (gs.map PyData.int)
  | [] => .nil
  | x :: gs => .cons (.int x) (ints_dp gs)
theorem ints_lay : ∀ gs : List Int, PyData.canLayAll0 (gs.map PyData.int) = true
  | [] => by simp [PyData.canLayAll0]
  | x :: gs => by
    have := ints_lay gs
    simp [PyData.canLayAll0, PyData.canLay0, this]
theorem ints_depth : ∀ gs : List Int, PyData.depthAll (gs.map PyData.int) = 0
  | [] => rfl
  | x :: gs => by
    have := ints_depth gs
    show max 0 (PyData.depthAll (gs.map PyData.int)) = 0
    rw [this]
    rfl
theorem ints_shaped (gs : List Int) : SeqAt.shaped (.list (gs.map PyData.int)) = true := by
  unfold SeqAt.shaped
  have h1 : PyData.canLay0 (.list (gs.map PyData.int)) = true := by
    have := ints_lay gs
    simp [PyData.canLay0, this]
  have h2 : PyData.depth (.list (gs.map PyData.int)) = 1 := by
    show PyData.depthAll (gs.map PyData.int) + 1 = 1
    rw [ints_depth]
  rw [h1, h2]
  rfl
theorem ints_take (gs : List Int) (k : Nat) : (gs.map V.int).take k = (gs.take k).map V.int := List.map_take.symm
theorem cut_to (xs : List V) (k : Nat) : cutV xs none (some (k : Int)) = xs.take k := by
  unfold cutV
  have e0 : HT.sIx xs.length 0 none = 0 := rfl
  have e1 : HT.sIx xs.length xs.length (some (k : Int)) = min k xs.length := HT.sIx_nat _ _ _
  rw [e0, e1, List.drop_zero, Nat.sub_zero]
  rcases Nat.le_total k xs.length with h | h
  · rw [Nat.min_eq_left h]
  · rw [Nat.min_eq_right h, List.take_of_length_le h, List.take_of_length_le (Nat.le_refl _)]
theorem cut_from (xs : List V) (k : Nat) : cutV xs (some (k : Int)) none = xs.drop k := by
  unfold cutV
  have e0 : HT.sIx xs.length 0 (some (k : Int)) = min k xs.length := HT.sIx_nat _ _ _
  have e1 : HT.sIx xs.length xs.length none = xs.length := rfl
  rw [e0, e1]
  rcases Nat.le_total k xs.length with h | h
  · rw [Nat.min_eq_left h]
    exact List.take_of_length_le (by rw [List.length_drop]; exact Nat.le_refl _)
  · rw [Nat.min_eq_right h, List.drop_of_length_le (Nat.le_refl _), List.drop_of_length_le h]
    simp
theorem small_add {a b : Nat} (ha : a ≤ 1000) (hb : b ≤ 1000) : a + b ≤ sizeLine := by
  have : 2000 ≤ sizeLine := by decide
  omega
theorem small_le {a : Nat} (ha : a ≤ 1000) : a ≤ sizeLine := by
  have : 1000 ≤ sizeLine := by decide
  omega
theorem yesT {σ : L2.St} {H : Hp} {A B : Hp → Prop} (h : A H) : tYes σ H (fun b H3 => if b = true then A H3 else B H3) := by
  show if true = true then A H else B H
  exact iteT h
open Classical in
noncomputable def Hw (W : Addr → Prop) (H : Hp) : Hp := fun b => if W b then none else H b
theorem Hw.at {W : Addr → Prop} {H : Hp} {b : Addr} (n : ¬ W b) : Hw W H b = H b := by
  unfold Hw
  rw [if_neg n]
theorem Hw.ne {W : Addr → Prop} {H : Hp} {b : Addr} {o : HO} (e : Hw W H b = some o) : ¬ W b := fun z => by
  unfold Hw at e
  rw [if_pos z] at e
  cases e
theorem Hw.sub (W : Addr → Prop) (H : Hp) : Same (Hw W H) H := fun b o e => by rw [Hw.at (Hw.ne e)] at e; exact e
theorem Hw.less {W W' : Addr → Prop} {H : Hp} (h : ∀ b, W b → W' b) : Same (Hw W' H) (Hw W H) := fun b o e => by
  rw [Hw.at fun z => Hw.ne e (h b z)]
  exact Hw.sub W' H b o e
theorem Hw.more {W W' : Addr → Prop} {H : Hp} (h : ∀ b, W' b → W b ∨ H b = none) : Same (Hw W H) (Hw W' H) := fun b o e => by
  have e1 := Hw.sub W H b o e
  rw [Hw.at fun z => (h b z).elim (Hw.ne e) fun q => by rw [q] at e1; cases e1]
  exact e1
theorem hw_upd {W : Addr → Prop} {a : Addr} {H : Hp} {o : HO} (h : W a) : Hw W (upd H a o) = Hw W H := by
  funext b
  by_cases hb : W b
  · unfold Hw
    rw [if_pos hb, if_pos hb]
  · rw [Hw.at hb, Hw.at hb, upd_ne fun z => hb (by rw [z]; exact h)]
theorem Same.hw {W : Addr → Prop} {H H' : Hp} (m : Same H H') : Same (Hw W H) (Hw W H') := fun b o e => by
  rw [Hw.at (Hw.ne e)]
  exact m b o (Hw.sub W H b o e)
theorem Rp.sm {H H' : Hp} (s : Same H H') {v : V} {d : PyData} (h : Rp H v d) : Rp H' v d := Rp.ex (Ex.of s) d v h
theorem RpAll.sm {H H' : Hp} (s : Same H H') {vs : List V} {ds : List PyData} (h : RpAll H vs ds) : RpAll H' vs ds := RpAll.ex (Ex.of s) ds vs h
theorem RpAll.snoc {H : Hp} : ∀ {vs : List V} {ds : List PyData} {v : V} {d : PyData}, RpAll H vs ds → Rp H v d → RpAll H (vs ++ [v]) (ds ++ [d])
  | _, _, _, _, .nil, h => .cons h .nil
  | _, _, _, _, .cons a b, h => .cons a (RpAll.snoc b h)
theorem cut_last (xs : List V) : cutV xs none (some (-1)) = xs.take (xs.length - 1) := by
  unfold cutV
  have e0 : HT.sIx xs.length 0 none = 0 := rfl
  have e1 : HT.sIx xs.length xs.length (some (-1)) = xs.length - 1 := by
    show (if (-1 : Int) < 0 then ((-1 : Int) + (xs.length : Int)).toNat else min (-1 : Int).toNat xs.length) = _
    rw [if_pos (by decide)]
    omega
  rw [e0, e1, List.drop_zero, Nat.sub_zero]
theorem ix_gx {X : Cx} {A : Around} {N : List Str} {s : Shared} {H : Hp} {cenv : Env} {fp : List Addr} {pn : List (Addr × Obj)} : IxR (gx X A N s H cenv fp pn) (rIx X.K) := ix_seq
end CL
set_option Elab.async false
set_option linter.all false
set_option pp.maxSteps 600
set_option maxRecDepth 100000
set_option maxHeartbeats 4000000
namespace CL
open PySem PySem.Spec PyProof.Rows L2 GE HotX
/-! ### the end of an iterator where an exception is handled -/
section
variable {prog : Program} {w : World} {A : Around} {E : Value → Shared → Prop} {s : Shared}
theorem list_stops {it l x1 : Addr} {i : Nat} {items : Array Value} {Q : Option Value → Shared → Prop} (hot : HotAt A x1 s.heap) (hne : x1 ≠ it) (at_ : s.heap.IsListIter it l i) (li : s.heap.IsList l items) (no : items[i]? = none)
    (q : ∀ h', Heap.ExtBut it s.heap h' → Q none { s with heap := h' }) : wpAny (model prog w) A (pyNext (.ref it)) Q E s := by
  obtain ⟨n0, o1, vs1, g0, d1, c1⟩ := hot
  obtain ⟨oi, gi, ki, di⟩ := id at_
  obtain ⟨ol, gl, _, nl, dl⟩ := li
  unfold pyNext
  refine wpAny_bind (wpAny_attempt (wpAny_callSpecial?_slot (name := Str.ofString "__next__") at_.typeIs slot_listiter_next (wpAny_call_entry slot_listiter_next at_.typeIs entry_listiter_next ?_ (args_listiter_next _))))
  show wpAny _ _ (field (.ref it) 0 >>= _) _ _ s
  refine wpAny_bind (wpAny_field gi di (x := .ref l) rfl ?_)
  show wpAny _ _ (if (Value.ref l == Value.none) = true then _ else _) _ _ s
  rw [if_neg (show ¬ ((Value.ref l == Value.none) = true) from Bool.false_ne_true)]
  show wpAny _ _ (field (.ref it) 1 >>= _) _ _ s
  refine wpAny_bind (wpAny_field gi di (x := .int i 0) rfl (wpAny_bind (wpAny_seqItems gl dl ?_)))
  simp only [Int.toNat_natCast, no]
  refine wpAny_bind (wpAny_rule (wpAny_bind (wpAny_setField gi di (by simp) ?_)))
  have sb := Heap.SameBut.update s.heap it (Obj.mapFields (·.setIfInBounds 0 Value.none))
  have g1 := sb.extBut x1 _ hne g0
  have nx : ∀ b o, b ≠ it → s.heap.get? b = some o → (s.heap.update it (Obj.mapFields (·.setIfInBounds 0 Value.none))).get? b = some o := fun b o nb e => sb.extBut b o nb e
  show wpAny _ _ (newExc (.type "StopIteration") [] >>= _) _ _ _
  refine wpAny_bind ?_
  simp only [newExc, newTuple]
  refine wpAny_bind (wpAny_newObj_type ?_ (by size_fits))
  refine wpAny_bind (m := firstArgMember _ _) (wpAny_of_eq (a := Value.none) (by first | rfl | (simp only [firstArgMember]; rfl)) ?_)
  refine wpAny_newObj_type ?_ (by size_fits)
  refine raiseNew_hot (x1 := x1) ⟨n0, _, _, Heap.get?_push_of_some _ (Heap.get?_push_of_some _ g1), d1, c1⟩ (Nat.ne_of_lt (Heap.lt_size (Heap.get?_push_of_some _ g1))) (Heap.get?_push_size _ rfl) rfl (by first | (simp; done) | (simp; omega) | (simp only [Array.size_append]; simp; omega)) ?_
  refine wpAny_bind (wpAny_isInstance (T := "StopIteration") (b := true) ⟨_, Heap.get?_update_self _ (Heap.get?_push_size _ rfl) rfl, rfl⟩ isSubtype_stop ?_)
  refine wpAny_pure (q _ fun b o nb e => ?_)
  rw [Heap.get?_update_other _ _ (Nat.ne_of_gt (Heap.lt_size (Heap.get?_push_of_some _ (nx b o nb e))))]
  exact Heap.get?_push_of_some _ (Heap.get?_push_of_some _ (nx b o nb e))
theorem tuple_stops {it t x1 : Addr} {i : Nat} {items : Array Value} {Q : Option Value → Shared → Prop} (hot : HotAt A x1 s.heap) (hne : x1 ≠ it) (at_ : IsTupIter s.heap it t i) (li : IsTup s.heap t items) (no : items[i]? = none)
    (q : ∀ h', Heap.ExtBut it s.heap h' → Q none { s with heap := h' }) : wpAny (model prog w) A (pyNext (.ref it)) Q E s := by
  obtain ⟨n0, o1, vs1, g0, d1, c1⟩ := hot
  obtain ⟨oi, gi, ki, di⟩ := id at_
  obtain ⟨ol, gl, _, nl, dl⟩ := li
  unfold pyNext
  refine wpAny_bind (wpAny_attempt (wpAny_callSpecial?_slot (name := Str.ofString "__next__") at_.typeIs slot_tupleiter_next (wpAny_call_entry slot_tupleiter_next at_.typeIs entry_tupleiter_next ?_ (args_tupleiter_next _))))
  show wpAny _ _ (field (.ref it) 0 >>= _) _ _ s
  refine wpAny_bind (wpAny_field gi di (x := .ref t) rfl ?_)
  show wpAny _ _ (if (Value.ref t == Value.none) = true then _ else _) _ _ s
  rw [if_neg (show ¬ ((Value.ref t == Value.none) = true) from Bool.false_ne_true)]
  show wpAny _ _ (field (.ref it) 1 >>= _) _ _ s
  refine wpAny_bind (wpAny_field gi di (x := .int i 0) rfl (wpAny_bind (wpAny_seqItems gl dl ?_)))
  simp only [Int.toNat_natCast, no]
  refine wpAny_bind (wpAny_rule (wpAny_bind (wpAny_setField gi di (by simp) ?_)))
  have sb := Heap.SameBut.update s.heap it (Obj.mapFields (·.setIfInBounds 0 Value.none))
  have g1 := sb.extBut x1 _ hne g0
  have nx : ∀ b o, b ≠ it → s.heap.get? b = some o → (s.heap.update it (Obj.mapFields (·.setIfInBounds 0 Value.none))).get? b = some o := fun b o nb e => sb.extBut b o nb e
  show wpAny _ _ (newExc (.type "StopIteration") [] >>= _) _ _ _
  refine wpAny_bind ?_
  simp only [newExc, newTuple]
  refine wpAny_bind (wpAny_newObj_type ?_ (by size_fits))
  refine wpAny_bind (m := firstArgMember _ _) (wpAny_of_eq (a := Value.none) (by first | rfl | (simp only [firstArgMember]; rfl)) ?_)
  refine wpAny_newObj_type ?_ (by size_fits)
  refine raiseNew_hot (x1 := x1) ⟨n0, _, _, Heap.get?_push_of_some _ (Heap.get?_push_of_some _ g1), d1, c1⟩ (Nat.ne_of_lt (Heap.lt_size (Heap.get?_push_of_some _ g1))) (Heap.get?_push_size _ rfl) rfl (by first | (simp; done) | (simp; omega) | (simp only [Array.size_append]; simp; omega)) ?_
  refine wpAny_bind (wpAny_isInstance (T := "StopIteration") (b := true) ⟨_, Heap.get?_update_self _ (Heap.get?_push_size _ rfl) rfl, rfl⟩ isSubtype_stop ?_)
  refine wpAny_pure (q _ fun b o nb e => ?_)
  rw [Heap.get?_update_other _ _ (Nat.ne_of_gt (Heap.lt_size (Heap.get?_push_of_some _ (nx b o nb e))))]
  exact Heap.get?_push_of_some _ (Heap.get?_push_of_some _ (nx b o nb e))
/-- a, b = a tuple, there -/
theorem untupled_hot {env : Env} {es : List Expr} {n : Nat} {pos : Pos} {t x1 : Addr} {items : Array Value} {Q : Unit → Shared → Prop} (hot : HotAt A x1 s.heap) (li : IsTup s.heap t items) (many : (assignEach es env).length = items.size) (plain : (assignEach es env).findIdx? (·.1) = none)
    (q : ∀ h', Heap.ExtBut s.heap.objs.size s.heap h' → wpAny (model prog w) A (assignInOrder ((assignEach es env).map (·.2)) items.toList) Q E { s with heap := h' }) : wpAny (model prog w) A (assign (.Tuple es n pos) env (.ref t)) Q E s := by
  obtain ⟨n0, o1, vs1, g0, d1, c1⟩ := hot
  have lt : t ≠ s.heap.objs.size := by
    obtain ⟨o, e, _⟩ := li
    exact Nat.ne_of_lt (Heap.lt_size e)
  have lx : x1 ≠ s.heap.objs.size := Nat.ne_of_lt (Heap.lt_size g0)
  rw [assign_Tuple]
  refine wpAny_bind (wpAny_standAt ?_)
  unfold unpack
  rw [many, plain]
  refine wpAny_bind (wpAny_holding ?_)
  unfold unpackItems notIterableAtAll
  refine wpAny_bind (wpAny_bind (wpAny_specialOf li.typeIs slot_tuple_iter.lookup (wpAny_pure ?_)))
  simp only [Bool.false_eq_true, if_false]
  refine wpAny_bind (wpAny_holding (iter_tuple li (wpAny_bind (wpAny_holding (draw_tuple lt items.size 0 _ _ ⟨_, Heap.get?_push_size _ rfl, rfl, rfl⟩ (li.push _) (by omega) fun h1 at1 sb1 => ?_)))))
  have all : (items.toList.drop 0).take items.size = items.toList := by rw [List.drop_zero]; exact List.take_of_length_le (by simp)
  rw [all, if_neg (by simp)]
  have up : ∀ b o, b ≠ s.heap.objs.size → s.heap.get? b = some o → h1.get? b = some o := fun b o nb e => sb1.extBut b o nb (Heap.get?_push_of_some _ e)
  refine wpAny_bind (wpAny_holding (tuple_stops ⟨n0, o1, vs1, up _ _ lx g0, d1, c1⟩ lx at1 ((li.push _).extBut sb1.extBut lt) (by simp) fun h2 e2 => ?_))
  simp only [Option.isSome_none, Bool.false_eq_true, if_false]
  exact wpAny_pure (q h2 fun b o nb e => e2 b o nb (up b o nb e))
end
end CL
set_option Elab.async false
set_option linter.all false
set_option pp.maxSteps 600
set_option maxRecDepth 100000
set_option maxHeartbeats 4000000
namespace CL
open PySem PySem.Spec PyProof.Rows L2 GE HotX
/-! ### targets and comprehensions where an exception is handled -/
/-- p is handled, and pinned -/
def HotP (X : Cx) (pins : List (Addr × Obj)) : Prop := ∃ p : Addr × Obj, L2H.Hot1 X.A p ∧ p ∈ X.pn ++ pins
theorem HotP.at {X : Cx} {pins : List (Addr × Obj)} {σ : L2.St} {H : Hp} {s : Shared} (c : HotP X pins) (I : Inv X pins σ H s) : ∃ p : Addr × Obj, HotAt X.A p.1 s.heap ∧ p ∈ X.pn ++ pins := by
  obtain ⟨p, ⟨e, vs, d, n⟩, m⟩ := c
  exact ⟨p, ⟨e, p.2, vs, (I.pin p m).1, d, n⟩, m⟩
/-- a target, there -/
structure PGH (X : Cx) (tg : Expr) (g : TG) : Prop where
  go : ∀ pins s σ H v u Q, HotP X pins → Inv X pins σ H s → RelV v u → g v σ H Q → wpAny (model X.prog X.w) X.A (assign tg X.env u) (fun _ t => ∃ σ' H', Inv X pins σ' H' t ∧ Q σ' H') X.xe s
theorem pgh_tup {X : Cx} {es : List Expr} {k n : Nat} {g : TGs} {pos : Pos} (h : PGs X es g) (hn : (assignEach es X.env).length = n := by rfl) (hst : (assignEach es X.env).findIdx? (·.1) = none := by rfl) : PGH X (.Tuple es k pos) (gTup X.K n g) := by
  refine ⟨fun pins s σ H v u Q c I r y => ?_⟩
  obtain ⟨a, xs, rfl, q, len, y⟩ := y
  cases (show u = Value.ref a from r)
  obtain ⟨its, rv, ta, _⟩ := I.tuple q
  obtain ⟨p, hot, _⟩ := c.at I
  refine untupled_hot hot ta (by simp [hn, ← len, rv.length]) hst fun h' e => ?_
  have J : Inv X pins σ H { s with heap := h' } := I.kept (t' := s.toks) fun b o e1 => e b o (Nat.ne_of_lt (Heap.lt_size e1)) e1
  exact h.run pins _ σ H xs _ Q J (by simpa using rv) y
/-- [elt for tg in l if ..]: the list at a stays xs; Pv by the turn and the heap (the new list at D within) -/
def tLcH (K : PySem.W.Frag) (tl : TE) (g : TG) (tt : TT) (te : TE) (vs : List Nat) : TE := fun σ H Q => tl σ H fun x H1 => ∃ a xs, x = .ref a ∧ SqL K H1 a xs ∧ ∀ D, H1 D = none → ∃ Pv : Nat → Hp → Prop, Pv 0 (upd H1 D (.lst [])) ∧ (∀ i H, Pv i H → SqL K H a xs) ∧
  (∀ i x H, xs[i]? = some x → Pv i H → g x (wipe σ vs) H fun σ2 H2 => wipe σ2 vs = wipe σ vs ∧ tt σ2 H2 fun b H3 => if b = true then te σ2 H3 fun y H4 => ∃ acc, H4 D = some (.lst acc) ∧ acc.length < sizeLine ∧ Pv (i + 1) (upd H4 D (.lst (acc ++ [y]))) else Pv (i + 1) H3) ∧
  ∀ H, Pv xs.length H → Q (.ref D) H
section
variable {X : Cx}
theorem lcH_core {pins : List (Addr × Obj)} {s : Shared} {σ : L2.St} {H : Hp} {Q : VK} {elt tg l : Expr} {ifs : List Expr} {scope : Scope} {own : List (Str × Nat)} {pos q0 : Pos} {tl te : TE} {g : TG} {tt : TT} {use : Option (Value → Sem Unit)} {Qf : Value → Shared → Prop}
    (hot : L2H.HotC X) (nd : X.N.Nodup) (I : Inv X pins σ H s) (hl : PE X l tl) (ok : BlkOk X.N X.env.scope scope own)
    (hg : ∀ s H C cl fp, PGH (X.blk s H scope (compEnvC scope cl C X.env) fp) tg g) (ht : ∀ s H C cl fp, PTs (X.blk s H scope (compEnvC scope cl C X.env) fp) ifs tt) (he : ∀ s H C cl fp, PE (X.blk s H scope (compEnvC scope cl C X.env) fp) elt te)
    (hs : ∀ x, foldedSetIterable l X.env x = pure x) (h : tLcH X.K tl g tt te (own.map (·.2)) σ H Q)
    (out : ∀ D C t m H', Inv X pins σ H' t → Q (.ref D) H' → t.heap.Ns C m → FpOk X pins H' C → compPost (model X.prog X.w) X.A X.xe use Qf (.ref D) C (.ok .next) t) :
    wpAny (model X.prog X.w) X.A (comprehension (.ListComp elt [⟨tg, l, ifs, 0⟩] scope pos) scope X.env q0 (newList []) false (eval l X.env) use) Qf X.xe s := by
  obtain ⟨p, hp, pm⟩ := hot
  have frees : ∀ y ∈ scope.names, y.2 = .free → ∃ c, X.env.cells.lookup y.1 = some c := fun y m e => (ok.free y m e).elim (fun k => I.ok.has _ (.inl k)) (fun k => I.ok.has _ (.inr k))
  refine wpAny_comprehension_free (use := use) rfl hs (closure_ok frees) ok.kind (fun y m e => by rw [ok.uniq y m, e]) (thn (hl.run pins s σ H _ I h) fun v s1 ⟨x, H1, I1, r1, a, xs, e1, sq, wish⟩ => ?_)
  subst e1
  cases (show v = Value.ref a from r1)
  obtain ⟨its1, rv1, ls1, _⟩ := I1.list sq
  refine wpAny_pyIter_list ls1.isList ?_
  generalize hz : s1.heap.objs.size = it
  have I2 : Inv X pins σ H1 { s1 with heap := s1.heap.push { cls := .type "list_iterator", data := .fields #[.ref a, .int 0 0] } } := I1.kept (t' := s1.toks) fun b o e => Heap.get?_push_of_some _ e
  have fresh : FpOk X pins H1 it := hz ▸ I1.fpOk (Nat.le_refl _) (I1.hok.fresh (Nat.le_refl _))
  have at2 : ({ s1 with heap := s1.heap.push { cls := .type "list_iterator", data := .fields #[.ref a, .int 0 0] } } : Shared).heap.IsListIter it a 0 := hz ▸ ⟨_, Heap.get?_push_size _ rfl, rfl, rfl⟩
  generalize ({ s1 with heap := s1.heap.push { cls := .type "list_iterator", data := .fields #[.ref a, .int 0 0] } } : Shared) = s2 at I2 at2 ⊢
  refine wpAny_newObj_type (newEnv_comp ?_) (by show 0 ≤ sizeLine; decide)
  have itlt : it < s2.heap.objs.size := by
    obtain ⟨o, e, _⟩ := at2
    exact Heap.lt_size e
  generalize hD : s2.heap.objs.size = D at itlt ⊢
  have nD : H1 D = none := I2.hok.fresh (Nat.le_of_eq hD)
  obtain ⟨Pv, p0, pl, ps, pe⟩ := wish D nD
  generalize h3 : ({ s2 with heap := s2.heap.push { cls := .type "list", data := .seq ([] : List Value).toArray } } : Shared) = s3
  have s3h : s3.heap = s2.heap.push { cls := .type "list", data := .seq ([] : List Value).toArray } := by rw [← h3]
  have I3 : Inv X pins σ (upd H1 D (.lst [])) s3 := by
    rw [← h3]
    exact I2.laid (t' := s2.toks) (fun b o e => Heap.get?_push_of_some _ e) (Nat.le_of_eq hD) ⟨Nat.zero_le _, [], 0, .nil, by rw [← hD]; exact Heap.get?_push_size _ rfl⟩
  have itD : it ≠ D := Nat.ne_of_lt itlt
  have itOk : FpOk X pins (upd H1 D (.lst [])) it := ⟨by rw [upd_ne itD]; exact fresh.1, fresh.2⟩
  have big : it < s3.heap.objs.size := by rw [s3h, Heap.size_push, hD]; exact Nat.lt_succ_of_lt itlt
  have at3 : s3.heap.IsListIter it a 0 := at2.at fun {o} e => by rw [s3h]; exact Heap.get?_push_of_some _ e
  have J := block_start (fp := [it]) I3 ok nd fun b m => by
    cases List.mem_singleton.mp m
    exact ⟨itOk, big⟩
  have gg := hg s3 (upd H1 D (.lst [])) s3.heap.objs.size (cellsFrom (s3.heap.objs.size + 1) scope.names (cloFrom X.env.cells scope.names [])) [it]
  have tt1 := ht s3 (upd H1 D (.lst [])) s3.heap.objs.size (cellsFrom (s3.heap.objs.size + 1) scope.names (cloFrom X.env.cells scope.names [])) [it]
  have ee := he s3 (upd H1 D (.lst [])) s3.heap.objs.size (cellsFrom (s3.heap.objs.size + 1) scope.names (cloFrom X.env.cells scope.names [])) [it]
  show codeAny _ _ (.compStart (.ListComp elt [⟨tg, l, ifs, 0⟩] scope pos) 0 (.ref it) (.ref D) (compEnvC scope (cellsFrom (s3.heap.objs.size + 1) scope.names (cloFrom X.env.cells scope.names [])) s3.heap.objs.size X.env)) (compPost (model X.prog X.w) X.A X.xe use Qf (.ref D) s3.heap.objs.size) { s3 with heap := pushCells (s3.heap.push { cls := .type "dict", data := .dict #[] }) scope.names }
  have keeps4 : ∀ b o, s3.heap.get? b = some o → (pushCells (s3.heap.push { cls := .type "dict", data := .dict #[] }) scope.names).get? b = some o := fun b o e => pushCells_keeps _ _ _ _ (Heap.get?_push_of_some _ e)
  have pin3 := I3.pin p (List.mem_append_left _ pm)
  generalize hce : compEnvC scope (cellsFrom (s3.heap.objs.size + 1) scope.names (cloFrom X.env.cells scope.names [])) s3.heap.objs.size X.env = ce at J gg tt1 ee ⊢
  have ceL : ce.locals = s3.heap.objs.size := by subst hce; rfl
  generalize hH3 : upd H1 D (.lst []) = H3 at I3 J gg tt1 ee p0 itOk pin3
  generalize h4 : ({ s3 with heap := pushCells (s3.heap.push { cls := .type "dict", data := .dict #[] }) scope.names } : Shared) = s4 at J ⊢
  have at4 : s4.heap.IsListIter it a 0 := at3.at fun {o} e => by rw [← h4]; exact keeps4 _ _ e
  -- the handled one stays pinned in the block
  have I4 : Inv (X.blk s3 H3 scope ce [it]) [p] (wipe σ (own.map (·.2))) H3 s4 := J.pins_of fun r m => by
    cases List.mem_singleton.mp m
    refine ⟨by rw [← h4]; exact keeps4 _ _ pin3.1, pin3.2.1, ?_, fun z => ?_, pin3.2.2.2.2⟩
    · show p.1 ≠ ce.locals
      rw [ceL]
      exact Nat.ne_of_lt (Heap.lt_size pin3.1)
    · exact (List.mem_cons.mp (I3.stkSub p.1 z)).elim pin3.2.2.1 pin3.2.2.2.1
  have hp4 : ∀ {pl : List (Addr × Obj)}, HotP (X.blk s3 H3 scope ce [it]) ([p] ++ pl) := fun {pl} => ⟨p, hp, List.mem_append_right _ (List.mem_append_left _ (List.mem_singleton.mpr rfl))⟩
  have pne : p.1 ≠ it := fun z => itOk.2.2.2.2.2 p (List.mem_append_left _ pm) z
  have own4 : ∀ {σ' : L2.St} {H' : Hp} {t : Shared}, Inv (X.blk s3 H3 scope ce [it]) [p] σ' H' t → H' it = none → FpOk (X.blk s3 H3 scope ce [it]) [p] H' it := fun {σ' H' t} I' n =>
    ⟨n, (I'.ok.exf it (List.mem_singleton.mpr rfl)).1, I'.ok.exfs it (List.mem_singleton.mpr rfl), .inl (List.mem_singleton.mpr rfl), fun y c e => (I'.ok.exf it (List.mem_singleton.mpr rfl)).2 y c e, fun r m => by
      rcases List.mem_append.mp m with m | m
      · exact nomatch m
      · cases List.mem_singleton.mp m
        exact pne⟩
  have loop : codeAny (model X.prog X.w) X.A (.compLoop (.ListComp elt [⟨tg, l, ifs, 0⟩] scope pos) 0 (.ref it) (.ref D) ce) (compPost (model X.prog X.w) X.A X.xe use Qf (.ref D) s3.heap.objs.size) s4 := by
    refine compLoop_any (fun n t => ∃ i H', Inv (X.blk s3 H3 scope ce [it]) [p] (wipe σ (own.map (·.2))) H' t ∧ t.heap.IsListIter it a i ∧ H' it = none ∧ Pv i H' ∧ n = xs.length - i ∧ i ≤ xs.length) ?_ xs.length ⟨0, H3, I4, at4, itOk.1, p0, by omega, Nat.zero_le _⟩
    rintro n s5 ⟨i, H5, I5, at5, n5, v5, rfl, le⟩
    have sq5 := pl i H5 v5
    obtain ⟨its5, rv5, ls5, _⟩ := I5.list sq5
    obtain ⟨f0, f1, f2, f3, f4, f5⟩ := own4 I5 n5
    have len5 := rv5.length
    by_cases lt : i < xs.length
    · obtain ⟨u, hu, ru⟩ := rv5.get (show xs[i]? = some xs[i] by simp [lt])
      refine wpAny_pyNext_list_item at5 ls5.isList (x := u) (by simpa using hu) fun h6 at6 sb6 => ?_
      have I6 : Inv (X.blk s3 H3 scope ce [it]) [p] (wipe σ (own.map (·.2))) H5 { s5 with heap := h6 } := I5.turned (t' := s5.toks) (fun b o nb e => (sb6.2 b nb).trans e) f0 f1 f3 f4 f5
      obtain ⟨oi, gi, ki, di⟩ := id at6
      refine go_of (s := { s5 with heap := h6 }) gi ki di (by decide) ?_
      have there6 : ∀ b ∈ [it], ∃ o, ({ s5 with heap := h6 } : Shared).heap.get? b = some o ∧ ∀ v, o.data ≠ .cell v := fun b m => by
        cases List.mem_singleton.mp m
        exact ⟨oi, gi, fun v z => by rw [di] at z; cases z⟩
      have I7 := I6.pinned (fp := [it]) (fun b m => by cases List.mem_singleton.mp m; exact own4 I6 n5) there6
      refine thnF (gg.go _ _ _ H5 xs[i] u _ hp4 I7 ru (ps i xs[i] H5 (by simp [lt]) v5)) fun _ s8 ⟨σ8, H8, I8, w8, q8⟩ => ?_
      refine thnF (tt1.run _ s8 σ8 H8 _ I8 q8) fun b s9 ⟨H9, I9, q9⟩ => ?_
      have fin : ∀ {t : Shared} {H' : Hp}, Inv (X.blk s3 H3 scope ce [it]) ([p] ++ pinsAt [it] h6) σ8 H' t → Pv (i + 1) H' → ∃ m, m < xs.length - i ∧ ∃ j H', Inv (X.blk s3 H3 scope ce [it]) [p] (wipe σ (own.map (·.2))) H' t ∧ t.heap.IsListIter it a j ∧ H' it = none ∧ Pv j H' ∧ m = xs.length - j ∧ j ≤ xs.length := fun {t H'} I' v' => by
        have k := I'.pin (it, oi) (List.mem_append_right _ (List.mem_append_right _ (mem_pinsAt (List.mem_singleton.mpr rfl) gi)))
        have hl : (wipe σ (own.map (·.2))).length = σ8.length := by rw [← w8, wipe_length]
        refine ⟨xs.length - (i + 1), by omega, i + 1, H', I'.unpinned.weak hl (fun j v e => ?_), ⟨oi, k.1, ki, di⟩, k.2.1, v', rfl, lt⟩
        rw [← w8] at e
        exact (wipe_some e).1
      cases b with
      | false =>
        simp only [Bool.false_eq_true, if_false] at q9 ⊢
        exact fin I9 q9
      | true =>
        simp only [if_true] at q9 ⊢
        refine thnF (ee.run _ s9 σ8 H9 _ I9 q9) fun z s10 ⟨yv, H10, I10, r10, acc, hD10, hz10, nx⟩ => ?_
        exact app_ok (X := X.blk s3 H3 scope ce [it]) I10 hD10 hz10 r10 fun s11 I11 => fin I11 nx
    · have e0 : i = xs.length := by omega
      subst e0
      obtain ⟨p', hot5, m5⟩ := HotP.at (X := X.blk s3 H3 scope ce [it]) (pins := [p]) ⟨p, hp, List.mem_append_right _ (List.mem_singleton.mpr rfl)⟩ I5
      have pe5 : p' = p := by
        exact (List.mem_append.mp m5).elim (fun m => nomatch m) (fun m => List.mem_singleton.mp m)
      rw [pe5] at hot5
      refine list_stops hot5 pne at5 ls5.isList (by simp; omega) fun h6 e6 => ?_
      have I6 : Inv (X.blk s3 H3 scope ce [it]) [p] (wipe σ (own.map (·.2))) H5 { s5 with heap := h6 } := I5.turned (t' := s5.toks) (fun b o nb e => e6 b o nb e) f0 f1 f3 f4 f5
      have I7 : Inv X pins σ H5 { s5 with heap := h6 } := I3.call' (ch := [it]) I6.os I6.base I6.hok I6.bare fun b m => by
        cases List.mem_singleton.mp m
        exact ⟨itOk.2.2.2.1, itOk.2.1, itOk.2.2.2.2.1, itOk.2.2.2.2.2⟩
      have nC : H5 s3.heap.objs.size = none := by
        have z : H5 ce.locals = none := I6.free
        rwa [ceL] at z
      obtain ⟨m, hn, _⟩ := I6.loc
      have hn : (h6 : Heap).Ns ce.locals m := hn
      rw [ceL] at hn
      exact out D s3.heap.objs.size { s5 with heap := h6 } m H5 I7 (pe _ v5) hn (I3.fpOk (Nat.le_refl _) nC)
  exact codeAny_compStart_list loop (wpAny_pyIter_listiter at4 loop)
/-- name = [..], there -/
theorem ps_setLcH {i : Nat} {y : Str} {py : Pos} {elt tg l : Expr} {ifs : List Expr} {scope : Scope} {own : List (Str × Nat)} {pos spos : Pos} {tl te : TE} {g : TG} {tt : TT} (hot : L2H.HotC X) (nd : X.N.Nodup) (hy : X.N[i]? = some y) (loc : X.env.scope.names.lookup y = some .local)
    (sw : swapsWith (.ListComp elt [⟨tg, l, ifs, 0⟩] scope pos) (some (.Name y py)) spos.line X.env = pure true) (hl : PE X l tl) (ok : BlkOk X.N X.env.scope scope own)
    (hg : ∀ s H C cl fp, PGH (X.blk s H scope (compEnvC scope cl C X.env) fp) tg g) (ht : ∀ s H C cl fp, PTs (X.blk s H scope (compEnvC scope cl C X.env) fp) ifs tt) (he : ∀ s H C cl fp, PE (X.blk s H scope (compEnvC scope cl C X.env) fp) elt te)
    (hs : ∀ x, foldedSetIterable l X.env x = pure x := by intro _; rfl) : PS X (.Assign [.Name y py] (.ListComp elt [⟨tg, l, ifs, 0⟩] scope pos) spos) (tAsg (tLcH X.K tl g tt te (own.map (·.2))) (gName i)) := by
  refine ⟨fun pins s σ H D I h => ?_⟩
  rw [exec_Assign_Name_used _ _ _ _ sw]
  refine wpAny_bind (wpAny_standAt (wpAny_bind ?_))
  show wpAny _ X.A (do let _ ← comprehension (.ListComp elt [⟨tg, l, ifs, 0⟩] scope pos) scope X.env (firstIterPos [⟨tg, l, ifs, 0⟩] pos) (newList []) false (eval l X.env) (some (assign (.Name y py) X.env))) _ _ s
  have h : tLcH X.K tl g tt te (own.map (·.2)) σ H (fun x H1 => gName i x σ H1 D.nx) := h
  refine wpAny_bind (thn (lcH_core (Qf := fun _ t => SP X pins D .next t) hot nd I hl ok hg ht he hs h fun L C t m H' J q ns f => ?_) fun _ t q => wpAny_pure (wpAny_pure q))
  show wpAny _ _ (assign (.Name y py) X.env (.ref L)) _ _ _
  refine wpAny_assign_Name (store_ok2 (v := V.ref L) J nd hy (.inl loc) rfl (fun t2 J2 ⟨b, sb, where_⟩ => ?_) (.inr loc))
  obtain ⟨f0, f1, f2, f3, f4, f5⟩ := f
  have other : C ≠ b := where_.elim (fun z => z ▸ f1) (fun z e => f4 y b z e.symm)
  exact ⟨m, ns.sameBut sb other, fun h3 sb3 => ⟨_, H', J2.turned (t' := t2.toks) (fun b o nb e => (sb3.2 b nb).trans e) f0 f1 f3 f4 f5, q⟩⟩
end
end CL
set_option Elab.async false
set_option linter.all false
set_option pp.maxSteps 600
set_option maxRecDepth 100000
set_option maxHeartbeats 4000000
namespace CL
open PySem PySem.Spec PyProof.Rows L2 GE HotX
/-! ### a def that is handed the error that is handled -/
structure FnP (P : Program) (w : World) (K : PySem.W.Frag) (mg : Str → Option Value) (base : Heap) (k : Nat) (f : Addr) (fd : FuncData) (ps : List Str) (sp : Addr → Addr → Sp) : Prop where
  len : ∀ a D vs H Q E, sp a D vs H Q E → vs.length = ps.length
  go : ∀ A outer s H args us vs Q E p D, L2H.RoomH k A → L2H.Hot1 A p → Zc (.ref D) none p.2 → L2H.PinOk outer H s p → Env0 P w K mg base A outer s H → BindsTo s fd args (ps.zip us) → Vals vs us → sp p.1 D vs H Q E → codeAny (model P w) A (.call (.ref f) args) (CR CX0 outer P w H s Q E) s
theorem fnP_of {P : Program} {w : World} {K : PySem.W.Frag} {mg : Str → Option Value} {base : Heap} {k : Nat} {f : Addr} {x qual : Str} {st : Stmt} {fd : FuncData} {N ps : List Str} {sp : Addr → Addr → Sp} (F : Fun K x qual st f fd) (S : FnScope N ps (defScope st)) (len : ∀ a D vs H Q E, sp a D vs H Q E → vs.length = ps.length)
    (body : ∀ (cdv : Value) (A : Around) (outer : List Env) (s : Shared) (H : Hp) (vs : List V) (Q : VK) (E : XK) (p : Addr × Obj) (D : Addr), L2H.Hot1 A p → Zc (.ref D) none p.2 → L2H.RoomH k (A.deeper (envOfC qual (defScope st) s.heap.objs.size f cdv)) → sp p.1 D vs H Q E →
      ∃ t, PSs (L2H.cxH CX0 P w K mg base N qual (defScope st) f cdv A outer s H E p) (defBody st) t ∧ t { nx := fun _ H' => Q .non H', rt := Q } (start N vs) H) : FnP P w K mg base (k + 1) f fd ps sp := by
  obtain ⟨oc, od, kV, doc, pm, an, cdv, ct, osl, rfl, lk, hcd⟩ := F.ex
  refine ⟨len, fun A outer s H args us vs Q E p D rm h1 z pk e0 bn rv h => ?_⟩
  have nl := len _ _ _ _ _ _ h
  have low : ∀ b o, base.get? b = some o → s.heap.get? b = some o := fun b o e => (e0.bs b o e).1
  have kinds : ∀ y ∈ ps.zip us, (defScope st).names.lookup y.1 = some .local ∨ ((defScope st).names.lookup y.1 = some .cell ∧ ((cellsFrom (s.heap.objs.size + 1) (defScope st).names []).lookup y.1).isSome = true) := by
    rintro ⟨n, v⟩ m
    exact (S.par n (List.of_mem_zip m).1).elim .inl fun e => .inr ⟨e, PySem.W.cellsFrom_some _ _ _ (.inl e)⟩
  refine codeAny_call_function rm.depth (e0.mod.kin.keeps low _ _ lk) rfl S.co S.gen rfl (PySem.W.codeRec_of (e0.mod.kin.keeps low) hcd) (bn _ _ _ _ ?_)
  refine wpAny_newFunctionEnv_cells S.kind kinds fun env he s1 x1 => ?_
  subst he
  refine ⟨(e0.mod.nolimit.keeps low).keeps x1.toInCall.keep, codeAny_func ?_⟩
  obtain ⟨t, ht, q⟩ := body cdv A outer s H vs Q E p D h1 z (rm.deeper _) h
  have J : Inv (L2H.cxH CX0 P w K mg base N qual (defScope st) f cdv A outer s H E p) [] (start N vs) H s1 := L2H.inv_startH S pk e0 nl rv x1
  refine wpAny_mono (ht.run [] s1 _ H _ J q) (fun g s' y => ?_) fun _ _ y => y
  cases g with
  | next =>
    obtain ⟨σ', H', J', q'⟩ := y
    exact ⟨.non, H', J'.os, J'.bare, J'.base, J'.hok, rfl, q'⟩
  | ret u =>
    obtain ⟨v, σ', H', J', r', q'⟩ := y
    exact ⟨v, H', J'.os, J'.bare, J'.base, J'.hok, r', q'⟩
  | brk => exact (show ∃ _ _, _ from y).elim fun _ y => y.elim fun _ y => y.2.elim
  | cont => exact (show ∃ _ _, _ from y).elim fun _ y => y.elim fun _ y => y.2.elim
/-- such a def by its name -/
structure CalP (P : Program) (w : World) (K : PySem.W.Frag) (mg : Str → Option Value) (base : Heap) (k : Nat) (x : Str) (ps : List Str) (sp : Addr → Addr → Sp) : Prop where
  ex : ∃ f fd, mg x = some (.ref f) ∧ PySem.W.keepIn K (.ref f) = true ∧ Binds K fd ps [] ∧ FnP P w K mg base k f fd ps sp
section
variable {X : Cx}
theorem pe_calP {k : Nat} {x : Str} {ps : List Str} {sp : Addr → Addr → Sp} {p pos : Pos} {e : Expr} {es : List Expr} {t : TA} {h : Addr × Obj} {D : Addr} (C : CalP X.prog X.w X.K X.mg X.base k x ps sp) (hr : L2H.RoomH k X.A) (h1 : L2H.Hot1 X.A h) (hm : h ∈ X.pn) (z : Zc (.ref D) none h.2) (hg : Gl X x) (ha : PA X (e :: es) t)
    (hdb : (x == ("__debug__" : Str)) = false := by decide) (he : starEach (e :: es) X.env = (false, eval e X.env) :: starEach es X.env := by rfl) (hpl : (backTo pos (starEach es X.env)).any (·.1) = false := by rfl) :
    PE X (.Call (.Name x p) (e :: es) [] pos) (fun σ H Q => t σ H fun vs H1 => sp h.1 D vs H1 Q E0) := by
  obtain ⟨f, fd, g, kp, bn, F⟩ := C.ex
  refine ⟨fun pins s σ H Q I y => ?_⟩
  refine wpAny_Call_Name_kw (ld_glob I hg g ?_ hdb)
  refine PySem.W.callWith_K (h₀ := X.base) I.ok.mod.kin kp (thn (ha.run pos pins s σ H _ I y) fun us s1 ⟨vs, H1, J, r, q⟩ => ⟨J.kIn, ?_⟩) he hpl
  have nl : us.length = ps.length := r.length.symm.trans (F.len _ _ _ _ _ _ q)
  have b := bn s1 us J.kIn (by rw [List.append_nil]; exact nl)
  rw [List.append_nil] at b
  have pj := J.pin h (List.mem_append_left _ hm)
  refine wpAny_call (codeAny_mono (F.go X.A X.stack s1 H1 ⟨us, []⟩ us vs Q E0 h D hr h1 z ⟨pj.1, pj.2.1, fun m => (List.mem_cons.mp (J.stkSub h.1 m)).elim pj.2.2.1 pj.2.2.2.1, pj.2.2.2.2⟩ J.env0 b r q) fun c s' y => ?_)
  match c, y with
  | .ok (.ret u), y => exact J.after y
/-! ### isinstance of it -/
theorem pin_inst {pins : List (Addr × Obj)} {σ : L2.St} {H : Hp} {s : Shared} {p : Addr × Obj} {D : Addr} (I : Inv X pins σ H s) (hm : p ∈ X.pn) (z : Zc (.ref D) none p.2) (h1 : L2H.Hot1 X.A p) : PySem.W.InstAt s.heap p.1 p.2 D none := by
  obtain ⟨a, oc, od, oda, osl⟩ := p
  obtain ⟨_, vs, d, _⟩ := h1
  obtain ⟨z1, z2⟩ := z
  dsimp only at z1 z2 d
  subst z1 z2 d
  exact ⟨(I.pin _ (List.mem_append_left _ hm)).1, rfl, rfl, trivial⟩
def rIsP (K : PySem.W.Frag) (a D : Addr) : List V → Hp → VK → Prop := fun xs H Q => ∃ (c : V) (u : Value) (b : Bool), xs = [.ref a, c] ∧ L2.ExcC K D ∧ ClsV c u ∧ PySem.W.kitOne K (.ref D) u = some b ∧ Q (.bl b) H
theorem call_isP {p : Addr × Obj} {D : Addr} (hm : p ∈ X.pn) (z : Zc (.ref D) none p.2) (h1 : L2H.Hot1 X.A p) : CallR X (.builtin "isinstance") (rIsP X.K p.1 D) := by
  intro pins s σ H xs us Q I r h
  obtain ⟨c, u, b, rfl, C, k, e, q⟩ := h
  obtain ⟨u1, u2, rfl, r1, r2⟩ := vals2 r
  have e2 := k.eq r2
  subst e2
  cases (show u1 = Value.ref p.1 from r1)
  exact PySem.W.kia_one (PySem.W.handS_kitx_exc C.hg C.hk C.hs C.hd C.ha C.hn C.ht C.hm) I.kIn (pin_inst I hm z h1) e (fun z => nomatch z) fun tk => ⟨.bl b, H, I.tok tk, rfl, q⟩
def rIsPT (K : PySem.W.Frag) (a D : Addr) : List V → Hp → VK → Prop := fun xs H Q => ∃ (tp : Addr) (cs : List V) (us : List Value) (b : Bool), xs = [.ref a, .ref tp] ∧ L2.ExcC K D ∧ H tp = some (.tup cs) ∧ Paired ClsV cs us ∧ PySem.W.kitAny K (.ref D) us = some b ∧ Q (.bl b) H
theorem call_isPT {p : Addr × Obj} {D : Addr} (hm : p ∈ X.pn) (z : Zc (.ref D) none p.2) (h1 : L2H.Hot1 X.A p) : CallR X (.builtin "isinstance") (rIsPT X.K p.1 D) := by
  intro pins s σ H xs us Q I r h
  obtain ⟨tp, cs, ws, b, rfl, C, hT, k, e, q⟩ := h
  obtain ⟨u1, u2, rfl, r1, r2⟩ := vals2 r
  cases (show u1 = Value.ref p.1 from r1)
  cases (show u2 = Value.ref tp from r2)
  obtain ⟨_, its, rv, o, e1, e2, n, e3⟩ := (show ObjOk X.prog X.w H s.heap tp (.tup cs) from I.hok tp _ hT)
  have same := ClsV.all k rv
  subst same
  obtain ⟨oc, od, dt, sl⟩ := o
  simp only at e2 e3
  subst e2 e3
  exact PySem.W.kia_tup (PySem.W.handS_kitx_exc C.hg C.hk C.hs C.hd C.ha C.hn C.ht C.hm) I.kIn (pin_inst I hm z h1) e1 e (fun z => nomatch z) fun tk => ⟨.bl b, H, I.tok tk, rfl, q⟩
end
end CL
set_option Elab.async false
set_option linter.all false
set_option pp.maxSteps 600
set_option maxRecDepth 100000
set_option maxHeartbeats 4000000
namespace CL
open PySem PySem.Spec PyProof.Rows L2 GE HotX
abbrev sClass : Stmt := topS 43
abbrev nClass : List Str := ["caught", "odd", "some", "found", "word", "there"]
theorem scClass : FnScope nClass ["caught"] (defScope sClass) := ⟨rfl, rfl, rfl, by decide +kernel, rfl, by decide +kernel, by decide +kernel⟩
/-- the classes that it names -/
structure ClsG (K : PySem.W.Frag) (mg : Str → Option Value) where
  aNoOrder : Addr
  gNoOrder : mg "NoOrder" = some (.ref aNoOrder)
  aNoNumber : Addr
  gNoNumber : mg "NoNumber" = some (.ref aNoNumber)
  aNoPlan : Addr
  gNoPlan : mg "NoPlan" = some (.ref aNoPlan)
  aNoPerson : Addr
  gNoPerson : mg "NoPerson" = some (.ref aNoPerson)
  aNoMoment : Addr
  gNoMoment : mg "NoMoment" = some (.ref aNoMoment)
  aTooMany : Addr
  gTooMany : mg "TooMany" = some (.ref aTooMany)
  aNoOther : Addr
  gNoOther : mg "NoOther" = some (.ref aNoOther)
  aNoPlace : Addr
  gNoPlace : mg "NoPlace" = some (.ref aNoPlace)
  aNoEnd : Addr
  gNoEnd : mg "NoEnd" = some (.ref aNoEnd)
  aNoPatience : Addr
  gNoPatience : mg "NoPatience" = some (.ref aNoPatience)
  aNobody : Addr
  gNobody : mg "Nobody" = some (.ref aNobody)
  aNothing : Addr
  gNothing : mg "Nothing" = some (.ref aNothing)
  aNoHistory : Addr
  gNoHistory : mg "NoHistory" = some (.ref aNoHistory)
  aNoText : Addr
  gNoText : mg "NoText" = some (.ref aNoText)
  aNoForm : Addr
  gNoForm : mg "NoForm" = some (.ref aNoForm)
  aNoneYet : Addr
  gNoneYet : mg "NoneYet" = some (.ref aNoneYet)
  ve : mg "ValueError" = none
def clsWs (b1 b2 : Bool) : List (Str × Bool) := [("NoOrder", b1), ("NoNumber", b2)]
def metW (l : List (Str × Bool)) : List Str := (l.filter (·.2)).map (·.1)
theorem clsVs : ∀ l : List Addr, Paired ClsV (l.map V.ref) (l.map Value.ref)
  | [] => .nil
  | a :: l => .cons (.own a) (clsVs l)
/-- what the classes say of the class D -/
structure ClsF (K : PySem.W.Frag) (mg : Str → Option Value) (G : ClsG K mg) (D : Addr) (b1 b2 : Bool) : Prop where
  ex : L2.ExcC K D
  ve : PySem.W.kitOne K (.ref D) (.type "ValueError") = some true
  o0 : PySem.W.kitAny K (.ref D) ([G.aNoPlan, G.aNoPerson, G.aNoMoment, G.aTooMany, G.aNoOther, G.aNoPlace].map Value.ref) = some false
  o1 : PySem.W.kitAny K (.ref D) ([G.aNoEnd, G.aNoPatience, G.aNobody, G.aNothing, G.aNoHistory, G.aNoText].map Value.ref) = some false
  o2 : PySem.W.kitAny K (.ref D) ([G.aNoForm, G.aNoneYet].map Value.ref) = some false
  kb1 : PySem.W.kitOne K (.ref D) (.ref G.aNoOrder) = some b1
  kb2 : PySem.W.kitOne K (.ref D) (.ref G.aNoNumber) = some b2
/-- D is that word's class -/
def ClsW (K : PySem.W.Frag) (mg : Str → Option Value) (G : ClsG K mg) (D : Addr) (word : Str) : Prop := ∃ b1 b2, ClsF K mg G D b1 b2 ∧ metW (clsWs b1 b2) = [word]
def spClass (K : PySem.W.Frag) (mg : Str → Option Value) (G : ClsG K mg) : Addr → Addr → Sp := fun a D vs H Q _ => ∃ word, vs = [.ref a] ∧ ClsW K mg G D word ∧ ∀ H', Same H H' → Q (.str word) H'
section
variable {P : Program} {w : World} {K : PySem.W.Frag} {mg : Str → Option Value} {base : Heap}
theorem ok_class {f : Addr} {fd : FuncData} (F : Fun K "_law_class" "_law_class" sClass f fd) (T : Nm mg) (G : ClsG K mg) : FnP P w K mg base 1 f fd ["caught"] (spClass K mg G) := by
  refine fnP_of F scClass (fun a D vs H Q E ⟨word, e, _⟩ => by rw [e]; rfl) (fun cdv A outer s H vs Q E p D h1 z hr h => ?_)
  obtain ⟨word, rfl, ⟨b1, b2, KF, hw⟩, q⟩ := h
  have nd := scClass.nd
  have pm : p ∈ (L2H.cxH CX0 P w K mg base nClass "_law_class" (defScope sClass) f cdv A outer s H E p).pn := List.mem_singleton.mpr rfl
  have hot : L2H.HotC (L2H.cxH CX0 P w K mg base nClass "_law_class" (defScope sClass) f cdv A outer s H E p) := ⟨p, h1, pm⟩
  refine ⟨_, (pss_cons (ps_set (i := 1) nd rfl (.inl rfl) (pe_not (pe_callB (call_isP pm z h1) (by rfl) T.isi (by decide +kernel) (pa_cons (pv 0) (pa_cons (pe_bltn (v := .ty "ValueError") (by rfl) G.ve (by decide +kernel) rfl) pa_nil)))))
    (pss_cons (ps_set (i := 1) nd rfl (.inl rfl) (pe_or (pv 1) (pe_one (pe_callB (call_isPT pm z h1) (by rfl) T.isi (by decide +kernel) (pa_cons (pv 0) (pa_cons (pe_tup (pa_cons (pe_glob (v := .ref G.aNoPlan) (by rfl) G.gNoPlan rfl (by decide)) (pa_cons (pe_glob (v := .ref G.aNoPerson) (by rfl) G.gNoPerson rfl (by decide)) (pa_cons (pe_glob (v := .ref G.aNoMoment) (by rfl) G.gNoMoment rfl (by decide)) (pa_cons (pe_glob (v := .ref G.aTooMany) (by rfl) G.gTooMany rfl (by decide)) (pa_cons (pe_glob (v := .ref G.aNoOther) (by rfl) G.gNoOther rfl (by decide)) (pa_cons (pe_glob (v := .ref G.aNoPlace) (by rfl) G.gNoPlace rfl (by decide)) pa_nil))))))) pa_nil))))))
    (pss_cons (ps_set (i := 1) nd rfl (.inl rfl) (pe_or (pv 1) (pe_one (pe_callB (call_isPT pm z h1) (by rfl) T.isi (by decide +kernel) (pa_cons (pv 0) (pa_cons (pe_tup (pa_cons (pe_glob (v := .ref G.aNoEnd) (by rfl) G.gNoEnd rfl (by decide)) (pa_cons (pe_glob (v := .ref G.aNoPatience) (by rfl) G.gNoPatience rfl (by decide)) (pa_cons (pe_glob (v := .ref G.aNobody) (by rfl) G.gNobody rfl (by decide)) (pa_cons (pe_glob (v := .ref G.aNothing) (by rfl) G.gNothing rfl (by decide)) (pa_cons (pe_glob (v := .ref G.aNoHistory) (by rfl) G.gNoHistory rfl (by decide)) (pa_cons (pe_glob (v := .ref G.aNoText) (by rfl) G.gNoText rfl (by decide)) pa_nil))))))) pa_nil))))))
    (pss_cons (ps_set (i := 1) nd rfl (.inl rfl) (pe_or (pv 1) (pe_one (pe_callB (call_isPT pm z h1) (by rfl) T.isi (by decide +kernel) (pa_cons (pv 0) (pa_cons (pe_tup (pa_cons (pe_glob (v := .ref G.aNoForm) (by rfl) G.gNoForm rfl (by decide)) (pa_cons (pe_glob (v := .ref G.aNoneYet) (by rfl) G.gNoneYet rfl (by decide)) pa_nil))) pa_nil))))))
    (pss_cons (ps_set (i := 2) nd rfl (.inl rfl) (pe_lst pa_nil))
    (pss_cons (ps_expr (pe_bm PySem.F.plainAttrs_list PySem.F.slot_list_append PySem.F.type_list_append mt_append (pv 2) (pa_cons (pe_tup (pa_cons pe_str (pa_cons (pe_callB (call_isP pm z h1) (by rfl) T.isi (by decide +kernel) (pa_cons (pv 0) (pa_cons (pe_glob (v := .ref G.aNoOrder) (by rfl) G.gNoOrder rfl (by decide)) pa_nil))) pa_nil))) pa_nil)))
    (pss_cons (ps_expr (pe_bm PySem.F.plainAttrs_list PySem.F.slot_list_append PySem.F.type_list_append mt_append (pv 2) (pa_cons (pe_tup (pa_cons pe_str (pa_cons (pe_callB (call_isP pm z h1) (by rfl) T.isi (by decide +kernel) (pa_cons (pv 0) (pa_cons (pe_glob (v := .ref G.aNoNumber) (by rfl) G.gNoNumber rfl (by decide)) pa_nil))) pa_nil))) pa_nil)))
    (pss_cons (ps_setLcH (i := 3) (own := [("word", 4), ("there", 5)]) (g := gTup K 2 (gCons (gName 4) (gCons (gName 5) gNil))) hot nd rfl rfl (sw_true rfl rfl rfl (by decide +kernel)) (pv 2) (blkOk_by (N := nClass) (sc := defScope sClass) (by decide +kernel))
      (fun _ _ _ _ _ => pgh_tup (pgs_cons (pg_name (i := 4) nd rfl (.inl rfl) (.inr rfl)) (pgs_cons (pg_name (i := 5) nd rfl (.inl rfl) (.inr rfl)) pgs_nil))) (fun _ _ _ _ _ => pts_one (pt_val (pv 5))) (fun _ _ _ _ _ => pv 4))
    (pss_one (ps_ret (pe_ifExp (PW.pt (pw_and (pt_cmpR op_eq (pe_callB call_len_seq (by rfl) T.len PySem.boot_len (pa_cons (pv 3) pa_nil)) pe_int (nomark _)) (pw_and1 (pt_not (pt_val (pv 1)))))) (pe_ix ix_list (pv 3) pe_int (fun _ _ => rfl)) pe_str))))))))))), ?_⟩
  have two : ∀ {x y : V}, [x, y].length ≤ sizeLine := fun {x y} => small_le (by show 2 ≤ 1000; decide)
  refine ⟨.ref p.1, rfl, .ty "ValueError", .type "ValueError", true, rfl, KF.ex, .ty _, KF.ve, true, rfl, ?_⟩
  refine ⟨.bl false, rfl, false, rfl, iteF ⟨.ref p.1, rfl, small_le (by show 6 ≤ 1000; decide), fun o0 no0 => ?_⟩⟩
  have so0 : Same H (upd H o0 (.tup [.ref G.aNoPlan, .ref G.aNoPerson, .ref G.aNoMoment, .ref G.aTooMany, .ref G.aNoOther, .ref G.aNoPlace])) := same_upd no0
  have to0 : (upd H o0 (.tup [.ref G.aNoPlan, .ref G.aNoPerson, .ref G.aNoMoment, .ref G.aTooMany, .ref G.aNoOther, .ref G.aNoPlace])) o0 = some (.tup ([G.aNoPlan, G.aNoPerson, G.aNoMoment, G.aTooMany, G.aNoOther, G.aNoPlace].map V.ref)) := upd_same
  generalize upd H o0 (.tup [.ref G.aNoPlan, .ref G.aNoPerson, .ref G.aNoMoment, .ref G.aTooMany, .ref G.aNoOther, .ref G.aNoPlace]) = Ha0 at so0 to0 ⊢
  refine ⟨o0, _, _, false, rfl, KF.ex, to0, clsVs _, KF.o0, ?_⟩
  refine ⟨.bl false, rfl, false, rfl, iteF ⟨.ref p.1, rfl, small_le (by show 6 ≤ 1000; decide), fun o1 no1 => ?_⟩⟩
  have so1 : Same Ha0 (upd Ha0 o1 (.tup [.ref G.aNoEnd, .ref G.aNoPatience, .ref G.aNobody, .ref G.aNothing, .ref G.aNoHistory, .ref G.aNoText])) := same_upd no1
  have to1 : (upd Ha0 o1 (.tup [.ref G.aNoEnd, .ref G.aNoPatience, .ref G.aNobody, .ref G.aNothing, .ref G.aNoHistory, .ref G.aNoText])) o1 = some (.tup ([G.aNoEnd, G.aNoPatience, G.aNobody, G.aNothing, G.aNoHistory, G.aNoText].map V.ref)) := upd_same
  generalize upd Ha0 o1 (.tup [.ref G.aNoEnd, .ref G.aNoPatience, .ref G.aNobody, .ref G.aNothing, .ref G.aNoHistory, .ref G.aNoText]) = Ha1 at so1 to1 ⊢
  refine ⟨o1, _, _, false, rfl, KF.ex, to1, clsVs _, KF.o1, ?_⟩
  refine ⟨.bl false, rfl, false, rfl, iteF ⟨.ref p.1, rfl, small_le (by show 2 ≤ 1000; decide), fun o2 no2 => ?_⟩⟩
  have so2 : Same Ha1 (upd Ha1 o2 (.tup [.ref G.aNoForm, .ref G.aNoneYet])) := same_upd no2
  have to2 : (upd Ha1 o2 (.tup [.ref G.aNoForm, .ref G.aNoneYet])) o2 = some (.tup ([G.aNoForm, G.aNoneYet].map V.ref)) := upd_same
  generalize upd Ha1 o2 (.tup [.ref G.aNoForm, .ref G.aNoneYet]) = Ha2 at so2 to2 ⊢
  refine ⟨o2, _, _, false, rfl, KF.ex, to2, clsVs _, KF.o2, ?_⟩
  refine ⟨Nat.zero_le _, fun l nl => ?_⟩
  have sl : Same Ha2 (upd Ha2 l (.lst [])) := same_upd nl
  have tl0 : (upd Ha2 l (.lst [])) l = some (.lst []) := upd_same
  show tSeq _ _ _ [some (.ref p.1), some (.bl false), some (.ref l), none, none, none] (upd Ha2 l (.lst []))
  have sH : Same H Ha2 := ((so0).trans so1).trans so2
  generalize hL : upd Ha2 l (.lst []) = HL at sl tl0 ⊢
  have nlH : H l = none := by
    cases e : H l with
    | none => rfl
    | some o => rw [sH _ _ e] at nl; cases nl
  have s0 : Same H HL := sH.trans sl
  -- NoOrder
  refine ⟨.ref l, rfl, .inl ⟨rfl, _, SqL.of tl0⟩, .ref p.1, rfl, .ref G.aNoOrder, .ref G.aNoOrder, b1, rfl, KF.ex, .own _, KF.kb1, two, fun p1 np1 => ?_⟩
  have up1 : Same HL (upd HL p1 (.tup [.str "NoOrder", .bl b1])) := same_upd np1
  have tp1 : (upd HL p1 (.tup [.str "NoOrder", .bl b1])) p1 = some (.tup [.str "NoOrder", .bl b1]) := upd_same
  generalize upd HL p1 (.tup [.str "NoOrder", .bl b1]) = Hb1 at up1 tp1 ⊢
  have m0 := up1 _ _ tl0
  refine ⟨l, _, .ref p1, rfl, rfl, m0, small1000 (by show 0 ≤ 1000; decide), ?_⟩
  have tl1 : (upd Hb1 l (.lst ([] ++ [.ref p1]))) l = some (.lst [.ref p1]) := upd_same
  have s1 : Same H (upd Hb1 l (.lst ([] ++ [.ref p1]))) := fun b o e => by
    rw [upd_ne (fun y => by rw [y, nlH] at e; cases e)]
    exact up1 _ _ (s0 _ _ e)
  have ne0 : ∀ {b : Addr} {xs : List V}, Hb1 b = some (.tup xs) → b ≠ l := fun {b xs} e y => by rw [y, m0] at e; cases e
  have tp1 : (upd Hb1 l (.lst ([] ++ [.ref p1]))) p1 = some (.tup [.str "NoOrder", .bl b1]) := by rw [upd_ne (ne0 tp1)]; exact tp1
  generalize upd Hb1 l (.lst ([] ++ [.ref p1])) = Hc1 at s1 tl1  tp1 ⊢
  -- NoNumber
  refine ⟨.ref l, rfl, .inl ⟨rfl, _, SqL.of tl1⟩, .ref p.1, rfl, .ref G.aNoNumber, .ref G.aNoNumber, b2, rfl, KF.ex, .own _, KF.kb2, two, fun p2 np2 => ?_⟩
  have up2 : Same Hc1 (upd Hc1 p2 (.tup [.str "NoNumber", .bl b2])) := same_upd np2
  have tp2 : (upd Hc1 p2 (.tup [.str "NoNumber", .bl b2])) p2 = some (.tup [.str "NoNumber", .bl b2]) := upd_same
  generalize upd Hc1 p2 (.tup [.str "NoNumber", .bl b2]) = Hb2 at up2 tp2 ⊢
  have m1 := up2 _ _ tl1
  refine ⟨l, _, .ref p2, rfl, rfl, m1, small1000 (by show 1 ≤ 1000; decide), ?_⟩
  have tl2 : (upd Hb2 l (.lst ([.ref p1] ++ [.ref p2]))) l = some (.lst [.ref p1, .ref p2]) := upd_same
  have s2 : Same H (upd Hb2 l (.lst ([.ref p1] ++ [.ref p2]))) := fun b o e => by
    rw [upd_ne (fun y => by rw [y, nlH] at e; cases e)]
    exact up2 _ _ (s1 _ _ e)
  have ne1 : ∀ {b : Addr} {xs : List V}, Hb2 b = some (.tup xs) → b ≠ l := fun {b xs} e y => by rw [y, m1] at e; cases e
  have tp1 : (upd Hb2 l (.lst ([.ref p1] ++ [.ref p2]))) p1 = some (.tup [.str "NoOrder", .bl b1]) := by rw [upd_ne (ne1 (up2 _ _ tp1))]; exact up2 _ _ tp1
  have tp2 : (upd Hb2 l (.lst ([.ref p1] ++ [.ref p2]))) p2 = some (.tup [.str "NoNumber", .bl b2]) := by rw [upd_ne (ne1 tp2)]; exact tp2
  generalize upd Hb2 l (.lst ([.ref p1] ++ [.ref p2])) = Hc2 at s2 tl2 tp1 tp2 ⊢
  have items : ∀ (j : Nat) (x : V), [V.ref p1, .ref p2][j]? = some x → ∃ b wd so, x = .ref b ∧ Hc2 b = some (.tup [.str wd, .bl so]) ∧ (clsWs b1 b2)[j]? = some (wd, so) := fun j x hx => by
    match j, hx with
    | 0, hx => cases hx; exact ⟨p1, _, _, rfl, tp1, rfl⟩
    | 1, hx => cases hx; exact ⟨p2, _, _, rfl, tp2, rfl⟩
  refine ⟨.ref l, rfl, l, [V.ref p1, .ref p2], rfl, SqL.of tl2, fun D2 n2 => ?_⟩
  refine ⟨fun j H' => H' = upd Hc2 D2 (.lst ((metW ((clsWs b1 b2).take j)).map V.str)), rfl, fun j H' e => by rw [e]; exact SqL.of ((same_upd n2 : Same Hc2 _) _ _ tl2), fun j x H' hx e => ?_, fun H' e => ?_⟩
  · subst e
    obtain ⟨b, wd, so, rfl, hb, hk⟩ := items j x hx
    have hb' := (same_upd n2 : Same Hc2 (upd Hc2 D2 (.lst ((metW ((clsWs b1 b2).take j)).map V.str)))) _ _ hb
    have est : metW ((clsWs b1 b2).take (j + 1)) = metW ((clsWs b1 b2).take j) ++ (if so = true then [wd] else []) := by
      unfold metW
      rw [List.take_add_one, hk, List.filter_append, List.map_append]
      cases so <;> rfl
    have len : ((metW ((clsWs b1 b2).take j)).map V.str).length < sizeLine := by
      unfold metW
      rw [List.length_map, List.length_map]
      have y1 := List.length_filter_le (fun x : Str × Bool => x.2) ((clsWs b1 b2).take j)
      have y2 : ((clsWs b1 b2).take j).length ≤ 2 := by rw [List.length_take]; exact Nat.min_le_right _ _
      exact small1000 (by omega)
    refine ⟨b, [.str wd, .bl so], rfl, SqT.of hb', rfl, .str wd, [.bl so], rfl, .bl so, [], rfl, rfl, rfl, .bl so, rfl, so, rfl, ?_⟩
    cases so with
    | false =>
      refine iteF ?_
      show upd Hc2 D2 (.lst ((metW ((clsWs b1 b2).take j)).map V.str)) = upd Hc2 D2 (.lst ((metW ((clsWs b1 b2).take (j + 1))).map V.str))
      rw [est]
      show _ = upd Hc2 D2 (.lst ((metW ((clsWs b1 b2).take j) ++ []).map V.str))
      rw [List.append_nil]
    | true =>
      refine iteT ⟨.str wd, rfl, _, upd_same, len, ?_⟩
      show _ = upd Hc2 D2 (.lst ((metW ((clsWs b1 b2).take (j + 1))).map V.str))
      rw [est, upd_upd, List.map_append]
      rfl
  · have e2 : H' = upd Hc2 D2 (.lst [.str word]) := by
      rw [e]
      show upd Hc2 D2 (.lst ((metW ((clsWs b1 b2).take 2)).map V.str)) = _
      have all : (clsWs b1 b2).take 2 = clsWs b1 b2 := rfl
      rw [all, hw]
      rfl
    subst e2
    have sF : Same H (upd Hc2 D2 (.lst [.str word])) := s2.trans (same_upd n2)
    have em : (upd Hc2 D2 (.lst [.str word])) D2 = some (.lst [.str word]) := upd_same
    refine ⟨.ref D2, rfl, D2, _, rfl, .inl (SqL.of em), rfl, _, rfl, ite2 (fun _ => ?_) (fun y => absurd (show decide (V.int ((1 : Nat) : Int) = V.int 1) = true from by decide) y)⟩
    refine ⟨.bl false, rfl, false, rfl, iteT ⟨.ref D2, rfl, D2, _, 0, .str word, rfl, rfl, SqL.of em, atI_nat (j := 0) rfl, q _ sF⟩⟩
end
end CL
set_option Elab.async false
set_option linter.all false
set_option maxRecDepth 100000
set_option maxHeartbeats 4000000
namespace CL
open PySem PySem.Spec PyProof.Rows L2 GE
abbrev sBag : Stmt := topS 34
abbrev sStir : Stmt := topS 35
abbrev sDraw : Stmt := topS 36
theorem scBag : FnScope ["script", "total", "cell"] ["script"] (defScope sBag) := ⟨rfl, rfl, rfl, by decide +kernel, rfl, by decide +kernel, by decide +kernel⟩
theorem scStir : FnScope ["number", "place", "one", "two"] ["number", "place"] (defScope sStir) := ⟨rfl, rfl, rfl, by decide +kernel, rfl, by decide +kernel, by decide +kernel⟩
theorem scDraw : FnScope ["bag", "many", "cell", "found"] ["bag", "many"] (defScope sDraw) := ⟨rfl, rfl, rfl, by decide +kernel, rfl, by decide +kernel, by decide +kernel⟩
abbrev MSP : Int := 2305843009213693951
theorem t64 : (2 : Int) ^ 64 = 18446744073709551616 := by decide +kernel
abbrev M60 : Nat := 1000000000000000000
/-- a bag's place, and its cells' -/
structure Bg where
  a : Addr
  c : Addr
/-- the bag: the cells, which is next, what is left of one, how many draws (n at most), a number mixed -/
structure BagAt (n : Nat) (H : Hp) (r : Bg) : Prop where
  ex : ∃ (ns : List Int) (i : Nat) (b k t : Int), H r.a = some (.lst [.ref r.c, .int i, .int b, .int k, .int t]) ∧ H r.c = some (.lst (ns.map V.int)) ∧ i ≤ ns.length ∧ 0 ≤ b ∧ 0 ≤ k ∧ k ≤ n ∧ 0 ≤ t ∧ t < MSP
/-- all but the bag stays -/
structure Mv (r : Bg) (H H' : Hp) : Prop where
  keep : ∀ b o, b ≠ r.a → H b = some o → H' b = some o
theorem Mv.refl (r : Bg) (H : Hp) : Mv r H H := ⟨fun _ _ _ h => h⟩
theorem Mv.of {r : Bg} {H H' : Hp} (s : Same H H') : Mv r H H' := ⟨fun b o _ h => s b o h⟩
theorem Mv.trans {r : Bg} {H H1 H2 : Hp} (a : Mv r H H1) (b : Mv r H1 H2) : Mv r H H2 := ⟨fun c o n h => b.keep c o n (a.keep c o n h)⟩
theorem Mv.upd {r : Bg} {p : Addr} {H H' : Hp} {o : HO} (m : Mv r H H') (hn : H p = none) : Mv r H (upd H' p o) := ⟨fun b x nb e => by
  rw [upd_ne (ne_of_none e hn)]
  exact m.keep b x nb e⟩
theorem BagAt.mono {n m : Nat} {H : Hp} {r : Bg} (h : BagAt n H r) (l : n ≤ m) : BagAt m H r := by
  obtain ⟨ns, i, b, k, t, er, ec, hi, hb, hk, hn, ht⟩ := h
  exact ⟨ns, i, b, k, t, er, ec, hi, hb, hk, by omega, ht⟩
theorem BagAt.same {n : Nat} {r : Bg} {H H' : Hp} (s : Same H H') (hr : BagAt n H r) : BagAt n H' r := by
  obtain ⟨ns, i, b, k, t, er, ec, h⟩ := hr
  exact ⟨ns, i, b, k, t, s _ _ er, s _ _ ec, h⟩
theorem BagAt.some {n : Nat} {r : Bg} {H : Hp} (hr : BagAt n H r) : H r.a ≠ none := by
  obtain ⟨ns, i, b, k, t, er, h⟩ := hr
  rw [er]
  exact nofun
theorem BagAt.someC {n : Nat} {r : Bg} {H : Hp} (hr : BagAt n H r) : H r.c ≠ none := by
  obtain ⟨ns, i, b, k, t, er, ec, h⟩ := hr
  rw [ec]
  exact nofun
/-- a place that is neither -/
structure Off (r : Bg) (p : Addr) : Prop where
  a : p ≠ r.a
  c : p ≠ r.c
theorem BagAt.new {n : Nat} {r : Bg} {p : Addr} {H : Hp} (hr : BagAt n H r) (np : H p = none) : Off r p := ⟨fun z => hr.some (by rw [← z]; exact np), fun z => hr.someC (by rw [← z]; exact np)⟩
theorem BagAt.store {n : Nat} {r : Bg} {p : Addr} {H : Hp} {o : HO} (hr : BagAt n H r) (f : Off r p) : BagAt n (upd H p o) r := by
  obtain ⟨ns, i, b, k, t, er, ec, h⟩ := hr
  exact ⟨ns, i, b, k, t, by rw [upd_ne (Ne.symm f.a)]; exact er, by rw [upd_ne (Ne.symm f.c)]; exact ec, h⟩
theorem BagAt.kx {n : Nat} {r : Bg} {H H' : Hp} (h : BagAt n H r) (e : Ex H H') : BagAt n H' r := by
  obtain ⟨ns, i, b, k, t, er, ec, h⟩ := h
  exact ⟨ns, i, b, k, t, e.lst er, e.lst ec, h⟩
theorem bag_ne {c r : Addr} {H : Hp} {ns : List Int} {vs : List V} (er : H r = some (.lst (.ref c :: vs))) (ec : H c = some (.lst (ns.map V.int))) : c ≠ r := fun z => by
  rw [z, er] at ec
  cases ns with
  | nil => simp at ec
  | cons x ns => simp at ec
theorem mem_keep {r : Bg} {b : Addr} {H H' : Hp} (m : Mv r H H') (n : b ≠ r.a) (h : H b ≠ none) : H' b ≠ none := fun z => by
  cases q : H b with
  | none => exact h q
  | some o =>
    rw [m.keep b o n q] at z
    cases z
def spStir : Sp := fun vs H Q _ => ∃ a b : Int, vs = [.int a, .int b] ∧ 0 ≤ a ∧ a < MSP ∧ 0 ≤ b ∧ b ≤ (M60 : Int) ∧ ∀ x, Q (.int x) H
def spDraw (r : Bg) : Sp := fun vs H Q _ => ∃ (m : Int) (n : Nat), vs = [.ref r.a, .int m] ∧ BagAt n H r ∧ n < M60 ∧ 1 ≤ m ∧ m < 2 ^ 140 ∧ ∀ x H', BagAt (n + 1) H' r → Mv r H H' → 0 ≤ x → x < m → Q (.int x) H'
def spBag (K : PySem.W.Frag) : Sp := fun vs H Q _ => ∃ (a : Addr) (ns : List Int), vs = [.ref a] ∧ SqL K H a (ns.map V.int) ∧ ∀ (r : Bg) H', Same H H' → H r.a = none → BagAt 0 H' r → Q (.ref r.a) H'
section
variable {P : Program} {w : World} {K : PySem.W.Frag} {mg : Str → Option Value} {base : Heap}
theorem ok_stir {f : Addr} {fd : FuncData} (F : Fun K "_law_stir" "_law_stir" sStir f fd) : FnOk P w K mg base CX0 1 f fd ["number", "place"] spStir := by
  refine F.ok scStir (fun vs H Q E ⟨a, b, e, _⟩ => by rw [e]; rfl) (fun cdv A outer s H vs Q E hr h => ?_)
  obtain ⟨a, b, rfl, a0, a1, b0, b1, q⟩ := h
  have nd := scStir.nd
  refine ⟨_, pss_cons (ps_set (i := 2) nd rfl (.inl rfl) (pe_op op_mod (pe_op op_add (pe_op op_add (pe_op op_mul (pv 0) pe_int) (pe_op op_mul (pv 1) pe_int)) pe_int) pe_int))
    (pss_cons (ps_set (i := 3) nd rfl (.inl rfl) (pe_op op_mod (pe_op op_mul (pv 2) (pv 2)) pe_int))
    (pss_one (ps_ret (pe_op op_fdiv (pe_op op_mod (pe_op op_add (pe_op op_add (pe_op op_mul (pv 3) pe_int) (pe_op op_mul (pe_op op_mul (pv 1) (pv 1)) pe_int)) (pe_op op_fdiv (pv 2) pe_int)) pe_int) pe_int)))), ?_⟩
  have a1' : a < 2305843009213693951 := a1
  have b1' : b ≤ 1000000000000000000 := b1
  refine ⟨.int a, rfl, a, 998244353, rfl, rfl, .inr ⟨by decide, by decide⟩, .int b, rfl, b, 1000000007, rfl, rfl, .inr ⟨by decide, by decide⟩, _, _, rfl, rfl, _, 5, rfl, rfl, _, _, rfl, rfl, (by show (0 : Int) < 2305843009213693951; decide), ?_⟩
  show tSeq _ _ _ [some (.int a), some (.int b), some (.int ((a * 998244353 + b * 1000000007 + 5) % 2305843009213693951)), none] H
  generalize hz : (a * 998244353 + b * 1000000007 + 5) % 2305843009213693951 = z
  have z0 : 0 ≤ z := by rw [← hz]; exact Int.emod_nonneg _ (by decide)
  have z1 : z < 2305843009213693951 := by rw [← hz]; exact Int.emod_lt_of_pos _ (by decide)
  refine ⟨.int z, rfl, .int z, rfl, z, z, rfl, rfl, .inl ⟨by rw [t64]; omega, by rw [t64]; omega⟩, _, _, rfl, rfl, (by show (0 : Int) < 2305843009213693951; decide), ?_⟩
  refine ⟨.int (z * z % 2305843009213693951), rfl, z * z % 2305843009213693951, 2860486313, rfl, rfl, .inr ⟨by decide, by decide⟩, .int b, rfl, .int b, rfl, b, b, rfl, rfl, .inl ⟨by rw [t64]; omega, by rw [t64]; omega⟩, _, 48271, rfl, rfl, .inr ⟨by decide, by decide⟩, _, _, rfl, rfl, .int z, rfl, z, 3, rfl, rfl, ⟨by decide, by decide⟩, _, _, rfl, rfl, _, _, rfl, rfl, (by show (0 : Int) < 2305843009213693921; decide), _, _, rfl, rfl, ⟨by decide, by decide⟩, ?_⟩
  exact q _
theorem ok_draw {f : Addr} {r : Bg} {fd : FuncData} (F : Fun K "_law_draw" "_law_draw" sDraw f fd) (hlen : mg "len" = none) (CS : Cal P w K mg base 1 "_law_stir" ["number", "place"] spStir) : FnOk P w K mg base CX0 2 f fd ["bag", "many"] (spDraw r) := by
  refine F.ok scDraw (fun vs H Q E ⟨m, n, e, _⟩ => by rw [e]; rfl) (fun cdv A outer s H vs Q E hr h => ?_)
  obtain ⟨m, n, rfl, ⟨ns, i, b, k, t, er, ec, hi, hb, hk, hn, ht0, ht1⟩, hn1, m1, m2, q⟩ := h
  have nd := scDraw.nd
  refine ⟨_, pss_cons (ps_if (pt_cmpR op_eq (pv 1) pe_int (nomark _)) (pss_one (ps_ret pe_int)) pss_nil)
    (pss_cons (ps_asg (pe_op op_add (pe_ix ix_list (pv 0) pe_int (fun _ _ => rfl)) pe_int) (pg_sub (pv 0) pe_int set_list))
    (pss_cons (ps_if (PW.pt (pw_and (pt_cmpR op_lt (pe_ix ix_list (pv 0) pe_int (fun _ _ => rfl)) pe_int (nomark _)) (pw_and1 (pt_cmpR op_eq (pe_ix ix_list (pv 0) pe_int (fun _ _ => rfl)) (pe_callB call_len_seq (by rfl) hlen PySem.boot_len (pa_cons (pe_ix ix_list (pv 0) pe_int (fun _ _ => rfl)) pa_nil)) (nomark _)))))
      (pss_one (ps_ret (pe_op op_mod (pe_cal CS hr (by rfl) (pa_cons (pe_ix ix_list (pv 0) pe_int (fun _ _ => rfl)) (pa_cons (pe_ix ix_list (pv 0) pe_int (fun _ _ => rfl)) pa_nil))) (pv 1)))) pss_nil)
    (pss_cons (ps_if (pt_cmpR op_lt (pe_ix ix_list (pv 0) pe_int (fun _ _ => rfl)) pe_int (nomark _))
      (pss_cons (ps_set (i := 2) nd rfl (.inl rfl) (pe_ix ix_list (pe_ix ix_list (pv 0) pe_int (fun _ _ => rfl)) (pe_ix ix_list (pv 0) pe_int (fun _ _ => rfl)) (fun _ _ => rfl)))
      (pss_cons (ps_asg (pe_op op_add (pe_ix ix_list (pv 0) pe_int (fun _ _ => rfl)) pe_int) (pg_sub (pv 0) pe_int set_list))
      (pss_cons (ps_if (pt_cmpR op_lt (pv 2) (pe_op op_pow pe_int pe_int) (nomark _)) (pss_one (ps_ret (pe_op op_mod (pe_cal CS hr (by rfl) (pa_cons (pe_op op_mod (pv 2) pe_int) (pa_cons (pe_ix ix_list (pv 0) pe_int (fun _ _ => rfl)) pa_nil))) (pv 1)))) pss_nil)
      (pss_one (ps_asg (pe_op op_sub (pv 2) (pe_op op_pow pe_int pe_int)) (pg_sub (pv 0) pe_int set_list)))))) pss_nil)
    (pss_cons (ps_set (i := 3) nd rfl (.inl rfl) (pe_op op_mod (pe_ix ix_list (pv 0) pe_int (fun _ _ => rfl)) (pv 1)))
    (pss_cons (ps_asg (pe_op op_fdivW (pe_ix ix_list (pv 0) pe_int (fun _ _ => rfl)) (pv 1)) (pg_sub (pv 0) pe_int set_list))
    (pss_one (ps_ret (pv 3)))))))), ?_⟩
  have hcr := bag_ne er ec
  have mdiv : ∀ f : Int, CDivW f m := fun f => wide_div (b := 140) (by omega) (by omega) (by decide) (by decide)
  have mp : (0 : Int) < m := by omega
  refine ⟨.int m, rfl, rfl, _, rfl, ite2 (fun e => ?_) (fun _ => ?_)⟩
  · exact q 0 H (BagAt.mono (n := n) ⟨ns, i, b, k, t, er, ec, hi, hb, hk, hn, ht0, ht1⟩ (Nat.le_succ n)) (Mv.refl r H) (Int.le_refl 0) mp
  -- the counter
  refine ⟨.ref r.a, rfl, r.a, _, 3, .int k, rfl, rfl, SqL.of er, atI_nat (j := 3) rfl, k, 1, rfl, rfl, .ref r.a, rfl, r.a, _, 3, 3, rfl, rfl, er, rfl, ?_⟩
  show tSeq _ _ _ _ (upd H r.a (.lst [.ref r.c, .int i, .int b, .int (k + 1), .int t]))
  have m1' : Mv r H (upd H r.a (.lst [.ref r.c, .int i, .int b, .int (k + 1), .int t])) := ⟨fun b o nb e => by rw [upd_ne nb]; exact e⟩
  have er1 : (upd H r.a (.lst [.ref r.c, .int i, .int b, .int (k + 1), .int t])) r.a = some (.lst [.ref r.c, .int i, .int b, .int (k + 1), .int t]) := upd_same
  generalize upd H r.a (.lst [.ref r.c, .int i, .int b, .int (k + 1), .int t]) = H1 at m1' er1
  have ec1 := m1'.keep r.c _ hcr ec
  have fin1 : ∀ x : Int, Q (.int (x % m)) H1 := fun x => q _ H1 ⟨ns, i, b, k + 1, t, er1, ec1, hi, hb, by omega, by omega, ht0, ht1⟩ m1' (Int.emod_nonneg _ (by omega)) (Int.emod_lt_of_pos _ mp)
  have last : ∀ (H2 : Hp) (i2 : Nat) (b2 : Int) (y : Option V), Mv r H H2 → H2 r.a = some (.lst [.ref r.c, .int i2, .int b2, .int (k + 1), .int t]) → i2 ≤ ns.length → 0 ≤ b2 → ∀ x : Int, x = b2 % m → Q (.int x) (upd H2 r.a (.lst [.ref r.c, .int i2, .int (b2 / m), .int (k + 1), .int t])) := fun H2 i2 b2 y mv e2 hi2 hb2 x hx => by
    rw [hx]
    exact q _ _ ⟨ns, i2, b2 / m, k + 1, t, upd_same, by rw [upd_ne hcr]; exact mv.keep r.c _ hcr ec, hi2, Int.ediv_nonneg hb2 (by omega), by omega, by omega, ht0, ht1⟩ ⟨fun b o nb e => by rw [upd_ne nb]; exact mv.keep b o nb e⟩ (Int.emod_nonneg _ (by omega)) (Int.emod_lt_of_pos _ mp)
  refine ⟨.ref r.a, rfl, r.a, _, 2, .int b, rfl, rfl, SqL.of er1, atI_nat (j := 2) rfl, b, 2, rfl, rfl, decide (b < 2), rfl, ?_⟩
  by_cases hb2 : b < 2
  · rw [decide_eq_true hb2]
    refine iteT ⟨.ref r.a, rfl, r.a, _, 1, .int i, rfl, rfl, SqL.of er1, atI_nat (j := 1) rfl, .ref r.a, rfl, r.a, _, 0, .ref r.c, rfl, rfl, SqL.of er1, atI_nat (j := 0) rfl, r.c, _, rfl, .inl (SqL.of ec1), rfl, _, rfl, ite2 (fun e => ?_) (fun e => ?_)⟩
    · refine ⟨.ref r.a, rfl, r.a, _, 4, .int t, rfl, rfl, SqL.of er1, atI_nat (j := 4) rfl, .ref r.a, rfl, r.a, _, 3, .int (k + 1), rfl, rfl, SqL.of er1, atI_nat (j := 3) rfl, t, k + 1, rfl, ht0, ht1, by omega, by omega, fun x => ?_⟩
      exact ⟨.int m, rfl, x, m, rfl, rfl, mp, fin1 x⟩
    · have hi2 : i < ns.length := by
        rcases Nat.lt_or_ge i ns.length with z | z
        · exact z
        · refine absurd ?_ e
          have : i = ns.length := by omega
          rw [this, List.length_map]
          exact decide_eq_true rfl
      refine ⟨.ref r.a, rfl, r.a, _, 2, .int b, rfl, rfl, SqL.of er1, atI_nat (j := 2) rfl, b, 2, rfl, rfl, decide (b < 2), rfl, ?_⟩
      rw [decide_eq_true hb2]
      refine iteT ?_
      refine ⟨.ref r.a, rfl, r.a, _, 0, .ref r.c, rfl, rfl, SqL.of er1, atI_nat (j := 0) rfl, .ref r.a, rfl, r.a, _, 1, .int i, rfl, rfl, SqL.of er1, atI_nat (j := 1) rfl, r.c, _, i, .int ns[i], rfl, rfl, SqL.of ec1, atI_nat (j := i) (by rw [List.getElem?_map, List.getElem?_eq_getElem hi2]; rfl), ?_⟩
      refine ⟨.ref r.a, rfl, r.a, _, 1, .int i, rfl, rfl, SqL.of er1, atI_nat (j := 1) rfl, i, 1, rfl, rfl, .ref r.a, rfl, r.a, _, 1, 1, rfl, rfl, er1, rfl, ?_⟩
      show tSeq _ _ _ _ (upd H1 r.a (.lst [.ref r.c, .int (i + 1 : Int), .int b, .int (k + 1), .int t]))
      have m2' : Mv r H (upd H1 r.a (.lst [.ref r.c, .int (i + 1 : Int), .int b, .int (k + 1), .int t])) := ⟨fun b o nb e => by rw [upd_ne nb]; exact m1'.keep b o nb e⟩
      have er2 : (upd H1 r.a (.lst [.ref r.c, .int (i + 1 : Int), .int b, .int (k + 1), .int t])) r.a = some (.lst [.ref r.c, .int ((i + 1 : Nat) : Int), .int b, .int (k + 1), .int t]) := by rw [upd_same]; rfl
      generalize upd H1 r.a (.lst [.ref r.c, .int (i + 1 : Int), .int b, .int (k + 1), .int t]) = H2 at m2' er2
      generalize hcell : ns[i] = cell
      have ec2 := m2'.keep r.c _ hcr ec
      refine ⟨.int cell, rfl, 10, 18, rfl, rfl, ⟨by decide, by decide, by decide⟩, cell, _, rfl, rfl, _, rfl, ?_⟩
      rw [show (10 : Int) ^ (18 : Int).toNat = 1000000000000000000 from p18]
      refine ite2 (fun e1 => ?_) (fun e1 => ?_)
      · refine ⟨.int cell, rfl, cell, 2305843009213693951, rfl, rfl, (by show (0 : Int) < 2305843009213693951; decide), .ref r.a, rfl, r.a, _, 3, .int (k + 1), rfl, rfl, SqL.of er2, atI_nat (j := 3) rfl, cell % 2305843009213693951, k + 1, rfl, Int.emod_nonneg _ (by decide), Int.emod_lt_of_pos _ (by decide), by omega, by omega, fun x => ?_⟩
        exact ⟨.int m, rfl, x, m, rfl, rfl, mp, q _ H2 ⟨ns, i + 1, b, k + 1, t, er2, ec2, hi2, hb, by omega, by omega, ht0, ht1⟩ m2' (Int.emod_nonneg _ (by omega)) (Int.emod_lt_of_pos _ mp)⟩
      · have hc18 : 1000000000000000000 ≤ cell := by
          rcases Int.lt_or_le cell 1000000000000000000 with z | z
          · exact absurd (decide_eq_true z) e1
          · exact z
        refine ⟨.int cell, rfl, 10, 18, rfl, rfl, ⟨by decide, by decide, by decide⟩, cell, _, rfl, rfl, .ref r.a, rfl, r.a, _, 2, 2, rfl, rfl, er2, rfl, ?_⟩
        show tSeq _ _ _ _ (upd H2 r.a (.lst [.ref r.c, .int ((i + 1 : Nat) : Int), .int (cell - (10 : Int) ^ (18 : Int).toNat), .int (k + 1), .int t]))
        rw [show (10 : Int) ^ (18 : Int).toNat = 1000000000000000000 from p18]
        have m3' : Mv r H (upd H2 r.a (.lst [.ref r.c, .int ((i + 1 : Nat) : Int), .int (cell - 1000000000000000000), .int (k + 1), .int t])) := ⟨fun b o nb e => by rw [upd_ne nb]; exact m2'.keep b o nb e⟩
        have er3 : (upd H2 r.a (.lst [.ref r.c, .int ((i + 1 : Nat) : Int), .int (cell - 1000000000000000000), .int (k + 1), .int t])) r.a = some (.lst [.ref r.c, .int ((i + 1 : Nat) : Int), .int (cell - 1000000000000000000), .int (k + 1), .int t]) := upd_same
        have hb3 : 0 ≤ cell - 1000000000000000000 := by omega
        generalize cell - 1000000000000000000 = b2 at m3' er3 hb3
        generalize upd H2 r.a (.lst [.ref r.c, .int ((i + 1 : Nat) : Int), .int b2, .int (k + 1), .int t]) = H3 at m3' er3
        exact ⟨.ref r.a, rfl, r.a, _, 2, .int b2, rfl, rfl, SqL.of er3, atI_nat (j := 2) rfl, .int m, rfl, b2, m, rfl, rfl, mp, .ref r.a, rfl, r.a, _, 2, .int b2, rfl, rfl, SqL.of er3, atI_nat (j := 2) rfl, .int m, rfl, b2, m, rfl, rfl, mdiv b2, .ref r.a, rfl, r.a, _, 2, 2, rfl, rfl, er3, rfl, .int (b2 % m), rfl, last H3 (i + 1) b2 none m3' er3 hi2 hb3 _ rfl⟩
  · rw [decide_eq_false hb2]
    refine iteF ⟨.ref r.a, rfl, r.a, _, 2, .int b, rfl, rfl, SqL.of er1, atI_nat (j := 2) rfl, b, 2, rfl, rfl, decide (b < 2), rfl, ?_⟩
    rw [decide_eq_false hb2]
    exact iteF ⟨.ref r.a, rfl, r.a, _, 2, .int b, rfl, rfl, SqL.of er1, atI_nat (j := 2) rfl, .int m, rfl, b, m, rfl, rfl, mp, .ref r.a, rfl, r.a, _, 2, .int b, rfl, rfl, SqL.of er1, atI_nat (j := 2) rfl, .int m, rfl, b, m, rfl, rfl, mdiv b, .ref r.a, rfl, r.a, _, 2, 2, rfl, rfl, er1, rfl, .int (b % m), rfl, last H1 i b none m1' er1 hi hb _ rfl⟩
theorem ok_bag {f : Addr} {fd : FuncData} (F : Fun K "_law_bag" "_law_bag" sBag f fd) (hlist : mg "list" = none) : FnOk P w K mg base CX0 1 f fd ["script"] (spBag K) := by
  refine F.ok scBag (fun vs H Q E ⟨a, ns, e, _⟩ => by rw [e]; rfl) (fun cdv A outer s H vs Q E hr h => ?_)
  obtain ⟨a, ns, rfl, hS, q⟩ := h
  have nd := scBag.nd
  refine ⟨_, pss_cons (ps_set (i := 1) nd rfl (.inl rfl) pe_int)
    (pss_cons (ps_for PassesOwn.never rfl (pi_list (pv 0)) (pg_name (i := 2) nd rfl (.inl rfl))
      (pss_one (ps_set (i := 1) nd rfl (.inl rfl) (pe_op op_mod (pe_op op_add (pe_op op_add (pe_op op_mul (pv 1) pe_int) (pe_op op_mod (pv 2) pe_int)) pe_int) pe_int))))
    (pss_one (ps_ret (pe_lst (pa_cons (pe_callTy call_list_of (by rfl) hlist (by decide +kernel) (pa_cons (pv 0) pa_nil)) (pa_cons pe_int (pa_cons pe_int (pa_cons pe_int (pa_cons (pv 1) pa_nil))))))))), ?_⟩
  refine ⟨.ref a, rfl, a, rfl, ⟨_, hS⟩, for_list (xs := ns.map V.int) (fun i σ H2 => H2 = H ∧ ∃ t y2, σ = [some (.ref a), some (.int t), y2] ∧ 0 ≤ t ∧ t < MSP) ⟨rfl, 1, none, rfl, by decide, by decide⟩
    (fun i σ H2 _ ⟨e, _⟩ => by rw [e]; exact hS) (fun i x σ H2 hx ⟨e, t, y2, es, t0, t1⟩ => ?_) (fun σ H2 ⟨e, t, y2, es, t0, t1⟩ => ?_)⟩
  · subst e es
    obtain ⟨c, rfl⟩ : ∃ c, x = .int c := by
      rw [List.getElem?_map] at hx
      cases q : ns[i]? with
      | none => rw [q] at hx; cases hx
      | some c => rw [q] at hx; cases hx; exact ⟨c, rfl⟩
    exact ⟨.int t, rfl, t, 1000003, rfl, rfl, .inr ⟨by decide, by decide⟩, .int c, rfl, c, _, rfl, rfl, (by show (0 : Int) < 2305843009213693951; decide), _, _, rfl, rfl, _, 1, rfl, rfl, _, _, rfl, rfl, (by show (0 : Int) < 2305843009213693951; decide), rfl, _, some (.int c), rfl, Int.emod_nonneg _ (by decide), Int.emod_lt_of_pos _ (by decide)⟩
  · subst e es
    refine ⟨.ref a, rfl, a, _, rfl, .inl hS, fun l nl => ⟨.int t, rfl, small_le (by show 5 ≤ 1000; decide), fun r nr => ?_⟩⟩
    have s1 : Same H2 (upd H2 l (.lst (ns.map V.int))) := same_upd nl
    have lr : l ≠ r := fun z => by rw [← z, upd_same] at nr; cases nr
    exact q ⟨r, l⟩ _ (s1.trans (same_upd nr)) (s1.free nr) ⟨ns, 0, 0, 0, t, upd_same, by rw [upd_ne lr]; exact upd_same, Nat.zero_le _, Int.le_refl 0, Int.le_refl 0, Int.le_refl 0, t0, t1⟩
end
end CL
set_option Elab.async false
set_option linter.all false
set_option maxRecDepth 100000
set_option maxHeartbeats 4000000
namespace CL
open PySem PySem.Spec PyProof.Rows L2 GE
abbrev sCame : Stmt := topS 38
abbrev sQueue : Stmt := topS 39
abbrev nCame : List Str := ["stand", "rest", "number", "patience", "at"]
abbrev nQueue : List Str := ["patiences", "stand", "rest", "number", "patience"]
theorem scCame : FnScope nCame ["stand", "rest", "number", "patience"] (defScope sCame) := ⟨rfl, rfl, rfl, by decide +kernel, rfl, by decide +kernel, by decide +kernel⟩
theorem scQueue : FnScope nQueue ["patiences"] (defScope sQueue) := ⟨rfl, rfl, rfl, by decide +kernel, rfl, by decide +kernel, by decide +kernel⟩
def optD : Option Int → PyData
  | some i => .int i
  | none => .none
def optV : Option Int → V
  | some i => .int i
  | none => .non
theorem optV_dp {K : PySem.W.Frag} {H : Hp} : ∀ o : Option Int, Dp K H (optV o) (optD o)
  | none => .non
  | some i => .int i
theorem optD_shaped : ∀ o : Option Int, SeqAt.shaped (optD o) = true
  | none => by decide
  | some i => by unfold SeqAt.shaped; simp [optD, PyData.canLay0, PyData.depth]
theorem optV_ne0 : ∀ o : Option Int, (!PyData.eqv (optD o) (.int 0)) = !decide (o = some 0)
  | none => by simp [optD, PyData.eqv]
  | some i => by
    by_cases h : i = 0
    · subst h; simp [optD, PyData.eqv]
    · simp [optD, PyData.eqv, h]
theorem ixN_nat {n j : Nat} (h : j < n) : ixN n (j : Int) = some j := by
  unfold ixN
  rw [if_pos (by omega)]
  simp [h]
/-- people by their numbers, as values -/
def ppl (xs : List Nat) : List V := xs.map fun x : Nat => V.int (x : Int)
theorem small_lt {a n : Nat} (h : a ≤ n) (hn : n ≤ 300) : a < sizeLine := by
  have : 1000 ≤ sizeLine := by decide
  omega
theorem ppl_len (xs : List Nat) : (ppl xs).length = xs.length := List.length_map ..
theorem ppl_get {xs : List Nat} {i : Nat} (h : i < xs.length) : (ppl xs)[i]? = some (.int (xs[i] : Int)) := by
  unfold ppl
  rw [List.getElem?_map, List.getElem?_eq_getElem h]
  rfl
/-- what each of so many has left -/
def RestAt (H : Hp) (D : Addr) (n : Nat) : Prop := ∃ kvs : List (Key × V), H D = some (.dK kvs) ∧ kvs.length ≤ n ∧ ∀ x < n, ∃ o, valV kvs (Sum.inl (x : Int)) = some (optV o)
/-- all but one object stays -/
def But (D : Addr) (H H' : Hp) : Prop := ∀ b o, b ≠ D → H b = some o → H' b = some o
theorem But.upd {D : Addr} {H H' : Hp} {o : HO} (b : But D H H') : But D H (upd H' D o) := fun c x nc e => by rw [upd_ne nc]; exact b c x nc e
theorem But.new {D p : Addr} {H H' : Hp} {o : HO} (b : But D H H') (hp : H' p = none) : But D H (L2.upd H' p o) := fun c x nc e => by
  have e2 := b c x nc e
  rw [upd_ne (ne_of_none e2 hp)]
  exact e2
theorem But.none {D p : Addr} {H H' : Hp} (b : But D H H') (n : p ≠ D) (hp : H' p = none) : H p = none := by
  cases q : H p with
  | none => rfl
  | some o => rw [b p o n q] at hp; cases hp
def spCame : Sp := fun vs H Q _ => ∃ (S D : Addr) (xs : List Nat) (n : Nat) (p : Option Int), vs = [.ref S, .ref D, .int n, optV p] ∧ H S = some (.lst (ppl xs)) ∧ RestAt H D n ∧ (∀ x ∈ xs, x < n) ∧ xs.length ≤ 300 ∧ n ≤ 300 ∧
  ∀ T H' ys, ys.Perm (n :: xs) → But D H H' → H' T = some (.lst (ppl ys)) → H T = none → RestAt H' D (n + 1) → Q (.ref T) H'
def spQueue : Sp := fun vs H Q _ => ∃ (A : Addr) (ps : List (Option Int)), vs = [.ref A] ∧ H A = some (.lst (ps.map optV)) ∧ ps.length ≤ 300 ∧ ∀ T H' ys, ys.Perm (List.range ps.length) → Same H H' → H' T = some (.lst (ppl ys)) → H T = none → Q (.ref T) H'
theorem came_end {K : PySem.W.Frag} {H H4 : Hp} {S D : Addr} {xs : List Nat} {n k : Nat} {p : Option Int} {Q : VK} (eS : H S = some (.lst (ppl xs))) (hSD : S ≠ D) (hl : xs.length ≤ 300) (hk : k ≤ xs.length) (b4 : But D H H4) (r4 : RestAt H4 D (n + 1))
    (q : ∀ T H' ys, ys.Perm (n :: xs) → But D H H' → H' T = some (.lst (ppl ys)) → H T = none → RestAt H' D (n + 1) → Q (.ref T) H') :
    tOp rCat (tOp rCat (tSl (rSlL K) (tVar 0) tNoPart (tPart (tVar 4))) (tLst (tCons (tVar 2) tNil))) (tSl (rSlL K) (tVar 0) (tPart (tVar 4)) tNoPart) [some (.ref S), some (.ref D), some (.int n), some (optV p), some (.int (k : Int))] H4 Q := by
  have e4 := b4 S _ hSD eS
  have nD : ∀ {G : Hp} {t : Addr}, RestAt G D (n + 1) → G t = none → t ≠ D := fun {G t} ⟨_, e, _⟩ nt z => by rw [z, e] at nt; cases nt
  have keep : ∀ {G : Hp} {t : Addr} {o : HO}, RestAt G D (n + 1) → G t = none → RestAt (upd G t o) D (n + 1) := fun {G t o} ⟨kvs, e, h⟩ nt => ⟨kvs, by rw [upd_ne (ne_of_none e nt)]; exact e, h⟩
  have pl := ppl_len xs
  refine ⟨.ref S, rfl, .int k, rfl, k, rfl, S, _, rfl, SqL.of e4, fun p1 n1 => ⟨.int n, rfl, small_le (by show 1 ≤ 1000; decide), fun p2 n2 => ?_⟩⟩
  rw [cut_to]
  rw [cut_to] at n2
  have b5 : But D H (upd H4 p1 (.lst ((ppl xs).take k))) := b4.new n1
  have r5 := keep (o := .lst ((ppl xs).take k)) r4 n1
  have e5 : (upd H4 p1 (.lst ((ppl xs).take k))) p1 = some (.lst ((ppl xs).take k)) := upd_same
  generalize upd H4 p1 (.lst ((ppl xs).take k)) = H5 at b5 r5 e5 n2
  have b6 : But D H (upd H5 p2 (.lst [.int (n : Int)])) := b5.new n2
  have r6 := keep (o := .lst [.int (n : Int)]) r5 n2
  have e6 : (upd H5 p2 (.lst [.int (n : Int)])) p2 = some (.lst [.int (n : Int)]) := upd_same
  have e61 : (upd H5 p2 (.lst [.int (n : Int)])) p1 = some (.lst ((ppl xs).take k)) := by rw [upd_ne (ne_of_none e5 n2)]; exact e5
  generalize upd H5 p2 (.lst [.int (n : Int)]) = H6 at b6 r6 e6 e61
  refine ⟨p1, p2, _, _, rfl, rfl, e61, e6, small_add (by rw [List.length_take]; omega) (by show 1 ≤ 1000; decide), fun p3 n3 => ?_⟩
  have b7 : But D H (upd H6 p3 (.lst ((ppl xs).take k ++ [.int (n : Int)]))) := b6.new n3
  have r7 := keep (o := .lst ((ppl xs).take k ++ [.int (n : Int)])) r6 n3
  have e7 : (upd H6 p3 (.lst ((ppl xs).take k ++ [.int (n : Int)]))) p3 = some (.lst ((ppl xs).take k ++ [.int (n : Int)])) := upd_same
  generalize upd H6 p3 (.lst ((ppl xs).take k ++ [.int (n : Int)])) = H7 at b7 r7 e7
  refine ⟨.ref S, rfl, .int k, rfl, k, rfl, S, _, rfl, SqL.of (b7 S _ hSD eS), fun p4 n4 => ?_⟩
  rw [cut_from]
  have b8 : But D H (upd H7 p4 (.lst ((ppl xs).drop k))) := b7.new n4
  have r8 := keep (o := .lst ((ppl xs).drop k)) r7 n4
  have e8 : (upd H7 p4 (.lst ((ppl xs).drop k))) p4 = some (.lst ((ppl xs).drop k)) := upd_same
  have e83 : (upd H7 p4 (.lst ((ppl xs).drop k))) p3 = some (.lst ((ppl xs).take k ++ [.int (n : Int)])) := by rw [upd_ne (ne_of_none e7 n4)]; exact e7
  generalize upd H7 p4 (.lst ((ppl xs).drop k)) = H8 at b8 r8 e8 e83
  refine ⟨p3, p4, _, _, rfl, rfl, e83, e8, small_add (by rw [List.length_append, List.length_take]; show _ + 1 ≤ _; omega) (by rw [List.length_drop]; omega), fun p5 n5 => ?_⟩
  have n0 := b8.none (nD r8 n5) n5
  refine q p5 _ (xs.take k ++ n :: xs.drop k) ?_ (b8.new n5) ?_ n0 (keep r8 n5)
  · have h := List.perm_middle (a := n) (l₁ := xs.take k) (l₂ := xs.drop k)
    rw [List.take_append_drop] at h
    exact h
  · rw [upd_same]
    unfold ppl
    rw [List.map_append, List.map_cons, List.map_take, List.map_drop, List.append_assoc]
    rfl
section
variable {P : Program} {w : World} {K : PySem.W.Frag} {mg : Str → Option Value} {base : Heap}
theorem ok_came {f : Addr} {fd : FuncData} (F : Fun K "_law_came" "_law_came" sCame f fd) (hlen : mg "len" = none) : FnOk P w K mg base CX0 1 f fd ["stand", "rest", "number", "patience"] spCame := by
  refine F.ok scCame (fun vs H Q E ⟨S, D, xs, n, p, e, _⟩ => by rw [e]; rfl) (fun cdv A outer s H vs Q E hr h => ?_)
  obtain ⟨S, D, xs, n, p, rfl, eS, hR, hx, hl, hn, q⟩ := h
  have nd := scCame.nd
  have hu := hu_of hr
  refine ⟨_, (pss_cons (ps_set (i := 4) nd rfl (.inl rfl) (pe_callB call_len_seq (by rfl) hlen PySem.boot_len (pa_cons (pv 0) pa_nil)))
    (pss_cons (ps_while PassesOwn.never (PW.pt (pw_and (pt_cmpR op_gt (pv 4) pe_int (nomark _)) (pw_and1 (pt_cmpR (op_neD hr.units) (pe_dget hu (pv 1) (pe_ix ix_list (pv 0) (pe_op op_sub (pv 4) pe_int) (fun _ _ => rfl)) (fun _ _ => rfl)) pe_int (nomark _)))))
      (pss_cons (ps_set (i := 4) nd rfl (.inl rfl) (pe_op op_sub (pv 4) pe_int))
      (pss_one (ps_if (pt_cmp (pc_notN (pe_dget hu (pv 1) (pe_ix ix_list (pv 0) (pv 4) (fun _ _ => rfl)) (fun _ _ => rfl))))
        (pss_one (ps_dput hu (pv 1) (pe_ix ix_list (pv 0) (pv 4) (fun _ _ => rfl)) (pe_op op_sub (pe_dget hu (pv 1) (pe_ix ix_list (pv 0) (pv 4) (fun _ _ => rfl)) (fun _ _ => rfl)) pe_int) rfl)) pss_nil))))
    (pss_cons (ps_dput hu (pv 1) (pv 2) (pv 3) rfl)
    (pss_one (ps_ret (pe_op op_cat (pe_op op_cat (pe_slice sl_list (pv 0) po_none (po_some (pv 4))) (pe_lst (pa_cons (pv 2) pa_nil))) (pe_slice sl_list (pv 0) (po_some (pv 4)) po_none))))))), ?_⟩
  have hSD : S ≠ D := fun z => by
    obtain ⟨kvs, e, _⟩ := hR
    rw [← z, eS] at e
    cases e
  refine ⟨.ref S, rfl, S, _, rfl, .inl (SqL.of eS), ?_⟩
  rw [ppl_len]
  refine ⟨fun k σ H3 => σ = [some (.ref S), some (.ref D), some (.int n), some (optV p), some (.int (k : Int))] ∧ But D H H3 ∧ RestAt H3 D n ∧ k ≤ xs.length,
    ⟨xs.length, rfl, fun _ _ _ e => e, hR, Nat.le_refl _⟩, fun k σ H3 hW => ?_⟩
  obtain ⟨rfl, hB, ⟨kvs, hkv, hkl, hkx⟩, hk⟩ := hW
  have e3 := hB S _ hSD eS
  cases k with
  | zero =>
    refine ⟨.int ((0 : Nat) : Int), rfl, ((0 : Nat) : Int), 0, rfl, rfl, decide ((0 : Int) < ((0 : Nat) : Int)), rfl, iteF ?_⟩
    refine ⟨optV p, rfl, .ref D, rfl, .int n, rfl, D, _, rfl, DPut.k (k := Sum.inl (n : Int)) hkv (small_lt hkl hn), ?_⟩
    have b4 : But D H (upd H3 D (.dK (putK kvs (Sum.inl (n : Int)) (optV p)))) := hB.upd
    have r4 : RestAt (upd H3 D (.dK (putK kvs (Sum.inl (n : Int)) (optV p)))) D (n + 1) := ⟨_, upd_same, Nat.le_trans (length_putK _ _ _) (Nat.succ_le_succ hkl), fun x hx => by
      rw [valV_put]
      by_cases hxn : x = n
      · exact ⟨p, by rw [if_pos (by rw [hxn])]⟩
      · rw [if_neg (fun z => hxn (by have := Sum.inl.inj z; omega))]
        exact hkx x (by omega)⟩
    exact came_end eS hSD hl hk b4 r4 q
  | succ k' =>
    have hk' : k' < xs.length := by omega
    have hi1 : ((k' + 1 : Nat) : Int) - 1 = (k' : Int) := by omega
    have hat : atI (ppl xs) (((k' + 1 : Nat) : Int) - 1) = some (.int (xs[k'] : Int)) := by rw [hi1]; exact atI_nat (ppl_get hk')
    have hat2 : atI (ppl xs) (k' : Int) = some (.int (xs[k'] : Int)) := atI_nat (ppl_get hk')
    obtain ⟨o, ho⟩ := hkx xs[k'] (hx _ (List.getElem_mem hk'))
    have dg : DGet H3 D (.int (xs[k'] : Int)) (some (optV o)) := by rw [← ho]; exact DGet.k (k := Sum.inl (xs[k'] : Int)) hkv
    refine ⟨.int ((k' + 1 : Nat) : Int), rfl, ((k' + 1 : Nat) : Int), 0, rfl, rfl, decide ((0 : Int) < ((k' + 1 : Nat) : Int)), rfl, ?_⟩
    rw [decide_eq_true (by omega : (0 : Int) < ((k' + 1 : Nat) : Int))]
    refine iteT ⟨.ref D, rfl, .ref S, rfl, .int ((k' + 1 : Nat) : Int), rfl, ((k' + 1 : Nat) : Int), 1, rfl, rfl, S, _, ((k' + 1 : Nat) : Int) - 1, .int (xs[k'] : Int), rfl, rfl, SqL.of e3, hat, D, optV o, rfl, dg, optD o, .int 0, optV_dp o, .int 0, optD_shaped o, optD_shaped (some 0), _, rfl, ?_⟩
    rw [optV_ne0]
    by_cases hz : o = some 0
    · rw [decide_eq_true hz]
      refine iteF ⟨optV p, rfl, .ref D, rfl, .int n, rfl, D, _, rfl, DPut.k (k := Sum.inl (n : Int)) hkv (small_lt hkl hn), ?_⟩
      have b4 : But D H (upd H3 D (.dK (putK kvs (Sum.inl (n : Int)) (optV p)))) := hB.upd
      have r4 : RestAt (upd H3 D (.dK (putK kvs (Sum.inl (n : Int)) (optV p)))) D (n + 1) := ⟨_, upd_same, Nat.le_trans (length_putK _ _ _) (Nat.succ_le_succ hkl), fun x hx => by
        rw [valV_put]
        by_cases hxn : x = n
        · exact ⟨p, by rw [if_pos (by rw [hxn])]⟩
        · rw [if_neg (fun z => hxn (by have := Sum.inl.inj z; omega))]
          exact hkx x (by omega)⟩
      exact came_end eS hSD hl hk b4 r4 q
    · rw [decide_eq_false hz]
      cases o with
      | none =>
        refine iteT ⟨fun σ' H'' => σ' = [some (.ref S), some (.ref D), some (.int n), some (optV p), some (.int (((k' + 1 : Nat) : Int) - 1))] ∧ H'' = H3, fun σ' H'' z => ⟨k', Nat.lt_succ_self k', by rw [z.1, hi1], by rw [z.2]; exact hB, by rw [z.2]; exact ⟨kvs, hkv, hkl, hkx⟩, by omega⟩, ?_⟩
        exact ⟨.int ((k' + 1 : Nat) : Int), rfl, ((k' + 1 : Nat) : Int), 1, rfl, rfl, .ref D, rfl, .ref S, rfl, .int (((k' + 1 : Nat) : Int) - 1), rfl, S, _, ((k' + 1 : Nat) : Int) - 1, .int (xs[k'] : Int), rfl, rfl, SqL.of e3, hat, D, optV none, rfl, dg, _, rfl, iteF ⟨rfl, rfl⟩⟩
      | some j =>
        refine iteT ⟨fun σ' H'' => σ' = [some (.ref S), some (.ref D), some (.int n), some (optV p), some (.int (((k' + 1 : Nat) : Int) - 1))] ∧ But D H H'' ∧ RestAt H'' D n, fun σ' H'' z => ⟨k', Nat.lt_succ_self k', by rw [z.1, hi1], z.2.1, z.2.2, by omega⟩, ?_⟩
        refine ⟨.int ((k' + 1 : Nat) : Int), rfl, ((k' + 1 : Nat) : Int), 1, rfl, rfl, .ref D, rfl, .ref S, rfl, .int (((k' + 1 : Nat) : Int) - 1), rfl, S, _, ((k' + 1 : Nat) : Int) - 1, .int (xs[k'] : Int), rfl, rfl, SqL.of e3, hat, D, optV (some j), rfl, dg, _, rfl, iteT ?_⟩
        refine ⟨.ref D, rfl, .ref S, rfl, .int (((k' + 1 : Nat) : Int) - 1), rfl, S, _, ((k' + 1 : Nat) : Int) - 1, .int (xs[k'] : Int), rfl, rfl, SqL.of e3, hat, D, optV (some j), rfl, dg, j, 1, rfl, rfl, .ref D, rfl, .ref S, rfl, .int (((k' + 1 : Nat) : Int) - 1), rfl, S, _, ((k' + 1 : Nat) : Int) - 1, .int (xs[k'] : Int), rfl, rfl, SqL.of e3, hat, D, _, rfl, DPut.k (k := Sum.inl (xs[k'] : Int)) hkv (small_lt hkl hn), rfl, hB.upd, _, upd_same, ?_, fun x hx' => ?_⟩
        · have hsome : (valV kvs (Sum.inl (xs[k'] : Int))).isSome = true := by rw [ho]; rfl
          unfold putK
          rw [if_pos (by rw [valV_any]; exact hsome), List.length_map]
          exact hkl
        · rw [valV_put]
          by_cases hxk : (x : Int) = (xs[k'] : Int)
          · exact ⟨some (j - 1), by rw [if_pos (by rw [hxk])]; rfl⟩
          · rw [if_neg (fun z => hxk (Sum.inl.inj z))]
            exact hkx x hx'
end
end CL
set_option Elab.async false
set_option linter.all false
set_option maxRecDepth 100000
set_option maxHeartbeats 4000000
namespace CL
open PySem PySem.Spec PyProof.Rows L2 GE
abbrev sPatL : Stmt := topS 40
abbrev sMixO : Stmt := topS 41
abbrev sOrder : Stmt := topS 42
abbrev nOrder : List Str := ["bag", "most", "many", "kind", "found", "k", "one", "other"]
theorem scPatL : FnScope ["bag", "most"] ["bag", "most"] (defScope sPatL) := ⟨rfl, rfl, rfl, by decide +kernel, rfl, by decide +kernel, by decide +kernel⟩
theorem scMixO : FnScope ["bag", "many", "left", "k"] ["bag", "many"] (defScope sMixO) := ⟨rfl, rfl, rfl, by decide +kernel, rfl, by decide +kernel, by decide +kernel⟩
theorem scOrder : FnScope nOrder ["bag", "most"] (defScope sOrder) := ⟨rfl, rfl, rfl, by decide +kernel, rfl, by decide +kernel, by decide +kernel⟩
theorem small1000 {n : Nat} (h : n < 1000) : n < sizeLine := by
  have : 1000 ≤ sizeLine := by decide
  omega
theorem range_ppl (m : Nat) : rgV 0 (m : Int) = ppl (List.range m) := by
  unfold rgV ppl
  have e : ((m : Int) - 0).toNat = m := by omega
  rw [e]
  refine List.map_congr_left fun i _ => ?_
  rw [Int.zero_add]
theorem seq_nat {n j : Nat} (h : j < n) : seqIndex? (j : Int) n = some j := by
  unfold seqIndex?
  have h1 : ¬ ((j : Int) < 0) := by omega
  simp [h1, h]
theorem len_blk {X : Cx} {s : Shared} {H : Hp} {scope : Scope} {cenv : Env} {fp : List Addr} : CallR (X.blk s H scope cenv fp) (.builtin "len") (fun xs H Q => ∃ p ys, xs = [.ref p] ∧ (SqL X.K H p ys ∨ SqT X.K H p ys) ∧ Q (.int ys.length) H) := call_len_seq
theorem pop_blk {X : Cx} {s : Shared} {H : Hp} {scope : Scope} {cenv : Env} {fp : List Addr} {o e : Expr} {apos cpos : Pos} {to : TE} {t : TA} (ho : PE (X.blk s H scope cenv fp) o to) (ha : PA (X.blk s H scope cenv fp) [e] t)
    (hbase : attributeBase o "pop" (X.blk s H scope cenv fp).env (eval o (X.blk s H scope cenv fp).env) = eval o (X.blk s H scope cenv fp).env := by rfl)
    (hfew : ((backTo cpos (starEach [e] (X.blk s H scope cenv fp).env)).all (fun x => !x.1) && (backToKw cpos (keywordEach [] (X.blk s H scope cenv fp).env)).all (fun x => x.1.isSome)
      && decide ([e].length + ([] : List Keyword).length + (if ([] : List Keyword).isEmpty then 0 else 1) < 30)) = true := by rfl)
    (hline : (apos.endLine == cpos.line) = true := by rfl) (hs : starEach [e] (X.blk s H scope cenv fp).env = (false, eval e (X.blk s H scope cenv fp).env) :: starEach [] (X.blk s H scope cenv fp).env := by rfl) (hplain : (backTo cpos (starEach [] (X.blk s H scope cenv fp).env)).any (·.1) = false := by rfl) :
    PE (X.blk s H scope cenv fp) (.Call (.Attribute o "pop" apos) [e] [] cpos) (tBM X.K "list" rPopAt to t) :=
  pe_bm PySem.F.plainAttrs_list PySem.F.slot_list_pop PySem.F.type_list_pop mt_popAt ho ha hbase hfew hline hs hplain
theorem erase_ppl : ∀ (xs : List Nat) (j : Nat), (ppl xs).eraseIdx j = ppl (xs.eraseIdx j)
  | [], _ => rfl
  | _ :: _, 0 => rfl
  | x :: xs, j + 1 => congrArg (V.int (x : Int) :: ·) (erase_ppl xs j)
theorem perm_erase {xs : List Nat} : ∀ {j : Nat} (h : j < xs.length), xs.Perm ([xs[j]] ++ xs.eraseIdx j) := by
  induction xs with
  | nil => intro j h; exact absurd h (Nat.not_lt_zero j)
  | cons x xs ih =>
    intro j h
    cases j with
    | zero => exact .refl _
    | succ j => exact ((ih (j := j) (Nat.lt_of_succ_lt_succ h)).cons x).trans (List.Perm.swap _ _ _)
/-- a patience is drawn -/
def spPatL (r : Bg) : Sp := fun vs H Q _ => ∃ (m n : Nat), vs = [.ref r.a, .int m] ∧ BagAt n H r ∧ n + 4 < M60 ∧ m ≤ 1000 ∧ ∀ o H', BagAt (n + 4) H' r → Mv r H H' → Q (optV o) H'
/-- people in any order -/
def spMixO (r : Bg) : Sp := fun vs H Q _ => ∃ (m n : Nat), vs = [.ref r.a, .int m] ∧ BagAt n H r ∧ n + 100 < M60 ∧ m ≤ 60 ∧ ∀ T H' ys, BagAt (n + 100) H' r → Mv r H H' → H T = none → Off r T → H' T = some (.lst (ppl ys)) → ys.Perm (List.range m) → Q (.ref T) H'
/-- an order of so many at most -/
def spOrder (r : Bg) : Sp := fun vs H Q _ => ∃ (m n : Nat), vs = [.ref r.a, .int m] ∧ BagAt n H r ∧ n + 500 < M60 ∧ m ≤ 60 ∧ ∀ T H' ys k, BagAt (n + 500) H' r → Mv r H H' → H T = none → Off r T → H' T = some (.lst (ppl ys)) → k ≤ m → ys.Perm (List.range k) → Q (.ref T) H'
section
variable {P : Program} {w : World} {K : PySem.W.Frag} {mg : Str → Option Value} {base : Heap}
theorem ok_queue {f : Addr} {fd : FuncData} (F : Fun K "_law_queue" "_law_queue" sQueue f fd) (henum : mg "enumerate" = none) (CC : Cal P w K mg base 1 "_law_came" ["stand", "rest", "number", "patience"] spCame) : FnOk P w K mg base CX0 2 f fd ["patiences"] spQueue := by
  refine F.ok scQueue (fun vs H Q E ⟨A, ps, e, _⟩ => by rw [e]; rfl) (fun cdv A' outer s H vs Q E hr h => ?_)
  obtain ⟨A, ps, rfl, eA, hl, q⟩ := h
  have nd := scQueue.nd
  refine ⟨_, (pss_cons (ps_set (i := 1) nd rfl (.inl rfl) (pe_lst pa_nil)) (pss_cons (ps_set (i := 2) nd rfl (.inl rfl) pe_dnewK)
    (pss_cons (ps_for PassesOwn.never rfl (pi_enum (by rfl) henum (pa_cons (pv 0) pa_nil)) (pg_tup rfl (pgs_cons (pg_name (i := 3) nd rfl (.inl rfl)) (pgs_cons (pg_name (i := 4) nd rfl (.inl rfl)) pgs_nil)))
      (pss_one (ps_set (i := 1) nd rfl (.inl rfl) (pe_cal CC hr (by rfl) (pa_cons (pv 1) (pa_cons (pv 2) (pa_cons (pv 3) (pa_cons (pv 4) pa_nil))))))))
    (pss_one (ps_ret (pv 1)))))), ?_⟩
  refine ⟨Nat.zero_le _, fun S nS => fun D nD => ?_⟩
  have s1 := same_upd (o := .lst []) nS
  have e1 : (upd H S (.lst [])) S = some (.lst []) := upd_same
  have nSD : S ≠ D := fun z => by rw [← z, e1] at nD; cases nD
  have nD0 : H D = none := s1.free nD
  have s2 := s1.trans (same_upd (o := .dK []) nD)
  have e2 : (upd (upd H S (.lst [])) D (.dK [])) S = some (.lst []) := by rw [upd_ne nSD]; exact e1
  have d2 : (upd (upd H S (.lst [])) D (.dK [])) D = some (.dK []) := upd_same
  generalize upd (upd H S (.lst [])) D (.dK []) = H2 at s2 e2 d2
  refine ⟨.ref A, rfl, A, _, rfl, SqL.of (s2 _ _ eA), for_it walk_enum (fun i σ H3 => ∃ (S : Addr) (xs : List Nat) (y3 y4 : Option V), σ = [some (.ref A), some (.ref S), some (.ref D), y3, y4] ∧ Same H H3 ∧ H3 S = some (.lst (ppl xs)) ∧ xs.Perm (List.range i) ∧ RestAt H3 D i ∧ H S = none)
    ⟨S, [], none, none, rfl, s2, e2, .refl _, ⟨[], d2, Nat.le_refl _, fun x hx => absurd hx (Nat.not_lt_zero x)⟩, nS⟩
    (fun i σ H3 _ ⟨S, xs, y3, y4, _, s3, _⟩ => SqL.of (s3 _ _ eA)) (fun i x σ H3 H4 hi hP hY => ?_) (fun σ H3 hP => ?_)⟩
  · obtain ⟨S, xs, y3, y4, rfl, s3, e3, hp, hR, nS⟩ := hP
    obtain ⟨T, x, y, rfl, nT, rfl, hx, hy⟩ := hY
    obtain rfl := Option.some.inj hx
    rw [List.length_map] at hi
    obtain rfl : y = optV ps[i] := by
      have hy : (List.map optV ps)[i]? = some y := hy
      rw [List.getElem?_map, List.getElem?_eq_getElem hi] at hy
      exact (Option.some.inj hy).symm
    have s4 : Same H3 (upd H3 T (.tup [.int (i : Int), optV ps[i]])) := same_upd nT
    refine ⟨T, _, rfl, SqT.of upd_same, rfl, .int (i : Int), _, rfl, optV ps[i], _, rfl, rfl, ?_⟩
    generalize upd H3 T (.tup [.int (i : Int), optV ps[i]]) = H4 at s4
    have hR4 : RestAt H4 D i := by obtain ⟨kvs, e, h⟩ := hR; exact ⟨kvs, s4 _ _ e, h⟩
    refine ⟨.ref S, rfl, .ref D, rfl, .int (i : Int), rfl, optV ps[i], rfl, S, D, xs, i, ps[i], rfl, s4 _ _ e3, hR4, fun x hx => List.mem_range.mp (hp.mem_iff.mp hx), by rw [hp.length_eq, List.length_range]; omega, by omega, fun T5 H5 ys hys hb e5 n5 hR5 => ?_⟩
    refine ⟨T5, ys, _, _, rfl, fun b o e => hb b o (fun z => by rw [z, nD0] at e; cases e) ((s3.trans s4) _ _ e), e5, ?_, hR5, (s3.trans s4).free n5⟩
    exact (hys.trans (List.Perm.cons i hp)).trans (by rw [List.range_succ]; exact (List.perm_append_singleton i (List.range i)).symm)
  · obtain ⟨S, xs, y3, y4, rfl, s3, e3, hp, hR, nS⟩ := hP
    rw [List.length_map] at hp
    exact ⟨.ref S, rfl, q S H3 xs hp s3 e3 nS⟩
theorem ok_patL {f : Addr} {r : Bg} {fd : FuncData} (F : Fun K "_law_patience" "_law_patience" sPatL f fd) (CD : Cal P w K mg base 2 "_law_draw" ["bag", "many"] (spDraw r)) : FnOk P w K mg base CX0 3 f fd ["bag", "most"] (spPatL r) := by
  refine F.ok scPatL (fun vs H Q E ⟨m, n, e, _⟩ => by rw [e]; rfl) (fun cdv A outer s H vs Q E hr h => ?_)
  obtain ⟨m, n, rfl, hb, hn, hm, q⟩ := h
  refine ⟨_, pss_one (ps_ret (pe_ix ix_list (pe_lst (pa_cons (pe_cal CD hr (by rfl) (pa_cons (pv 0) (pa_cons pe_int pa_nil))) (pa_cons (pe_cal CD hr (by rfl) (pa_cons (pv 0) (pa_cons pe_int pa_nil))) (pa_cons (pe_cal CD hr (by rfl) (pa_cons (pv 0) (pa_cons (pe_op op_add (pv 1) pe_int) pa_nil))) (pa_cons pe_non pa_nil))))) (pe_cal CD hr (by rfl) (pa_cons (pv 0) (pa_cons pe_int pa_nil))) (fun _ _ => rfl))), ?_⟩
  have t140 : (2 : Int) ^ 140 = 1393796574908163946345982392040522594123776 := by decide +kernel
  refine ⟨.ref r.a, rfl, 3, n, rfl, hb, by omega, by decide, by decide, fun x1 H1 b1 v1 a1 c1 => ?_⟩
  refine ⟨.ref r.a, rfl, 3, n + 1, rfl, b1, by omega, by decide, by decide, fun x2 H2 b2 v2 a2 c2 => ?_⟩
  refine ⟨.ref r.a, rfl, .int m, rfl, m, 1, rfl, rfl, m + 1, n + 2, rfl, b2, by omega, by omega, by rw [t140]; omega, fun x3 H3 b3 v3 a3 c3 => ?_⟩
  refine ⟨small_le (by show 4 ≤ 1000; decide), fun p np => ?_⟩
  have s4 : Same H3 (upd H3 p (.lst [.int x1, .int x2, .int x3, .non])) := same_upd np
  have e4 : (upd H3 p (.lst [.int x1, .int x2, .int x3, .non])) p = some (.lst ([some x1, some x2, some x3, none].map optV)) := upd_same
  have npr := b3.new np
  generalize upd H3 p (.lst [.int x1, .int x2, .int x3, .non]) = H4 at s4 e4
  refine ⟨.ref r.a, rfl, 4, n + 3, rfl, b3.same s4, by omega, by decide, by decide, fun x5 H5 b5 v5 a5 c5 => ?_⟩
  obtain ⟨j, rfl⟩ : ∃ j : Nat, x5 = (j : Int) := ⟨x5.toNat, by omega⟩
  have hj : j < [some x1, some x2, some x3, none].length := by show j < 4; omega
  exact ⟨p, _, j, optV [some x1, some x2, some x3, none][j], rfl, rfl, SqL.of (v5.keep p _ npr.a e4), atI_nat (by rw [List.getElem?_map, List.getElem?_eq_getElem hj]; rfl), q _ H5 b5 ((v1.trans v2).trans (v3.trans ((Mv.of s4).trans v5)))⟩
theorem ok_mixO {f : Addr} {r : Bg} {fd : FuncData} (F : Fun K "_law_mixed_order" "_law_mixed_order" sMixO f fd) (T : Nm mg) (CD : Cal P w K mg base 2 "_law_draw" ["bag", "many"] (spDraw r)) : FnOk P w K mg base CX0 3 f fd ["bag", "many"] (spMixO r) := by
  refine F.ok scMixO (fun vs H Q E ⟨m, n, e, _⟩ => by rw [e]; rfl) (fun cdv A outer s H vs Q E hr h => ?_)
  obtain ⟨m, n, rfl, hb, hn, hm, q⟩ := h
  have nd := scMixO.nd
  refine ⟨_, pss_cons (ps_set (i := 2) nd rfl (.inr rfl) (pe_listRg rfl (by rfl) T.list (prg_1 (by rfl) T.range (pv 1))))
    (pss_one (ps_ret (pe_lc (own := [("k", 3)]) (g := gName 3) (tt := tYes) rfl nd (pi_range1 (by rfl) T.range (pa_cons (pv 1) pa_nil)) (blkOk_by (own := [("k", 3)]) (N := ["bag", "many", "left", "k"]) (sc := defScope sMixO) (by decide +kernel))
      (fun _ _ _ _ _ => pg_name (i := 3) nd rfl (Or.inl rfl)) (fun _ _ _ _ _ => pts_nil)
      (fun _ _ _ _ _ => pop_blk (pv 2) (pa_cons (pe_cal CD hr (by rfl) (pa_cons (pv 0) (pa_cons (pe_callB len_blk (by rfl) T.len PySem.boot_len (pa_cons (pv 2) pa_nil)) pa_nil))) pa_nil))))), ?_⟩
  have t140 : (2 : Int) ^ 140 = 1393796574908163946345982392040522594123776 := by decide +kernel
  refine ⟨.int m, rfl, m, rfl, RgOk.of_le (by decide) (by omega) (by decide) (by omega), fun L nL => ?_⟩
  rw [range_ppl]
  have s1 : Same H (upd H L (.lst (ppl (List.range m)))) := same_upd nL
  have e1 : (upd H L (.lst (ppl (List.range m)))) L = some (.lst (ppl (List.range m))) := upd_same
  have nLr := hb.new nL
  generalize upd H L (.lst (ppl (List.range m))) = H1 at s1 e1
  refine ⟨.int m, rfl, m, rfl, by omega, by omega, fun D nD => ?_⟩
  have hb1 := hb.same s1
  have nDr := hb1.new nD
  have nDL : D ≠ L := fun z => by rw [z, e1] at nD; cases nD
  have nD0 : H D = none := s1.free nD
  refine lc_range (lo := 0) (n := (m : Int).toNat) (fun i H3 => ∃ (out rest : List Nat), BagAt (n + i) H3 r ∧ Mv r H H3 ∧ H3 L = some (.lst (ppl rest)) ∧ H3 D = some (.lst (ppl out)) ∧ (out ++ rest).Perm (List.range m) ∧ out.length = i)
    ⟨[], List.range m, (hb1.same (same_upd nD)), (Mv.of (s1.trans (same_upd nD))), by rw [upd_ne (Ne.symm nDL)]; exact e1, upd_same, .refl _, rfl⟩ (fun i H3 hi ⟨out, rest, hb3, mv3, eL, eD, hp, lo⟩ => ?_) (fun H3 ⟨out, rest, hb3, mv3, eL, eD, hp, lo⟩ => ?_)
  · have lt := hp.length_eq
    rw [List.length_append, List.length_range] at lt
    have hi' : i < m := by have : (m : Int).toNat = m := rfl; omega
    refine ⟨rfl, yesT ?_⟩
    refine ⟨.ref L, rfl, .inl ⟨rfl, _, SqL.of eL⟩, .ref r.a, rfl, .ref L, rfl, L, _, rfl, .inl (SqL.of eL), _, n + i, rfl, hb3, by omega, by rw [ppl_len]; omega, by rw [ppl_len, t140]; omega, fun x H4 b4 m4 x0 x1 => ?_⟩
    rw [ppl_len] at x1
    obtain ⟨j, rfl⟩ : ∃ j : Nat, x = (j : Int) := ⟨x.toNat, by omega⟩
    have hj : j < rest.length := by omega
    have eL4 := m4.keep L _ nLr.a eL
    have eD4 := m4.keep D _ nDr.a eD
    refine ⟨L, _, j, j, .int (rest[j] : Int), rfl, rfl, eL4, by omega, by omega, seq_nat (by rw [ppl_len]; exact hj), ppl_get hj, ppl out, by rw [upd_ne nDL]; exact eD4, small1000 (by rw [ppl_len]; omega), out ++ [rest[j]], rest.eraseIdx j, ?_, ?_, ?_, ?_, ?_, ?_⟩
    · exact (b4.store nLr).store nDr
    · exact ((mv3.trans m4).upd nL).upd nD0
    · rw [upd_ne (Ne.symm nDL), upd_same]
      exact congrArg (fun z => some (HO.lst z)) (erase_ppl rest j)
    · rw [upd_same]
      unfold ppl
      rw [List.map_append]
      rfl
    · refine List.Perm.trans ?_ hp
      rw [List.append_assoc]
      refine List.Perm.append_left out ?_
      exact (perm_erase hj).symm
    · rw [List.length_append, lo]; rfl
  · have lm : (m : Int).toNat = m := rfl
    rw [lm] at lo hb3
    have lt := hp.length_eq
    rw [List.length_append, List.length_range] at lt
    obtain rfl : rest = [] := List.eq_nil_of_length_eq_zero (by omega)
    rw [List.append_nil] at hp
    exact q D H3 out (hb3.mono (by omega)) mv3 nD0 nDr eD hp
theorem ok_order {f : Addr} {r : Bg} {fd : FuncData} (F : Fun K "_law_order" "_law_order" sOrder f fd) (T : Nm mg) (CD : Cal P w K mg base 2 "_law_draw" ["bag", "many"] (spDraw r)) (CP : Cal P w K mg base 3 "_law_patience" ["bag", "most"] (spPatL r))
    (CM : Cal P w K mg base 3 "_law_mixed_order" ["bag", "many"] (spMixO r)) (CQ : Cal P w K mg base 2 "_law_queue" ["patiences"] spQueue) : FnOk P w K mg base CX0 4 f fd ["bag", "most"] (spOrder r) := by
  refine F.ok scOrder (fun vs H Q E ⟨m, n, e, _⟩ => by rw [e]; rfl) (fun cdv A outer s H vs Q E hr h => ?_)
  obtain ⟨m, n, rfl, hb, hn, hm, q⟩ := h
  have nd := scOrder.nd
  have CD' := CD.mono (show 2 ≤ 3 by decide)
  have CQ' := CQ.mono (show 2 ≤ 3 by decide)
  refine ⟨_, pss_cons (ps_set (i := 2) nd rfl (.inr rfl) (pe_cal CD' hr (by rfl) (pa_cons (pv 0) (pa_cons (pe_op op_add (pv 1) pe_int) pa_nil))))
    (pss_cons (ps_set (i := 3) nd rfl (.inl rfl) (pe_cal CD' hr (by rfl) (pa_cons (pv 0) (pa_cons pe_int pa_nil))))
    (pss_cons (ps_if (pt_cmpR op_eq (pv 3) pe_int (nomark _)) (pss_one (ps_ret (pe_cal CM hr (by rfl) (pa_cons (pv 0) (pa_cons (pv 2) pa_nil))))) pss_nil)
    (pss_cons (ps_set (i := 4) nd rfl (.inl rfl) (pe_cal CQ' hr (by rfl) (pa_cons (pe_lc (own := [("k", 5)]) (g := gName 5) (tt := tYes) rfl nd (pi_range1 (by rfl) T.range (pa_cons (pv 2) pa_nil)) (blkOk_by (own := [("k", 5)]) (N := nOrder) (sc := defScope sOrder) (by decide +kernel))
      (fun _ _ _ _ _ => pg_name (i := 5) nd rfl (Or.inl rfl)) (fun _ _ _ _ _ => pts_nil) (fun _ _ _ _ _ => pe_cal CP hr (by rfl) (pa_cons (pv 0) (pa_cons (pv 2) pa_nil)))) pa_nil)))
    (pss_cons (ps_if (PW.pt (pw_and (pt_cmpR op_eq (pv 3) pe_int (nomark _)) (pw_and1 (pt_cmpR op_gt (pv 2) pe_int (nomark _)))))
      (pss_cons (ps_par (i := 6) (j := 7) rfl nd rfl rfl (by decide) rfl rfl (pa_cons (pe_cal CD' hr (by rfl) (pa_cons (pv 0) (pa_cons (pv 2) pa_nil))) (pa_cons (pe_cal CD' hr (by rfl) (pa_cons (pv 0) (pa_cons (pv 2) pa_nil))) pa_nil)) (by rfl))
      (pss_one (ps_asg (pe_tup (pa_cons (pe_ix ix_list (pv 4) (pv 7) (fun _ _ => rfl)) (pa_cons (pe_ix ix_list (pv 4) (pv 6) (fun _ _ => rfl)) pa_nil))) (pg_tup rfl (pgs_cons (pg_sub (pv 4) (pv 6) set_list) (pgs_cons (pg_sub (pv 4) (pv 7) set_list) pgs_nil)))))) pss_nil)
    (pss_one (ps_ret (pv 4))))))), ?_⟩
  have t140 : (2 : Int) ^ 140 = 1393796574908163946345982392040522594123776 := by decide +kernel
  refine ⟨.ref r.a, rfl, .int m, rfl, m, 1, rfl, rfl, m + 1, n, rfl, hb, by omega, by omega, by rw [t140]; omega, fun x1 H1 b1 v1 a1 c1 => ?_⟩
  obtain ⟨many, rfl⟩ : ∃ j : Nat, x1 = (j : Int) := ⟨x1.toNat, by omega⟩
  have hmm : many ≤ m := by omega
  refine ⟨.ref r.a, rfl, 4, n + 1, rfl, b1, by omega, by decide, by decide, fun kind H2 b2 v2 a2 c2 => ?_⟩
  have v02 := v1.trans v2
  refine ⟨.int kind, rfl, rfl, _, rfl, ite2 (fun e => ?_) (fun _ => ?_)⟩
  · refine ⟨.ref r.a, rfl, .int many, rfl, many, n + 2, rfl, b2, by omega, by omega, fun T H' ys b' v' nT off eT hp => ?_⟩
    exact q T H' ys many (b'.mono (by omega)) (v02.trans v') (by
      cases z : H T with
      | none => rfl
      | some o => exact absurd nT (mem_keep v02 off.a (by rw [z]; exact nofun))) off eT hmm hp
  refine ⟨.int many, rfl, many, rfl, by omega, by omega, fun D nD => ?_⟩
  have nDr := b2.new nD
  have back : ∀ {T : Addr}, Off r T → H2 T = none → H T = none := fun {T} off nT => by
    cases z : H T with
    | none => rfl
    | some o => exact absurd nT (mem_keep v02 off.a (by rw [z]; exact nofun))
  refine lc_range (lo := 0) (n := (many : Int).toNat) (fun i H3 => ∃ os : List (Option Int), BagAt (n + 2 + 4 * i) H3 r ∧ Mv r H2 H3 ∧ H3 D = some (.lst (os.map optV)) ∧ os.length = i)
    ⟨[], b2.same (same_upd nD), Mv.of (same_upd nD), upd_same, rfl⟩ (fun i H3 hi ⟨os, b3, v3, eD, lo⟩ => ?_) (fun H3 ⟨os, b3, v3, eD, lo⟩ => ?_)
  · have hi' : i < many := hi
    refine ⟨rfl, yesT ?_⟩
    refine ⟨.ref r.a, rfl, .int many, rfl, many, n + 2 + 4 * i, rfl, b3, by omega, by omega, fun o H4 b4 v4 => ?_⟩
    exact ⟨os.map optV, v4.keep D _ nDr.a eD, small1000 (by rw [List.length_map]; omega), os ++ [o], b4.store nDr, (v3.trans v4).upd nD, by rw [upd_same, List.map_append]; rfl, by rw [List.length_append, lo]; rfl⟩
  have lm : (many : Int).toNat = many := rfl
  rw [lm] at lo b3
  refine ⟨D, os, rfl, eD, by omega, fun T H4 ys hp s4 eT nT => ?_⟩
  rw [lo] at hp
  have b4 := (b3.same s4).mono (show n + 2 + 4 * many ≤ n + 400 by omega)
  have off := b3.new nT
  have nT2 : H2 T = none := by
    cases z : H2 T with
    | none => rfl
    | some o => exact absurd nT (mem_keep v3 off.a (by rw [z]; exact nofun))
  have v04 := (v02.trans v3).trans (Mv.of s4)
  have nT0 := back off nT2
  have ly : ys.length = many := by rw [hp.length_eq, List.length_range]
  refine ⟨.int kind, rfl, rfl, _, rfl, ite2 (fun e => ?_) (fun _ => ?_)⟩
  · refine ⟨.int many, rfl, many, 1, rfl, rfl, _, rfl, ite2 (fun e2 => ?_) (fun _ => ?_)⟩
    · have h2 : 1 < many := by have := of_decide_eq_true e2; omega
      refine ⟨.ref r.a, rfl, .int many, rfl, many, n + 400, rfl, b4, by omega, by omega, by rw [t140]; omega, fun x5 H5 b5 v5 a5 c5 => ?_⟩
      refine ⟨.ref r.a, rfl, .int many, rfl, many, n + 401, rfl, b5, by omega, by omega, by rw [t140]; omega, fun x6 H6 b6 v6 a6 c6 => ⟨_, _, rfl, ?_⟩⟩
      obtain ⟨one, rfl⟩ : ∃ j : Nat, x5 = (j : Int) := ⟨x5.toNat, by omega⟩
      obtain ⟨other, rfl⟩ : ∃ j : Nat, x6 = (j : Int) := ⟨x6.toNat, by omega⟩
      have h1 : one < ys.length := by omega
      have h3 : other < ys.length := by omega
      have eT6 := v6.keep T _ off.a (v5.keep T _ off.a eT)
      refine ⟨.ref T, rfl, .int other, rfl, T, _, other, _, rfl, rfl, SqL.of eT6, atI_nat (ppl_get h3), .ref T, rfl, .int one, rfl, T, _, one, _, rfl, rfl, SqL.of eT6, atI_nat (ppl_get h1), small_le (by show 2 ≤ 1000; decide), fun t nt => ?_⟩
      have s7 : Same H6 (upd H6 t (.tup [.int (ys[other] : Int), .int (ys[one] : Int)])) := same_upd nt
      have e7 : (upd H6 t (.tup [.int (ys[other] : Int), .int (ys[one] : Int)])) t = some (.tup [.int (ys[other] : Int), .int (ys[one] : Int)]) := upd_same
      generalize upd H6 t (.tup [.int (ys[other] : Int), .int (ys[one] : Int)]) = H7 at s7 e7
      have eT7 := s7 _ _ eT6
      refine ⟨t, _, rfl, SqT.of e7, rfl, _, _, rfl, .ref T, rfl, .int one, rfl, T, _, one, one, rfl, rfl, eT7, ixN_nat (by rw [ppl_len]; exact h1), _, _, rfl, .ref T, rfl, .int other, rfl, T, _, other, other, rfl, rfl, upd_same, ixN_nat (by rw [List.length_set, ppl_len]; exact h3), rfl, ?_⟩
      refine ⟨.ref T, rfl, q T _ ((ys.set one ys[other]).set other ys[one]) many ?_ ?_ nT0 off ?_ hmm ((List.set_set_perm h1 h3).trans hp)⟩
      · exact (((b6.same s7).store off).store off).mono (by omega)
      · exact ((((v04.trans v5).trans v6).trans (Mv.of s7)).upd nT0).upd nT0
      · rw [upd_same]
        unfold ppl
        rw [List.map_set, List.map_set]
    · exact ⟨.ref T, rfl, q T H4 ys many (b4.mono (by omega)) v04 nT0 off eT hmm hp⟩
  · exact ⟨.ref T, rfl, q T H4 ys many (b4.mono (by omega)) v04 nT0 off eT hmm hp⟩
end
end CL
set_option Elab.async false
set_option linter.all false
set_option maxRecDepth 100000
set_option maxHeartbeats 4000000
namespace CL
open PySem PySem.Spec PyProof.Rows L2 GE
/-! ### sorted(row) of whole numbers, a list or a tuple -/
section
variable {P : Program} {w : World} {A : Around} {E : Value → Shared → Prop} {t : Shared}
/-- a fresh list of what a tuple holds -/
abbrev taken (h : Heap) (us : List Value) : Heap := Heap.update (Heap.push h (seqObj "list" #[] 0)) h.objs.size (Obj.mapSeq fun z => z ++ us.toArray)
theorem grab_tup {b : Addr} {us : List Value} {R : List Value → Shared → Prop} {ob : Obj} {c : Nat} (hob : t.heap.get? b = some ob) (hcl : ob.cls = .type "tuple") (hda : ob.data = .seq us.toArray c)
    (hle : us.length ≤ sizeLine) (hr : R us { t with heap := taken t.heap us }) : wpAny (model P w) A (collect (.ref b)) R E t := by
  have up : (t.heap.push (seqObj "list" #[] 0)).get? b = some ob := Heap.get?_push_of_some _ hob
  have own : (t.heap.push (seqObj "list" #[] 0)).get? t.heap.objs.size = some (seqObj "list" #[] 0) := Heap.get?_push_size _ rfl
  unfold collect
  refine wpAny_bind (wpAny_runValue (codeAny_builtin entry_proto_collect' (?_ : wpAny _ _ (do again (.builtin "list.__iadd__" ⟨[← newList [], .ref b], []⟩)) _ _ t)))
  refine wpAny_bind (wpAny_newList (wpAny_pure ⟨Code.quiet_builtin _ (by decide +kernel), codeAny_builtin entry_list_iadd' ?_⟩))
  show wpAny _ _ (Builtin.List.listExtendWith (.ref t.heap.objs.size) (.ref b) (.ref t.heap.objs.size)) _ _ { t with heap := Heap.push t.heap (seqObj "list" #[] 0) }
  unfold Builtin.List.listExtendWith
  refine wpAny_bind (wpAny_typeOf (T := "tuple") ⟨ob, up, hcl⟩ ?_)
  have isT : (Value.type "tuple" == Value.type "tuple") = true := by rfl
  rw [if_pos (show (Builtin.List.listSameRef (.ref t.heap.objs.size) (.ref b) || Value.type "tuple" == .type "list" || Value.type "tuple" == .type "tuple") = true by rw [isT, Bool.or_true])]
  refine wpAny_bind (listItems_at up hda (wpAny_bind (listItems_at (n := 0) (xs := #[]) own rfl ?_)))
  rw [if_neg (show ¬ (!(#[] : Array Value).isEmpty && Builtin.List.listTooLong ((#[] : Array Value).size + us.toArray.size)) = true by simp)]
  refine wpAny_bind (listUpdate_at (n := 0) (xs := #[]) own rfl (wpAny_pure ?_) (Nat.zero_le _) (Nat.le_succ_of_le (by simpa using hle)))
  have got : (taken t.heap us).get? t.heap.objs.size = some (Obj.mapSeq (fun z => z ++ us.toArray) (seqObj "list" #[] 0)) := Heap.get?_update_self _ own rfl
  show wpAny (model P w) A (load t.heap.objs.size >>= fun o => match o.data with
    | .seq xs _ => pure xs.toList
    | _ => unsupported "internal:collect") R E { t with heap := taken t.heap us }
  refine wpAny_bind (wpAny_load got ?_)
  have e : ((#[] : Array Value) ++ us.toArray).toList = us := by simp
  show wpAny _ _ (pure ((#[] : Array Value) ++ us.toArray).toList) R E _
  rw [e]
  exact wpAny_pure hr
theorem sorted_tup {b : Addr} {us : List Value} {ns : List Int} {R : Value → Shared → Prop} {ob : Obj} {c : Nat} (hob : t.heap.get? b = some ob) (hcl : ob.cls = .type "tuple") (hda : ob.data = .seq us.toArray c) (hI : IntsAre us ns) (hfew : us.length < 64)
    (hr : ∀ (out : Array Value) (ms : List Int), IntsAre out.toList ms → ms.Perm ns → ms.Pairwise (· ≤ ·) → R (.ref (t.heap.objs.size + 1)) { t with heap := sortedAll t.heap us out }) : wpAny (model P w) A (call (.builtin "sorted") [.ref b]) R E t := by
  have hle : us.length ≤ sizeLine := small64 hfew
  refine Calls.call_function_entry kind_sorted plain_sorted entry_sorted (args_sorted1 (.ref b)) ?_
  unfold Builtin.«sorted»
  refine wpAny_bind (m := checkCount "sorted" 1 1 _) (wpAny_pure (wpAny_bind (grab_tup hob hcl hda hle (wpAny_bind (wpAny_newList ?_ hle)))))
  have sz : (taken t.heap us).objs.size = t.heap.objs.size + 1 := (Heap.size_update ..).trans (size_push' ..)
  have mine : ((taken t.heap us).push (seqObj "list" us.toArray 0)).get? (t.heap.objs.size + 1) = some (seqObj "list" us.toArray 0) := by
    have z : ((taken t.heap us).push (seqObj "list" us.toArray 0)).get? (taken t.heap us).objs.size = some (seqObj "list" us.toArray 0) := Heap.get?_push_size _ rfl
    rwa [sz] at z
  show wpAny _ _ _ _ _ { t with heap := (taken t.heap us).push (seqObj "list" us.toArray 0) }
  rw [sz]
  exact wpAny_bind (wpAny_holding (wpAny_call_entry slot_list_sort ⟨_, mine, rfl⟩ entry_list_sort (list_sort_tree mine hI hfew fun out ms a1 a2 a3 => ⟨_, rfl, wpAny_pure ⟨_, rfl, hr out ms a1 a2 a3⟩⟩) (args_list_sort _)))
end
def rSortedX (K : PySem.W.Frag) : List V → Hp → VK → Prop := fun vs H Q => ∃ (a : Addr) (ns : List Int), vs = [V.ref a] ∧ (SqL K H a (ns.map V.int) ∨ SqT K H a (ns.map V.int)) ∧ ns.length < 64 ∧ ∀ (ms : List Int) (p : Addr), ms.Perm ns → ms.Pairwise (· ≤ ·) → H p = none → Q (.ref p) (upd H p (.lst (ms.map V.int)))
theorem cr_sortedX {X : Cx} : CallR X (.builtin "sorted") (rSortedX X.K) := by
  intro pins s σ H vs us Q I r ⟨a, ns, ev, hs, h64, q⟩
  subst ev
  rcases hs with hs | hs
  · exact cr_sorted pins s σ H _ us Q I r ⟨a, ns, rfl, hs, h64, q⟩
  · obtain ⟨its, rv, ⟨ob, hob, hcl, c, hda⟩, _⟩ := I.tuple hs
    have hi := rv.ints
    rw [Vals.ref1 r]
    refine sorted_tup hob hcl hda hi (by rw [hi.length]; exact h64) fun out ms h1 h2 h3 => ?_
    obtain ⟨ep, he⟩ := PyProof.Rows.sortedAll_at s.heap its out
    have few : (ms.map V.int).length ≤ sizeLine := by rw [List.length_map, h2.length_eq]; exact small64 h64
    have ok : ObjOk X.prog X.w (upd H (s.heap.objs.size + 1) (.lst (ms.map V.int))) (sortedAll s.heap its out) (s.heap.objs.size + 1) (.lst (ms.map V.int)) := ⟨few, out.toList, ep, vals_of_ints h1, he⟩
    exact ⟨.ref (s.heap.objs.size + 1), _, I.laid (t' := s.toks) (fun _ _ => PyProof.Rows.sortedAll_old) (Nat.le_succ _) ok, rfl, q ms _ h2 h3 (I.hok.fresh (Nat.le_succ _))⟩
end CL
set_option Elab.async false
set_option linter.all false
set_option maxRecDepth 100000
set_option maxHeartbeats 4000000
namespace CL
open PySem PySem.Spec PyProof.Rows L2 GE
/-! ### orders, as the document tells -/
theorem eqvAll_ints : ∀ as bs : List Int, PyData.eqvAll (as.map PyData.int) (bs.map PyData.int) = decide (as = bs)
  | [], [] => by simp [PyData.eqvAll]
  | [], b :: bs => by simp [PyData.eqvAll]
  | a :: as, [] => by simp [PyData.eqvAll]
  | a :: as, b :: bs => by
    have ih := eqvAll_ints as bs
    simp only [List.map_cons, PyData.eqvAll, ih, List.cons.injEq, PyData.eqv]
    by_cases h : a = b
    · simp [h]
    · simp [h]
theorem eqv_ints (as bs : List Int) : PyData.eqv (.list (as.map PyData.int)) (.list (bs.map PyData.int)) = decide (as = bs) := by
  have := eqvAll_ints as bs
  simp [PyData.eqv, this]
def up (n : Nat) : List Int := (List.range n).map fun i : Nat => (i : Int)
theorem up_len (n : Nat) : (up n).length = n := by unfold up; rw [List.length_map, List.length_range]
theorem up_mem {n : Nat} {x : Int} : x ∈ up n ↔ ∃ i < n, x = (i : Int) := by
  unfold up
  rw [List.mem_map]
  exact ⟨fun ⟨i, h, e⟩ => ⟨i, List.mem_range.mp h, e.symm⟩, fun ⟨i, h, e⟩ => ⟨i, List.mem_range.mpr h, e.symm⟩⟩
theorem up_pair : ∀ n, (up n).Pairwise (· ≤ ·)
  | 0 => .nil
  | n + 1 => by
    unfold up
    rw [List.range_succ, List.map_append, List.pairwise_append]
    refine ⟨up_pair n, by simp, fun a ha b hb => ?_⟩
    obtain ⟨i, hi, rfl⟩ := up_mem.mp ha
    have hb' : b = (n : Int) := by simpa using hb
    rw [hb']
    omega
theorem up_nodup (n : Nat) : (up n).Nodup := by
  unfold up
  refine List.pairwise_map.mpr ?_
  exact (List.nodup_range (n := n)).imp fun h z => h (by omega)
/-- what holds all of a list without doubles, and is no longer, is the same in another order -/
theorem perm_of_sub {α : Type} [BEq α] [LawfulBEq α] : ∀ {as bs : List α}, as.Nodup → (∀ x ∈ as, x ∈ bs) → bs.length ≤ as.length → bs.Perm as
  | [], bs, _, _, h => by
    obtain rfl := List.eq_nil_of_length_eq_zero (Nat.le_zero.mp h)
    exact .refl _
  | a :: as, bs, nd, h, hl => by
    have hm := h a List.mem_cons_self
    have p := List.perm_cons_erase hm
    obtain ⟨na, nd'⟩ := List.nodup_cons.mp nd
    have l := p.length_eq
    rw [List.length_cons] at l hl
    refine p.trans ((perm_of_sub nd' (fun x hx => ?_) (by omega)).cons a)
    exact (List.mem_erase_of_ne (fun z => na (by rw [← z]; exact hx))).mpr (h x (List.mem_cons_of_mem _ hx))
def isOrderI (ns : List Int) : Bool := (List.range ns.length).all fun i : Nat => decide ((i : Int) ∈ ns)
def isOrderL (ds : List PyData) : Bool := decide (ds.length ≤ 60) && ds.all isWhole && isOrderI (ds.map worth)
def isOrder (d : PyData) : Bool := match rowsD d with
  | some ds => isOrderL ds
  | none => false
theorem sorted_up {ns ms : List Int} (hp : ms.Perm ns) (hs : ms.Pairwise (· ≤ ·)) : decide (ms = up ns.length) = isOrderI ns := by
  have h : ms = up ns.length ↔ isOrderI ns = true := by
    constructor
    · intro e
      unfold isOrderI
      rw [List.all_eq_true]
      intro i hi
      refine decide_eq_true (hp.mem_iff.mp ?_)
      rw [e]
      exact up_mem.mpr ⟨i, List.mem_range.mp hi, rfl⟩
    · intro e
      unfold isOrderI at e
      rw [List.all_eq_true] at e
      have p : ns.Perm (up ns.length) := perm_of_sub (up_nodup _) (fun x hx => by
        obtain ⟨i, hi, rfl⟩ := up_mem.mp hx
        exact of_decide_eq_true (e i (List.mem_range.mpr hi))) (by rw [up_len]; exact Nat.le_refl _)
      exact List.Perm.eq_of_pairwise (fun a b _ _ h1 h2 => Int.le_antisymm h1 h2) hs (up_pair _) (hp.trans p)
  by_cases z : isOrderI ns = true
  · rw [z]; exact decide_eq_true (h.mpr z)
  · rw [Bool.eq_false_iff.mpr z]; exact decide_eq_false fun y => z (h.mp y)
/-- whole numbers, as values -/
theorem rp_ints {H : Hp} : ∀ {ds : List PyData} {vs : List V}, RpAll H vs ds → ds.all isWhole = true → vs = (ds.map worth).map V.int
  | [], _, .nil, _ => rfl
  | d :: ds, _, .cons h t, e => by
    rw [List.all_cons, Bool.and_eq_true] at e
    cases h with
    | int i => exact congrArg (V.int i :: ·) (rp_ints t e.2)
    | _ => exact absurd e.1 Bool.false_ne_true
theorem range_up (n : Nat) : rgV 0 (n : Int) = (up n).map V.int := by
  unfold rgV up
  have e : ((n : Int) - 0).toNat = n := by omega
  rw [e, List.map_map]
  refine List.map_congr_left fun i _ => ?_
  rw [Int.zero_add]
  rfl
abbrev sIsO : Stmt := topS 24
theorem scIsO : FnScope ["thing"] ["thing"] (defScope sIsO) := ⟨rfl, rfl, rfl, by decide +kernel, rfl, by decide +kernel, by decide +kernel⟩
def spIsO (P1 : Addr) : Sp := fun vs H Q _ => ∃ v d, vs = [v] ∧ Rp H v d ∧ GxR.TabG H P1 ∧ ∀ H', Ex H H' → GxR.TabG H' P1 → Q (.bl (isOrder d)) H'
section
variable {P : Program} {w : World} {K : PySem.W.Frag} {mg : Str → Option Value} {base : Heap}
theorem ok_isO {f c P1 : Addr} {fd : FuncData} (F : FunC K "is_order" "is_order" sIsO f fd c) (T : Nm mg) (TB : GxR.TabB base mg c P1) (CR : Cal P w K mg base 1 "is_row" ["thing"] (spOne isRow)) (CW : Cal P w K mg base 1 "is_whole" ["thing"] (spOne isWhole)) :
    FnOk P w K mg base CX0 4 f fd ["thing"] (spIsO P1) := by
  refine F.ok scIsO (fun vs H Q E ⟨v, d, e, _⟩ => by rw [e]; rfl) (fun A outer s H vs Q E hr h => ?_)
  obtain ⟨v, d, rfl, hR, hT, q⟩ := h
  obtain ⟨tl, hmo⟩ := T.most
  refine ⟨_, pss_cons (ps_if (PW.pt (pw_or (pt_not (pt_val (pe_cal (CR.mono (by decide)) hr (by rfl) (pa_cons (pv 0) pa_nil)))) (pw_or1 (pt_cmpR op_gt (pe_callB call_len_seq (by rfl) T.len PySem.boot_len (pa_cons (pv 0) pa_nil)) (pe_glob (v := .int 60) (by rfl) hmo ⟨_, rfl⟩) (nomark _)))))
      (pss_one (ps_ret pe_bl)) pss_nil)
    (pss_one (ps_ret (pe_and (pe_allG (N := ["person"]) hr (by rfl) T.all TB rfl (by exact ⟨rfl, rfl, by decide +kernel, rfl⟩) (pi_seq (pv 0))
        (fun A s H C code fp pn rY => pg_name (i := 0) nd1 rfl (.inl rfl) (.inr rfl)) (fun A s H C code fp pn rY => pts_nil)
        (fun A s H C code fp pn rY => pe_cal (CW.mono (by decide)) rY (by rfl) (pa_cons (pv 0) pa_nil)))
      (pe_one (pe_cmpR (op_eqD hr.units) (pe_callB cr_sortedX (by rfl) T.sorted (by decide +kernel) (pa_cons (pv 0) pa_nil)) (pe_listRg rfl (by rfl) T.list (prg_1 (by rfl) T.range (pe_callB call_len_seq (by rfl) T.len PySem.boot_len (pa_cons (pv 0) pa_nil)))) (nomark _)))))), ?_⟩
  refine ⟨v, rfl, v, d, rfl, hR, fun H1 s1 => ⟨isRow d, rfl, ?_⟩⟩
  have hT1 := tabG_same s1 hT
  have at_ : ∀ {H2 : Hp} {b : Bool}, Ex H1 H2 → GxR.TabG H2 P1 → isOrder d = b → Q (.bl b) H2 := fun {H2 b} e2 t2 z => by
    have q' := q H2 ((Ex.of s1).trans e2) t2
    rw [z] at q'
    exact q'
  cases hds : rowsD d with
  | none =>
    have e0 : isRow d = false := by unfold isRow; rw [hds]; rfl
    rw [e0]
    exact iteT (iteT (at_ (Ex.refl H1) hT1 (by unfold isOrder; rw [hds])))
  | some ds =>
    have e0 : isRow d = true := by unfold isRow; rw [hds]; rfl
    have val : isOrder d = isOrderL ds := by unfold isOrder; rw [hds]
    rw [e0]
    obtain ⟨a, xs, rfl, hA, hso⟩ := (Rp.ex (Ex.of s1) d v hR).rows hds
    have hst : StSeq H1 a xs := ⟨hso⟩
    have hlen := hA.length
    refine iteF ⟨.ref a, rfl, a, xs, rfl, hst.sq, xs.length, 60, rfl, rfl, _, rfl, ite2 (fun e1 => ?_) (fun e1 => ?_)⟩
    · refine at_ (Ex.refl H1) hT1 ?_
      rw [val]
      unfold isOrderL
      have : ¬ ds.length ≤ 60 := by have := of_decide_eq_true e1; omega
      rw [decide_eq_false this]
      rfl
    · have l60 : ds.length ≤ 60 := by
        rcases Nat.lt_or_ge 60 ds.length with z | z
        · exact absurd (decide_eq_true (by omega)) e1
        · exact z
      refine ⟨.ref a, rfl, a, xs, rfl, hst, fun J hJ => ⟨hT1, fun H2 tb => ⟨_, ⟨xs.length, rfl, Nat.zero_le _, ex_tabbed hT1 tb, tb.1, rfl⟩, turn_by (xs := xs) (fun _ i H => Ex H1 H ∧ GxR.TabG H P1 ∧ (ds.take i).all isWhole = true)
          (fun _ i H ⟨eH, _, _⟩ => hJ H eH) (fun _ i x H hx ⟨eH, tH, aH⟩ => ?_) (fun _ H ⟨eH, tH, aH⟩ => ?_)⟩⟩⟩
      · obtain ⟨dx, hdx, hRx⟩ := hA.get hx
        refine name_yes ?_
        refine ⟨x, rfl, x, dx, rfl, Rp.ex eH dx x hRx, fun H4 s4 => ⟨isWhole dx, rfl, ite2 (fun e4 => ?_) (fun e4 => ?_)⟩⟩
        · exact ⟨eH.trans (Ex.of s4), tabG_same s4 tH, by rw [all_take hdx, aH, e4]; rfl⟩
        · refine ⟨false, rfl, iteF (at_ (eH.trans (Ex.of s4)) (tabG_same s4 tH) ?_)⟩
          rw [val]
          unfold isOrderL
          rw [all_false hdx (Bool.eq_false_iff.mpr e4), Bool.and_false, Bool.false_and]
      · rw [hlen, List.take_length] at aH
        have hv := rp_ints hA aH
        have hst2 : StSeq H a xs := hst.ex eH
        refine ⟨true, rfl, iteT ?_⟩
        have lns : (ds.map worth).length = ds.length := List.length_map ..
        refine ⟨.ref a, rfl, a, ds.map worth, rfl, by rw [← hv]; exact hst2.sq, by omega, fun ms p hpm hpw np => ?_⟩
        have s5 : Same H (upd H p (.lst (ms.map V.int))) := same_upd np
        have e5 : (upd H p (.lst (ms.map V.int))) p = some (.lst (ms.map V.int)) := upd_same
        generalize upd H p (.lst (ms.map V.int)) = H5 at s5 e5
        refine ⟨.ref a, rfl, a, xs, rfl, (hst2.ex (Ex.of s5)).sq, xs.length, rfl, RgOk.of_le (by decide) (by omega) (by decide) (by omega), fun p2 np2 => ?_⟩
        rw [range_up, hlen]
        have s6 : Same H5 (upd H5 p2 (.lst ((up ds.length).map V.int))) := same_upd np2
        refine ⟨_, _, .lst (SqL.of (s6 _ _ e5)) (ints_dp ms), .lst (SqL.of upd_same) (ints_dp (up ds.length)), ints_shaped _, ints_shaped _, ?_⟩
        rw [eqv_ints]
        refine at_ (eH.trans (Ex.of (s5.trans s6))) (tabG_same (s5.trans s6) tH) ?_
        rw [val]
        unfold isOrderL
        rw [decide_eq_true l60, aH, ← sorted_up hpm hpw, lns]
        rfl
end
end CL
set_option Elab.async false
set_option linter.all false
set_option maxRecDepth 100000
set_option maxHeartbeats 4000000
namespace CL
open PySem PySem.Spec PyProof.Rows L2 GE
/-! ### a list of anything, and the empty list -/
def rNeE : R2 := fun x y H Q => ∃ (a b : Addr) (xs : List V), x = .ref a ∧ y = .ref b ∧ H a = some (.lst xs) ∧ H b = some (.lst []) ∧ Q (.bl (!xs.isEmpty)) H
theorem op_neE {X : Cx} (hu : X.A.units < cLine) : OpR X (compareOp .NotEq) rNeE := by
  intro pins s σ H x y v u Q I rx ry ⟨a, b, xs, ex, ey, ha, hb, q⟩
  subst ex ey
  obtain ⟨its, rv, p1, _⟩ := I.list (SqL.of ha)
  obtain ⟨jts, rw', p2, _⟩ := I.list (SqL.of hb)
  cases rx
  cases ry
  have l1 := rv.length
  have l2 := rw'.length
  cases xs with
  | nil =>
    have e : its.toArray.size = jts.toArray.size := by rw [List.size_toArray, List.size_toArray, ← l1, ← l2]
    have e0 : its.toArray.size = 0 := by rw [List.size_toArray, ← l1]; rfl
    have z := SeqAt.RcNeAt.lists (A := X.A) (e := fun _ => true) p1.isList p2.isList e hu (fun j h1 => absurd h1 (by rw [e0]; exact Nat.not_lt_zero j))
    refine z X.prog X.w _ _ ⟨.bl _, H, I, ?_, q⟩
    rw [e0]
    rfl
  | cons x xs =>
    have e : (its.toArray.size != jts.toArray.size) = true := by
      rw [List.size_toArray, List.size_toArray, ← l1, ← l2]
      rfl
    exact SeqAt.RcNeAt.lists_lengths (A := X.A) p1.isList p2.isList e hu X.prog X.w _ _ ⟨.bl _, H, I, rfl, q⟩
theorem isi_blk {X : Cx} {s : Shared} {H : Hp} {scope : Scope} {cenv : Env} {fp : List Addr} : CallR (X.blk s H scope cenv fp) (.builtin "isinstance") (rIsi X.K) := call_isi
theorem notin_blk {X : Cx} {s : Shared} {H : Hp} {scope : Scope} {cenv : Env} {fp : List Addr} : OpR (X.blk s H scope cenv fp) (compareOp .NotIn) (rIn X.K true) := op_notIn_seq
/-- a walk over what stands as a list or a tuple -/
theorem walk_seq {K : PySem.W.Frag} {a : Addr} {xs : List V} {J : It} {G : Hp → Prop} (h : ∀ H, G H → StandsAs K a xs J H) : Walk J xs.length G (YAt xs) :=
  ⟨fun i H hi g => (h H g).go (List.getElem?_eq_getElem hi), fun H g => (h H g).stop (Nat.le_refl _), fun i H x H' _ g y => (h H g).yld y⟩
theorem inV_ints (i : Int) : ∀ ns : List Int, inV (.int i) (ns.map V.int) = decide (i ∈ ns)
  | [] => rfl
  | n :: ns => by
    have ih := inV_ints i ns
    unfold inV at ih ⊢
    rw [List.map_cons, List.any_cons, ih]
    show ((n == i) || decide (i ∈ ns)) = decide (i ∈ n :: ns)
    by_cases h : n = i
    · simp [h]
    · have h' : ¬ i = n := fun z => h z.symm
      simp [h, h']
theorem flat_ints : ∀ ns : List Int, (ns.map V.int).all flatV = true
  | [] => rfl
  | _ :: ns => flat_ints ns
theorem all_none {p : PyData → Bool} : ∀ {ds : List PyData}, (ds.filter fun d => !p d).isEmpty = ds.all p
  | [] => rfl
  | d :: ds => by
    have ih := all_none (p := p) (ds := ds)
    rw [List.filter_cons, List.all_cons]
    cases h : p d with
    | true => simpa [h] using ih
    | false => simp [h]
end CL
set_option Elab.async false
set_option linter.all false
set_option maxRecDepth 100000
set_option maxHeartbeats 4000000
namespace CL
open PySem PySem.Spec PyProof.Rows L2 GE
/-! ### how much a thing weighs -/
mutual
def wt : PyData → Nat
  | .none => 4
  | .bool _ => 5
  | .int i => i.natAbs.log2 + 4
  | .str x => (reprText x).length
  | .list xs => wtAll xs + 4
  | .tuple xs => wtAll xs + 4
  | .dict kvs => kvs.length * 100000000 + 2
def wtAll : List PyData → Nat
  | [] => 0
  | x :: xs => wt x + 2 + wtAll xs
end
structure B (k u : Nat) (d : PyData) : Prop where
  dp : d.depth ≤ k
  wt : wt d ≤ u
  sh : d.showable = true
theorem B.mono {k u k' u' : Nat} {d : PyData} (b : B k u d) (hk : k ≤ k') (hu : u ≤ u') : B k' u' d := ⟨Nat.le_trans b.dp hk, Nat.le_trans b.wt hu, b.sh⟩
theorem all_bnd {k u : Nat} : ∀ {ds : List PyData}, (∀ x ∈ ds, B k u x) → PyData.depthAll ds ≤ k ∧ wtAll ds ≤ ds.length * (u + 2) ∧ PyData.showableAll ds = true
  | [], _ => ⟨Nat.zero_le _, by simp [wtAll], by simp [PyData.showableAll]⟩
  | x :: ds, h => by
    obtain ⟨h1, h2, h3⟩ := all_bnd (ds := ds) fun y hy => h y (List.mem_cons_of_mem _ hy)
    have hx := h x List.mem_cons_self
    refine ⟨?_, ?_, ?_⟩
    · show max _ _ ≤ k
      exact Nat.max_le.mpr ⟨hx.dp, h1⟩
    · show wt x + 2 + wtAll ds ≤ _
      rw [List.length_cons, Nat.add_mul]
      have := hx.wt
      omega
    · simp [PyData.showableAll, hx.sh, h3]
theorem B.list {k u n : Nat} {ds : List PyData} (h : ∀ x ∈ ds, B k u x) (hn : ds.length ≤ n) : B (k + 1) (n * (u + 2) + 4) (.list ds) := by
  obtain ⟨h1, h2, h3⟩ := all_bnd h
  have := Nat.mul_le_mul_right (u + 2) hn
  refine ⟨?_, ?_, ?_⟩
  · show PyData.depthAll ds + 1 ≤ k + 1
    omega
  · show wtAll ds + 4 ≤ _
    omega
  · simp [PyData.showable, h3]
theorem B.tuple {k u n : Nat} {ds : List PyData} (h : ∀ x ∈ ds, B k u x) (hn : ds.length ≤ n) : B (k + 1) (n * (u + 2) + 4) (.tuple ds) := by
  obtain ⟨h1, h2, h3⟩ := all_bnd h
  have := Nat.mul_le_mul_right (u + 2) hn
  refine ⟨?_, ?_, ?_⟩
  · show PyData.depthAll ds + 1 ≤ k + 1
    omega
  · show wtAll ds + 4 ≤ _
    omega
  · simp [PyData.showable, h3]
theorem b_none {k : Nat} : B k 200 .none := ⟨Nat.zero_le _, by decide, rfl⟩
theorem b_bool {k : Nat} {b : Bool} : B k 200 (.bool b) := ⟨Nat.zero_le _, by show 5 ≤ 200; decide, rfl⟩
theorem b_int {k : Nat} {i : Int} (h : i.natAbs < 2 ^ 140) : B k 200 (.int i) := by
  have h1 : i.natAbs.log2 < 140 := PySem.Flt.log2_lt_of (by decide) h
  exact ⟨Nat.zero_le _, by show i.natAbs.log2 + 4 ≤ 200; omega, by simp [PyData.showable]; omega⟩
/-- a list of lo to hi things, each P -/
def Ls (lo hi : Nat) (P : PyData → Prop) (d : PyData) : Prop := ∃ ds, d = .list ds ∧ lo ≤ ds.length ∧ ds.length ≤ hi ∧ ∀ x ∈ ds, P x
def Tp (n : Nat) (P : PyData → Prop) (d : PyData) : Prop := ∃ ds, d = .tuple ds ∧ ds.length ≤ n ∧ ∀ x ∈ ds, P x
/-! ### evaluation where nothing but the bag changes, by so many draws -/
theorem BagAt.to {a b : Nat} {H : Hp} {r : Bg} (h : BagAt a H r) (e : a ≤ b := by omega) : BagAt b H r := h.mono e
/-- W is tracked, the bag in it -/
structure Wk (W : Addr → Prop) (H : Hp) (r : Bg) : Prop where
  bag : W r.a
  trk : ∀ b, W b → H b ≠ none
theorem Mv.hw {r : Bg} {W : Addr → Prop} {H H' : Hp} (m : Mv r H H') (h : W r.a) : Same (Hw W H) (Hw W H') := fun b o e => by
  have hb := Hw.ne e
  rw [Hw.at hb]
  exact m.keep b o (fun z => hb (by rw [z]; exact h)) (Hw.sub W H b o e)
theorem Wk.mv {n : Nat} {W : Addr → Prop} {H H' : Hp} {r : Bg} (k : Wk W H r) (re : BagAt n H' r) (m : Mv r H H') : Wk W H' r := ⟨k.bag, fun b hb z => by
  by_cases hr : b = r.a
  · rw [hr] at z
    exact re.some z
  · exact mem_keep m hr (k.trk b hb) z⟩
theorem Wk.out {W : Addr → Prop} {H : Hp} {r : Bg} {p : Addr} (k : Wk W H r) (n : H p = none) : ¬ W p := fun z => k.trk p z n
theorem Wk.add {W : Addr → Prop} {H : Hp} {r : Bg} {p : Addr} (k : Wk W H r) (n : H p ≠ none) : Wk (fun b => W b ∨ b = p) H r := ⟨.inl k.bag, fun b hb => hb.elim (k.trk b) fun z => by rw [z]; exact n⟩
abbrev Gam := List (V × PyData)
def GOk (W : Addr → Prop) (H : Hp) (G : Gam) : Prop := ∀ p ∈ G, Rp (Hw W H) p.1 p.2
theorem GOk.mv {r : Bg} {W : Addr → Prop} {H H' : Hp} {G : Gam} (g : GOk W H G) (m : Mv r H H') (h : W r.a) : GOk W H' G := fun p hp => Rp.sm (m.hw h) (g p hp)
theorem GOk.cons {W : Addr → Prop} {H : Hp} {G : Gam} {v : V} {d : PyData} (g : GOk W H G) (h : Rp (Hw W H) v d) : GOk W H ((v, d) :: G) := fun p hp => by
  rcases List.mem_cons.mp hp with e | hp
  · rw [e]; exact h
  · exact g p hp
structure Se (n : Nat) (r : Bg) (W : Addr → Prop) (G : Gam) (H : Hp) : Prop where
  re : BagAt n H r
  wk : Wk W H r
  ok : GOk W H G
theorem Se.mv {n m : Nat} {r : Bg} {W : Addr → Prop} {G : Gam} {H H' : Hp} (s : Se n r W G H) (re : BagAt m H' r) (mv : Mv r H H') : Se m r W G H' := ⟨re, s.wk.mv re mv, s.ok.mv mv s.wk.bag⟩
theorem Se.same {n : Nat} {r : Bg} {W : Addr → Prop} {G : Gam} {H H' : Hp} (s : Se n r W G H) (m : Same H H') : Se n r W G H' := s.mv (s.re.same m) (Mv.of m)
theorem Se.to {n m : Nat} {r : Bg} {W : Addr → Prop} {G : Gam} {H : Hp} (s : Se n r W G H) (e : n ≤ m := by omega) : Se m r W G H := ⟨s.re.mono e, s.wk, s.ok⟩
theorem rp_list {H : Hp} {v : V} {ds : List PyData} (h : Rp H v (.list ds)) : ∃ p xs, v = .ref p ∧ H p = some (.lst xs) ∧ RpAll H xs ds := by
  cases h with
  | lst h1 h2 => exact ⟨_, _, rfl, h1, h2⟩
theorem RpAll.drop {H : Hp} : ∀ {vs : List V} {ds : List PyData} (n : Nat), RpAll H vs ds → RpAll H (vs.drop n) (ds.drop n)
  | _, _, 0, h => h
  | _, _, _ + 1, .nil => .nil
  | _, _, n + 1, .cons _ t => RpAll.drop n t
theorem rp_intsA {H : Hp} : ∀ ns : List Int, RpAll H (ns.map V.int) (ns.map PyData.int)
  | [] => .nil
  | n :: ns => .cons (.int n) (rp_intsA ns)
section
variable {c c1 c2 c3 : Nat} {r : Bg} {W : Addr → Prop} {G : Gam} {σ : L2.St}
def Ev (c : Nat) (r : Bg) (W : Addr → Prop) (G : Gam) (σ : L2.St) (te : TE) (P : PyData → Prop) : Prop := ∀ n H Q, n + c ≤ M60 → Se n r W G H → (∀ v d H', BagAt (n + c) H' r → Mv r H H' → Rp (Hw W H') v d → P d → Q v H') → te σ H Q
def EvI (c : Nat) (r : Bg) (W : Addr → Prop) (G : Gam) (σ : L2.St) (te : TE) (P : Int → Prop) : Prop := ∀ n H Q, n + c ≤ M60 → Se n r W G H → (∀ i H', BagAt (n + c) H' r → Mv r H H' → P i → Q (.int i) H') → te σ H Q
def EvA (c : Nat) (r : Bg) (W : Addr → Prop) (G : Gam) (σ : L2.St) (ta : TA) (m : Nat) (P : PyData → Prop) : Prop := ∀ n H Q, n + c ≤ M60 → Se n r W G H → (∀ vs ds H', BagAt (n + c) H' r → Mv r H H' → RpAll (Hw W H') vs ds → ds.length = m → (∀ x ∈ ds, P x) → Q vs H') → ta σ H Q
theorem Ev.imp {te : TE} {P P' : PyData → Prop} (e : Ev c r W G σ te P) (h : ∀ d, P d → P' d) : Ev c r W G σ te P' := fun n H Q l s q => e n H Q l s fun v d H' re m rp p => q v d H' re m rp (h d p)
theorem EvI.imp {te : TE} {P P' : Int → Prop} (e : EvI c r W G σ te P) (h : ∀ d, P d → P' d) : EvI c r W G σ te P' := fun n H Q l s q => e n H Q l s fun i H' re m p => q i H' re m (h i p)
theorem EvI.ev {te : TE} {P : Int → Prop} {P' : PyData → Prop} (e : EvI c r W G σ te P) (h : ∀ i, P i → P' (.int i)) : Ev c r W G σ te P' := fun n H Q l s q => e n H Q l s fun i H' re m p => q _ _ H' re m (.int i) (h i p)
theorem ev_int {i : Int} : EvI 0 r W G σ (tC (.int i)) (· = i) := fun n H Q l s q => q i H s.re (Mv.refl r H) rfl
theorem ev_non {P : PyData → Prop} (h : P .none) : Ev 0 r W G σ (tC .non) P := fun n H Q l s q => q _ _ H s.re (Mv.refl r H) .non h
theorem ev_bl {b : Bool} {P : PyData → Prop} (h : P (.bool b)) : Ev 0 r W G σ (tC (.bl b)) P := fun n H Q l s q => q _ _ H s.re (Mv.refl r H) (.bl b) h
theorem ev_str {x : Str} {P : PyData → Prop} (h : P (.str x)) : Ev 0 r W G σ (tC (.str x)) P := fun n H Q l s q => q _ _ H s.re (Mv.refl r H) (.str x) h
theorem ev_dict {P : PyData → Prop} (h : P (.dict [])) : Ev 0 r W G σ tDNewK P := fun n H Q l s q => fun p np => q (.ref p) (.dict []) _ (s.re.same (same_upd np)) (Mv.of (same_upd np)) (.dct (by rw [Hw.at (s.wk.out np)]; exact upd_same)) h
theorem ev_var {i : Nat} {v : V} {d : PyData} {P : PyData → Prop} (h1 : σ[i]? = some (some v)) (h2 : (v, d) ∈ G) (h : P d) : Ev 0 r W G σ (tVar i) P := fun n H Q l s q => ⟨v, h1, q v d H s.re (Mv.refl r H) (s.ok _ h2) h⟩
theorem ev_varI {i : Nat} {x : Int} (h1 : σ[i]? = some (some (.int x))) : EvI 0 r W G σ (tVar i) (· = x) := fun n H Q l s q => ⟨.int x, h1, q x H s.re (Mv.refl r H) rfl⟩
theorem eva_nil {P : PyData → Prop} : EvA 0 r W G σ tNil 0 P := fun n H Q l s q => q [] [] H s.re (Mv.refl r H) .nil rfl (fun _ h => nomatch h)
theorem eva_cons {te : TE} {ta : TA} {m : Nat} {P : PyData → Prop} (e : Ev c1 r W G σ te P) (a : EvA c2 r W G σ ta m P) : EvA (c1 + c2) r W G σ (tCons te ta) (m + 1) P := fun n H Q l s q =>
  e n H _ (by omega) s fun v d H1 re1 m1 rp1 p1 => a (n + c1) H1 _ (by omega) (s.mv re1 m1) fun vs ds H2 re2 m2 rp2 l2 p2 => q (v :: vs) (d :: ds) H2 re2.to (m1.trans m2) (.cons (Rp.sm (m2.hw s.wk.bag) rp1) rp2) (by rw [List.length_cons, l2]) fun x hx => by
    rcases List.mem_cons.mp hx with z | z
    · rw [z]; exact p1
    · exact p2 x z
theorem ev_lst {ta : TA} {m : Nat} {P : PyData → Prop} (a : EvA c r W G σ ta m P) (hn : m ≤ 1000 := by decide) : Ev c r W G σ (tLst ta) (Ls m m P) := fun n H Q l s q =>
  a n H _ l s fun vs ds H1 re1 m1 rp1 l1 p1 => ⟨small_le (by rw [rp1.length]; omega), fun p np => q (.ref p) (.list ds) _ (re1.same (same_upd np)) (m1.trans (Mv.of (same_upd np)))
    (.lst (by rw [Hw.at ((s.wk.mv re1 m1).out np)]; exact upd_same) (RpAll.sm (Same.hw (same_upd np)) rp1)) ⟨ds, rfl, Nat.le_of_eq l1.symm, Nat.le_of_eq l1, p1⟩⟩
theorem ev_tup {ta : TA} {m : Nat} {P : PyData → Prop} (a : EvA c r W G σ ta m P) (hn : m ≤ 1000 := by decide) : Ev c r W G σ (tTup ta) (Tp m P) := fun n H Q l s q =>
  a n H _ l s fun vs ds H1 re1 m1 rp1 l1 p1 => ⟨small_le (by rw [rp1.length]; omega), fun p np => q (.ref p) (.tuple ds) _ (re1.same (same_upd np)) (m1.trans (Mv.of (same_upd np)))
    (.tup (by rw [Hw.at ((s.wk.mv re1 m1).out np)]; exact upd_same) (RpAll.sm (Same.hw (same_upd np)) rp1)) ⟨ds, rfl, Nat.le_of_eq l1, p1⟩⟩
/-- two lists, the one behind the other, by what each is -/
theorem ev_catG {ta tb : TE} {PA PB PC : PyData → Prop} (a : Ev c1 r W G σ ta PA) (b : Ev c2 r W G σ tb PB) (h : ∀ d e, PA d → PB e → ∃ ds es, d = .list ds ∧ e = .list es ∧ ds.length ≤ 1000 ∧ es.length ≤ 1000 ∧ PC (.list (ds ++ es))) : Ev (c1 + c2) r W G σ (tOp rCat ta tb) PC := fun n H Q l s q =>
  a n H _ (by omega) s fun v d H1 re1 m1 rp1 e1 => b (n + c1) H1 _ (by omega) (s.mv re1 m1) fun v2 d2 H2 re2 m2 rp2 e2 => by
    obtain ⟨ds, es, z1, z2, hn, hm, hc⟩ := h d d2 e1 e2
    subst z1 z2
    obtain ⟨p, xs, rfl, hp, hx⟩ := rp_list (Rp.sm (m2.hw s.wk.bag) rp1)
    obtain ⟨p', ys, rfl, hp', hy⟩ := rp_list rp2
    have wk2 := s.wk.mv re2 (m1.trans m2)
    exact ⟨p, p', xs, ys, rfl, rfl, Hw.sub W H2 _ _ hp, Hw.sub W H2 _ _ hp', small_add (by rw [hx.length]; exact hn) (by rw [hy.length]; exact hm), fun t nt => q (.ref t) (.list (ds ++ es)) _ (re2.same (same_upd nt)).to ((m1.trans m2).trans (Mv.of (same_upd nt)))
      (.lst (by rw [Hw.at (wk2.out nt)]; exact upd_same) (RpAll.sm (Same.hw (same_upd nt)) (hx.append hy))) hc⟩
theorem ev_cat {ta tb : TE} {l1 h1 l2 h2 : Nat} {P : PyData → Prop} (a : Ev c1 r W G σ ta (Ls l1 h1 P)) (b : Ev c2 r W G σ tb (Ls l2 h2 P)) (hn : h1 ≤ 1000 := by decide) (hm : h2 ≤ 1000 := by decide) : Ev (c1 + c2) r W G σ (tOp rCat ta tb) (Ls (l1 + l2) (h1 + h2) P) :=
  ev_catG a b fun d e ⟨ds, e1, a1, b1, p1⟩ ⟨es, e2, a2, b2, p2⟩ => ⟨ds, es, e1, e2, by omega, by omega, ds ++ es, rfl, by rw [List.length_append]; omega, by rw [List.length_append]; omega, fun x hx => (List.mem_append.mp hx).elim (p1 x) (p2 x)⟩
theorem part_none : ∀ n H (Q : Option Int → Hp → Prop), n + 0 ≤ M60 → Se n r W G H → (∀ l H', BagAt (n + 0) H' r → Mv r H H' → l = none → Q l H') → tNoPart σ H Q := fun n H Q l s q => q none H s.re (Mv.refl r H) rfl
theorem part_some {te : TE} {P : Int → Prop} (e : EvI c r W G σ te P) : ∀ n H (Q : Option Int → Hp → Prop), n + c ≤ M60 → Se n r W G H → (∀ l H', BagAt (n + c) H' r → Mv r H H' → (∃ i, l = some i ∧ P i) → Q l H') → tPart te σ H Q := fun n H Q l s q => e n H _ l s fun i H' re m p => ⟨i, rfl, q (some i) H' re m ⟨i, rfl, p⟩⟩
/-- a part of a list, by its ends -/
theorem ev_slG {K : PySem.W.Frag} {te : TE} {tl th : TO} {PA PC : PyData → Prop} {PL PH : Option Int → Prop} (a : Ev c1 r W G σ te PA) (hl : ∀ n H Q, n + c2 ≤ M60 → Se n r W G H → (∀ l H', BagAt (n + c2) H' r → Mv r H H' → PL l → Q l H') → tl σ H Q) (hh : ∀ n H Q, n + c3 ≤ M60 → Se n r W G H → (∀ l H', BagAt (n + c3) H' r → Mv r H H' → PH l → Q l H') → th σ H Q)
    (h : ∀ d l u, PA d → PL l → PH u → ∃ ds, d = .list ds ∧ PC (.list ((ds.drop (HT.sIx ds.length 0 l)).take (HT.sIx ds.length ds.length u - HT.sIx ds.length 0 l)))) :
    Ev (c1 + c2 + c3) r W G σ (tSl (rSlL K) te tl th) PC := fun n H Q l s q =>
  a n H _ (by omega) s fun v d H1 re1 m1 rp1 e1 => hl (n + c1) H1 _ (by omega) (s.mv re1 m1) fun l H2 re2 m2 pl => hh (n + c1 + c2) H2 _ (by omega) (s.mv re2 (m1.trans m2)) fun u H3 re3 m3 pu => by
    obtain ⟨ds, z, hc⟩ := h d l u e1 pl pu
    subst z
    obtain ⟨p, xs, rfl, hp, hx⟩ := rp_list (Rp.sm ((m2.trans m3).hw s.wk.bag) rp1)
    have m13 := m1.trans (m2.trans m3)
    have wk3 := s.wk.mv re3 m13
    have lx := hx.length
    refine ⟨p, xs, rfl, SqL.of (Hw.sub W H3 _ _ hp), fun t nt => q (.ref t) _ _ (re3.same (same_upd nt)).to (m13.trans (Mv.of (same_upd nt)))
      (.lst (by rw [Hw.at (wk3.out nt)]; exact upd_same) (RpAll.sm (Same.hw (same_upd nt)) ((hx.drop _).take _))) ?_⟩
    rw [lx]
    exact hc
theorem ev_sl {K : PySem.W.Frag} {te : TE} {tl th : TO} {lo hi : Nat} {P : PyData → Prop} {PL PH : Option Int → Prop} (a : Ev c1 r W G σ te (Ls lo hi P)) (hl : ∀ n H Q, n + c2 ≤ M60 → Se n r W G H → (∀ l H', BagAt (n + c2) H' r → Mv r H H' → PL l → Q l H') → tl σ H Q) (hh : ∀ n H Q, n + c3 ≤ M60 → Se n r W G H → (∀ l H', BagAt (n + c3) H' r → Mv r H H' → PH l → Q l H') → th σ H Q) :
    Ev (c1 + c2 + c3) r W G σ (tSl (rSlL K) te tl th) (Ls 0 hi P) := ev_slG a hl hh fun d l u ⟨ds, e1, a1, b1, p1⟩ _ _ => ⟨ds, e1, _, rfl, Nat.zero_le _, by rw [List.length_take, List.length_drop]; omega, fun x hx => p1 x (List.mem_of_mem_drop (List.mem_of_mem_take hx))⟩
theorem ev_draw {tm : TE} {m : Int} (e : EvI c r W G σ tm (· = m)) (h0 : σ[0]? = some (some (.ref r.a))) (h1 : 1 ≤ m) (h2 : m < 2 ^ 140) : EvI (c + 1) r W G σ (tCall (spDraw r) [] E0 (tCons (tVar 0) (tCons tm tNil))) (fun x => 0 ≤ x ∧ x < m) := fun n H Q l s q =>
  ⟨.ref r.a, h0, e n H _ (by omega) s fun i H1 re1 m1 e1 => ⟨m, n + c, by rw [e1]; rfl, re1, by omega, h1, h2, fun x H' re' m' x0 x1 => q x H' re'.to (m1.trans m') ⟨x0, x1⟩⟩⟩
theorem ev_ixG {K : PySem.W.Frag} {ta ti : TE} {PA PC : PyData → Prop} {PI : Int → Prop} (a : Ev c1 r W G σ ta PA) (b : EvI c2 r W G σ ti PI) (h : ∀ d i, PA d → PI i → ∃ ds, d = .list ds ∧ 0 ≤ i ∧ i < (ds.length : Int) ∧ ∀ x, ds[i.toNat]? = some x → PC x) : Ev (c1 + c2) r W G σ (tOp (rIxL K) ta ti) PC := fun n H Q l s q =>
  a n H _ (by omega) s fun v d H1 re1 m1 rp1 e1 => b (n + c1) H1 _ (by omega) (s.mv re1 m1) fun i H2 re2 m2 hi => by
    obtain ⟨ds, z, i0, i1, hc⟩ := h d i e1 hi
    subst z
    obtain ⟨p, xs, rfl, hp, hx⟩ := rp_list (Rp.sm (m2.hw s.wk.bag) rp1)
    obtain ⟨j, rfl⟩ : ∃ j : Nat, i = (j : Int) := ⟨i.toNat, (Int.toNat_of_nonneg i0).symm⟩
    have hj : j < xs.length := by have := hx.length; omega
    obtain ⟨d, hd, hr⟩ := hx.get (List.getElem?_eq_getElem hj)
    exact ⟨p, xs, j, xs[j], rfl, rfl, SqL.of (Hw.sub W H2 _ _ hp), atI_nat (List.getElem?_eq_getElem hj), q _ d H2 re2.to (m1.trans m2) hr (hc d hd)⟩
theorem ev_ix {K : PySem.W.Frag} {ta ti : TE} {lo hi : Nat} {P : PyData → Prop} (a : Ev c1 r W G σ ta (Ls lo hi P)) (b : EvI c2 r W G σ ti (fun x => 0 ≤ x ∧ x < (lo : Int))) : Ev (c1 + c2) r W G σ (tOp (rIxL K) ta ti) P :=
  ev_ixG a b fun d i ⟨ds, e1, a1, b1, p1⟩ hi => ⟨ds, e1, hi.1, by omega, fun x hx => p1 x (List.mem_of_getElem? hx)⟩
theorem ev_len {K : PySem.W.Frag} {i : Nat} {v : V} {ds : List PyData} (h1 : σ[i]? = some (some v)) (h2 : (v, PyData.list ds) ∈ G) :
    EvI 0 r W G σ (tCB (fun xs H Q => ∃ p ys, xs = [.ref p] ∧ (SqL K H p ys ∨ SqT K H p ys) ∧ Q (.int ys.length) H) (tCons (tVar i) tNil)) (· = (ds.length : Int)) := fun n H Q l s q => by
  obtain ⟨p, xs, rfl, hp, hx⟩ := rp_list (s.ok _ h2)
  exact ⟨.ref p, h1, p, xs, rfl, .inl (SqL.of (Hw.sub W H _ _ hp)), q _ H s.re (Mv.refl r H) (by rw [hx.length])⟩
theorem evi_add {ta tb : TE} {x y : Int} (a : EvI c1 r W G σ ta (· = x)) (b : EvI c2 r W G σ tb (· = y)) : EvI (c1 + c2) r W G σ (tOp (rI0 fun i j => .int (i + j)) ta tb) (· = x + y) := fun n H Q l s q =>
  a n H _ (by omega) s fun i H1 re1 m1 e1 => b (n + c1) H1 _ (by omega) (s.mv re1 m1) fun j H2 re2 m2 e2 => ⟨i, j, rfl, rfl, q _ H2 re2.to (m1.trans m2) (by rw [e1, e2])⟩
theorem evi_sub {ta tb : TE} {x y : Int} (a : EvI c1 r W G σ ta (· = x)) (b : EvI c2 r W G σ tb (· = y)) : EvI (c1 + c2) r W G σ (tOp (rI0 fun i j => .int (i - j)) ta tb) (· = x - y) := fun n H Q l s q =>
  a n H _ (by omega) s fun i H1 re1 m1 e1 => b (n + c1) H1 _ (by omega) (s.mv re1 m1) fun j H2 re2 m2 e2 => ⟨i, j, rfl, rfl, q _ H2 re2.to (m1.trans m2) (by rw [e1, e2])⟩
theorem evi_pow {x y : Int} (h : CPow x y) : EvI 0 r W G σ (tOp (rI CPow fun i j => .int (i ^ j.toNat)) (tC (.int x)) (tC (.int y))) (· = x ^ y.toNat) := fun n H Q l s q =>
  ⟨x, y, rfl, rfl, h, q _ H s.re (Mv.refl r H) rfl⟩
theorem evi_neg {x : Int} : EvI 0 r W G σ (tUn (rU fun i => .int (-i)) (tC (.int x))) (· = -x) := fun n H Q l s q => ⟨x, rfl, q _ H s.re (Mv.refl r H) rfl⟩
theorem ev_set {te : TE} {i n : Nat} {P : PyData → Prop} {D : Ends} {H : Hp} (e : Ev c r W G σ te P) (l : n + c ≤ M60) (s : Se n r W G H) (h : ∀ v d H', Se (n + c) r W ((v, d) :: G) H' → Mv r H H' → P d → D.nx (σ.set i (some v)) H') : tAsg te (gName i) D σ H :=
  e n H _ l s fun v d H' re m rp p => h v d H' ⟨re, s.wk.mv re m, (s.ok.mv m s.wk.bag).cons rp⟩ m p
theorem evi_set {te : TE} {i n : Nat} {P : Int → Prop} {D : Ends} {H : Hp} (e : EvI c r W G σ te P) (l : n + c ≤ M60) (s : Se n r W G H) (h : ∀ x H', Se (n + c) r W G H' → Mv r H H' → P x → D.nx (σ.set i (some (.int x))) H') : tAsg te (gName i) D σ H :=
  e n H _ l s fun x H' re m p => h x H' (s.mv re m) m p
/-- list(range(n)), n written -/
theorem ev_range {k : Nat} {P : PyData → Prop} (hk : k ≤ 1000) (h : P (.list ((up k).map PyData.int))) : Ev 0 r W G σ (tLstRg (tRg1 (tC (.int (k : Int))))) P := fun n H Q l s q =>
  ⟨(k : Int), rfl, RgOk.of_le (by decide) (by omega) (by decide) (by omega), fun t nt => by
    rw [range_up]
    exact q (.ref t) (.list ((up k).map PyData.int)) _ (s.re.same (same_upd nt)) (Mv.of (same_upd nt)) (.lst (by rw [Hw.at (s.wk.out nt)]; exact upd_same) (rp_intsA (up k))) h⟩
end
end CL
set_option Elab.async false
set_option linter.all false
set_option maxRecDepth 100000
set_option maxHeartbeats 4000000
namespace CL
open PySem PySem.Spec PyProof.Rows L2 GE
/-! ### a def that is called where no repr is under way -/
structure FnG (P : Program) (w : World) (K : PySem.W.Frag) (mg : Str → Option Value) (base : Heap) (k : Nat) (f : Addr) (fd : FuncData) (ps : List Str) (sp : Sp) : Prop where
  run : ∀ (A : Around) (outer : List Env) (s : Shared) (H : Hp) (args : Args) (us : List Value) (vs : List V) (Q : VK) (E : XK), A.guards = some [] → Room k A → Env0 P w K mg base A outer s H → BindsTo s fd args (ps.zip us) → Vals vs us → sp vs H Q E →
    codeAny (model P w) A (.call (.ref f) args) (CR CX0 outer P w H s Q E) s
theorem fng_of {P : Program} {w : World} {K : PySem.W.Frag} {mg : Str → Option Value} {base : Heap} {x qual : Str} {st : Stmt} {f : Addr} {fd : FuncData} {N ps : List Str} {k : Nat} {sp : Sp} (F : Fun K x qual st f fd) (S : FnScope N ps (defScope st)) (len : ∀ vs H Q E, sp vs H Q E → vs.length = ps.length)
    (hbody : ∀ (cdv : Value) (A : Around) (outer : List Env) (s : Shared) (H : Hp) (vs : List V) (Q : VK) (E : XK), A.guards = some [] → Room k (A.deeper (envOfC qual (defScope st) s.heap.objs.size f cdv)) → sp vs H Q E →
      ∃ t, PSs (cxOf CX0 P w K mg base N qual (defScope st) f cdv A outer s H E).nox (defBody st) t ∧ t { nx := fun _ H' => Q .non H', rt := Q } (start N vs) H) : FnG P w K mg base (k + 1) f fd ps sp := by
  obtain ⟨oc, od, kV, doc, pm, an, cdv, ct, osl, rfl, lk, hcd⟩ := F.ex
  constructor
  intro A outer s H args us vs Q E hgd hr e0 hb r hsp
  have hl : vs.length = ps.length := len _ _ _ _ hsp
  have up : ∀ b o, base.get? b = some o → s.heap.get? b = some o := fun b o e => (e0.bs b o e).1
  have KX : K.In s.heap := e0.mod.kin.keeps up
  have pk : ∀ y ∈ ps.zip us, (defScope st).names.lookup y.1 = some .local ∨ ((defScope st).names.lookup y.1 = some .cell ∧ ((cellsFrom (s.heap.objs.size + 1) (defScope st).names []).lookup y.1).isSome = true) := by
    rintro ⟨n, v⟩ hy
    exact (S.par n (List.of_mem_zip hy).1).imp id fun q => ⟨q, PySem.W.cellsFrom_some _ _ _ (.inl q)⟩
  refine codeAny_call_function hr.depth (KX _ _ lk) rfl S.co S.gen rfl (PySem.W.codeRec_of KX hcd) (hb _ _ _ _ (wpAny_newFunctionEnv_cells S.kind pk fun env he s1 x => ?_))
  subst he
  obtain ⟨t, ht, hq⟩ := hbody cdv A outer s H vs Q E hgd (hr.deeper _) hsp
  refine ⟨(e0.mod.nolimit.keeps up).keeps x.toInCall.keep, codeAny_func (wpAny_mono (ht.nox.run [] s1 (start N vs) H _ (inv_start S hr.hd e0 hl r x) hq) (fun fl s' hs => ?_) fun _ _ z => z)⟩
  cases fl with
  | ret u =>
    obtain ⟨v, _, H', J, rv, z⟩ := hs
    exact ⟨v, H', J.os, J.bare, J.base, J.hok, rv, z⟩
  | next =>
    obtain ⟨_, H', J, z⟩ := hs
    exact ⟨.non, H', J.os, J.bare, J.base, J.hok, rfl, z⟩
  | brk => exact (let ⟨_, _, _, z⟩ := hs; z : False).elim
  | cont => exact (let ⟨_, _, _, z⟩ := hs; z : False).elim
/-! ### repr of data -/
section
variable {X : Cx} {pins : List (Addr × Obj)} {σ : L2.St} {H : Hp} {s : Shared}
mutual
theorem Rp.reads (hsys : ∃ o, X.base.get? sysModules = some o) (I : Inv X pins σ H s) : ∀ (d : PyData) (v : V) (u : Value), Rp H v d → RelV v u → ∃ as, Reads s.heap u d as ∧ sysModules ∉ as
  | .none, _, _, h, r => by cases h; cases r; exact ⟨_, Reads.none, by simp⟩
  | .bool b, _, _, h, r => by cases h; cases r; exact ⟨_, Reads.bool b, by simp⟩
  | .int i, _, _, h, r => by cases h; obtain ⟨t, rfl⟩ := r; exact ⟨_, Reads.int i t, by simp⟩
  | .str x, _, _, h, r => by cases h; obtain ⟨t, rfl⟩ := r; exact ⟨_, Reads.str x t, by simp⟩
  | .list ds, _, _, h, r => by
    cases h with
    | @lst a xs _ hs ha =>
      cases r
      obtain ⟨its, rv, ⟨o, n, ho, hc, _, hd⟩, _⟩ := I.list (SqL.of hs)
      obtain ⟨as, hr, hn⟩ := RpAll.reads hsys I ds _ its ha rv
      refine ⟨_, Reads.list ho hc hd hr, fun z => (List.mem_cons.mp z).elim (fun e => ?_) hn⟩
      obtain ⟨o1, ho1⟩ := hsys
      have z := (I.bs _ _ ho1).2
      rw [e, hs] at z
      cases z
  | .tuple ds, _, _, h, r => by
    cases h with
    | tup hs ha =>
      cases r
      obtain ⟨its, rv, ⟨o, ho, hc, n, hd⟩, _⟩ := I.tuple (SqT.of hs)
      obtain ⟨as, hr, hn⟩ := RpAll.reads hsys I ds _ its ha rv
      exact ⟨_, Reads.tuple ho hc hd hr, hn⟩
  | .dict kvs, _, _, h, r => by
    cases h with
    | @dct a hs =>
      cases r
      obtain ⟨_, hne, vs, kv, o, es, ep, ho, hx, hd, _, hp, _⟩ := (show ObjOk X.prog X.w H s.heap a (.dK []) from I.hok a _ hs)
      cases kv
      have e0 : es.toList = [] := List.eq_nil_of_length_eq_zero hp.length
      refine ⟨_, Reads.dict ho hx.1 hd (by rw [e0]; exact .nil) (by rw [e0]; exact .nil), fun z => ?_⟩
      have z' : sysModules = a := by simpa using z
      rw [z'] at hne
      simp at hne
theorem RpAll.reads (hsys : ∃ o, X.base.get? sysModules = some o) (I : Inv X pins σ H s) : ∀ (ds : List PyData) (vs : List V) (us : List Value), RpAll H vs ds → Vals vs us → ∃ as, ReadsAll s.heap us ds as ∧ sysModules ∉ as
  | [], _, _, h, r => by cases h; cases r; exact ⟨_, ReadsAll.nil, by simp⟩
  | d :: ds, _, _, h, r => by
    cases h with
    | cons h1 h2 =>
      cases r with
      | cons r1 r2 =>
        obtain ⟨as, q1, n1⟩ := Rp.reads hsys I d _ _ h1 r1
        obtain ⟨bs, q2, n2⟩ := RpAll.reads hsys I ds _ _ h2 r2
        exact ⟨_, ReadsAll.cons q1 q2, fun z => (List.mem_append.mp z).elim n1 n2⟩
end
end
/-! ### how long a thing is, shown -/
theorem piled_le {ts : List Str} : ∀ {ds : List PyData}, ts = PyData.shownAll ds → (∀ d ∈ ds, d.shown.length ≤ wt d) → piled ts ≤ wtAll ds
  | [], e, _ => by rw [e]; exact Nat.le_refl 0
  | d :: ds, e, h => by
    have ih := piled_le (ts := PyData.shownAll ds) rfl fun x hx => h x (List.mem_cons_of_mem _ hx)
    have h1 := h d List.mem_cons_self
    rw [e]
    show d.shown.length + 2 + piled (PyData.shownAll ds) ≤ wt d + 2 + wtAll ds
    omega
theorem list_len (ts : List Str) : (listText ts).length ≤ piled ts + 2 := by
  cases ts with
  | nil => decide +kernel
  | cons t r =>
    have h := textFrom_length_pos r 1 (("[" : Str) ++ (if (0 : Nat) > 0 then ", " else "" : String) ++ t) (Nat.succ_pos 0)
    have hX : (listText (t :: r)).length = (textFrom 1 (("[" : Str) ++ (if (0 : Nat) > 0 then ", " else "" : String) ++ t) r).length + 1 := by
      show (textFrom 1 _ r ++ "]").length = _
      rw [Str.length_append]
      rfl
    have e1 : ((("[" : Str) ++ (if (0 : Nat) > 0 then ", " else "" : String) ++ t) : Str).length = 1 + t.length := by
      rw [Str.length_append, Str.length_append]
      rfl
    have e2 : piled (t :: r) = t.length + 2 + piled r := rfl
    omega
theorem tuple_len (ts : List Str) : (tupleText ts).length ≤ piled ts + 3 := by
  have h : (Str.join ", " ts).length ≤ piled ts := by
    by_cases e : ts = []
    · rw [e]; decide +kernel
    · have := join_length_add ts e
      omega
  unfold tupleText
  rw [Str.length_append, Str.length_append]
  have h1 : (("(" : Str)).length = 1 := by decide +kernel
  have h2 : ((if ts.length == 1 then ",)" else ")" : String) : Str).length ≤ 2 := by
    split <;> decide +kernel
  omega
mutual
theorem shown_le : ∀ d : PyData, wt d ≤ 10000000 → d.showable = true → d.shown.length ≤ wt d
  | .none, _, _ => by decide +kernel
  | .bool b, _, _ => by cases b <;> decide +kernel
  | .int i, _, _ => by
    have h := int_text_length_le (a := i) (k := i.natAbs.log2 + 1) (Nat.succ_pos _) (Nat.lt_succ_self _)
    show (Str.ofString (toString i)).length ≤ i.natAbs.log2 + 4
    rw [PySem.ofString_length]
    omega
  | .str x, _, _ => Nat.le_refl _
  | .list ds, h, s => by
    have h1 := shown_all ds (by have : wt (.list ds) = wtAll ds + 4 := rfl; omega) (by simpa [PyData.showable] using s)
    have h2 := piled_le rfl h1
    have h3 := list_len (PyData.shownAll ds)
    show (listText (PyData.shownAll ds)).length ≤ wtAll ds + 4
    omega
  | .tuple ds, h, s => by
    have h1 := shown_all ds (by have : wt (.tuple ds) = wtAll ds + 4 := rfl; omega) (by simpa [PyData.showable] using s)
    have h2 := piled_le rfl h1
    have h3 := tuple_len (PyData.shownAll ds)
    show (tupleText (PyData.shownAll ds)).length ≤ wtAll ds + 4
    omega
  | .dict [], _, _ => by decide +kernel
  | .dict (x :: kvs), h, _ => by
    have : wt (.dict (x :: kvs)) = (kvs.length + 1) * 100000000 + 2 := rfl
    omega
theorem shown_all : ∀ ds : List PyData, wtAll ds ≤ 10000000 → PyData.showableAll ds = true → ∀ d ∈ ds, d.shown.length ≤ wt d
  | [], _, _, d, hd => nomatch hd
  | x :: ds, h, s, d, hd => by
    have e : wtAll (x :: ds) = wt x + 2 + wtAll ds := rfl
    have s' : x.showable = true ∧ PyData.showableAll ds = true := by simpa [PyData.showableAll] using s
    rcases List.mem_cons.mp hd with z | z
    · rw [z]
      exact shown_le x (by omega) s'.1
    · exact shown_all ds (by omega) s'.2 d z
end
/-! ### repr(x) of a list or a tuple -/
theorem call_reprD {X : Cx} {k : Nat} (hg : X.A.guards = some []) (hr : Room k X.A) (hsys : ∃ o, X.base.get? sysModules = some o) :
    CallR X (.builtin "repr") (fun xs H Q => ∃ v d a, xs = [v] ∧ v = .ref a ∧ Rp H v d ∧ B 100 10000000 d ∧ Q (.str d.shown) H) := by
  intro pins s σ H xs us Q I r h
  obtain ⟨v, d, a, rfl, rfl, hR, hB, q⟩ := h
  obtain ⟨u, rfl, rx⟩ := vals1 r
  obtain ⟨as, hrd, hno⟩ := Rp.reads hsys I d _ _ hR rx
  cases rx
  refine repr_of_reads' hrd hB.sh (fun _ => hno) hg (by have := hr.un; have := hB.dp; omega) (fun _ _ e => e) (fun h' u tk hk => ⟨.str _, H, I.kept hk, ⟨_, rfl⟩, q⟩) ?_
  have h1 := shown_le d hB.wt hB.sh
  have h2 := hB.wt
  rw [sizeLine_eq]
  omega
end CL
set_option Elab.async false
set_option linter.all false
set_option maxRecDepth 100000
set_option maxHeartbeats 4000000
namespace CL
open PySem PySem.Spec PyProof.Rows L2 GE
abbrev Bq : PyData → Prop := B 2 400
def P1 (d : PyData) : Prop := ∃ ds, d = .list ds ∧ ds.length ≤ 200 ∧ B 4 100000 (.list ds) ∧ B 4 100000 (.tuple ds)
theorem bq_int {i : Int} (h : i.natAbs < 2 ^ 140) : Bq (.int i) := (b_int (k := 0) h).mono (by decide) (by decide)
def Few (ns : List Int) : Prop := ns.length ≤ 60 ∧ ∀ x ∈ ns, 0 ≤ x ∧ x < 1000
theorem small140 {x : Int} (h0 : 0 ≤ x) (h1 : x < 1000) : x.natAbs < 2 ^ 140 := by
  have : (1000 : Nat) ≤ 2 ^ 140 := by decide
  omega
theorem few_in {ns : List Int} (h : Few ns) : Ls 0 60 Bq (.list (ns.map PyData.int)) := ⟨_, rfl, Nat.zero_le _, by rw [List.length_map]; exact h.1, fun x hx => by
  obtain ⟨i, hi, rfl⟩ := List.mem_map.mp hx
  exact bq_int (small140 (h.2 i hi).1 (h.2 i hi).2)⟩
theorem few_bq {ns : List Int} (h : Few ns) : B 1 20000 (.list (ns.map PyData.int)) := by
  refine (B.list (k := 0) (u := 200) (n := 60) (fun x hx => ?_) (by rw [List.length_map]; exact h.1)).mono (by decide) (by decide)
  obtain ⟨i, hi, rfl⟩ := List.mem_map.mp hx
  exact b_int (small140 (h.2 i hi).1 (h.2 i hi).2)
theorem few_bt {ns : List Int} (h : Few ns) : B 1 20000 (.tuple (ns.map PyData.int)) := by
  refine (B.tuple (k := 0) (u := 200) (n := 60) (fun x hx => ?_) (by rw [List.length_map]; exact h.1)).mono (by decide) (by decide)
  obtain ⟨i, hi, rfl⟩ := List.mem_map.mp hx
  exact b_int (small140 (h.2 i hi).1 (h.2 i hi).2)
theorem p1_wide {lo hi : Nat} (d : PyData) (hh : hi ≤ 200) : Ls lo hi Bq d → P1 d := fun ⟨ds, e, _, l, p⟩ => ⟨ds, e, by omega, (B.list (n := 200) p (by omega)).mono (by decide) (by decide), (B.tuple (n := 200) p (by omega)).mono (by decide) (by decide)⟩
def spHand (r : Bg) : Sp := fun vs H Q _ => ∃ (v : V) (ds : List PyData) (n : Nat) (W : Addr → Prop), vs = [.ref r.a, v] ∧ n + 1 ≤ M60 ∧ BagAt n H r ∧ Wk W H r ∧ Rp (Hw W H) v (.list ds) ∧ ∀ v' d' H', BagAt (n + 1) H' r → Mv r H H' → Rp (Hw W H') v' d' → d' = .list ds ∨ d' = .tuple ds → Q v' H'
section
variable {r : Bg} {W : Addr → Prop} {G : Gam} {σ : L2.St}
theorem ev_tupOf {K : PySem.W.Frag} {i : Nat} {v : V} {ds : List PyData} {P : PyData → Prop} (h1 : σ[i]? = some (some v)) (h2 : (v, PyData.list ds) ∈ G) (h : P (.tuple ds)) :
    Ev 0 r W G σ (tCB (fun xs H Q => ∃ p ys, xs = [.ref p] ∧ ((SqL K H p ys ∧ ∀ l, H l = none → Q (.ref l) (upd H l (.tup ys))) ∨ (SqT K H p ys ∧ Q (.ref p) H))) (tCons (tVar i) tNil)) P := fun n H Q l s q => by
  obtain ⟨p, xs, rfl, hp, hx⟩ := rp_list (s.ok _ h2)
  exact ⟨.ref p, h1, p, xs, rfl, .inl ⟨SqL.of (Hw.sub W H _ _ hp), fun t nt => q (.ref t) (.tuple ds) _ (s.re.same (same_upd nt)) (Mv.of (same_upd nt)) (.tup (by rw [Hw.at (s.wk.out nt)]; exact upd_same) (RpAll.sm (Same.hw (same_upd nt)) hx)) h⟩⟩
theorem ev_first {K : PySem.W.Frag} {i : Nat} {v : V} {ns : List Int} (h1 : σ[i]? = some (some v)) (h2 : (v, PyData.list (ns.map PyData.int)) ∈ G) (hF : Few ns) :
    EvI 0 r W G σ (tIf (tTest (tOp rNeE (tVar i) (tLst tNil))) (tOp (rIxL K) (tVar i) (tC (.int 0))) (tC (.int 5))) (fun x => 0 ≤ x ∧ x < 1000) := fun n H Q l s q => by
  obtain ⟨p, xs, rfl, hp, hx⟩ := rp_list (s.ok _ h2)
  have hpH := Hw.sub W H _ _ hp
  refine ⟨.ref p, h1, Nat.zero_le _, fun L nL => ?_⟩
  have s1 : Same H (upd H L (.lst [])) := same_upd nL
  have eL : (upd H L (.lst [])) L = some (.lst []) := upd_same
  generalize upd H L (.lst []) = H1 at s1 eL
  refine ⟨p, L, xs, rfl, rfl, s1 _ _ hpH, eL, _, rfl, ?_⟩
  cases ns with
  | nil =>
    obtain rfl : xs = [] := List.eq_nil_of_length_eq_zero hx.length
    exact iteF (q 5 H1 (s.re.same s1) (Mv.of s1) ⟨by decide, by decide⟩)
  | cons x ns =>
    cases hx with
    | cons hr ht =>
      cases hr
      exact iteT ⟨.ref p, h1, p, _, ((0 : Nat) : Int), .int x, rfl, rfl, SqL.of (s1 _ _ hpH), atI_nat (j := 0) rfl, q x H1 (s.re.same s1) (Mv.of s1) (hF.2 x List.mem_cons_self)⟩
end
end CL
set_option Elab.async false
set_option linter.all false
set_option maxRecDepth 100000
set_option maxHeartbeats 4000000
namespace CL
open PySem PySem.Spec PyProof.Rows L2 GE
/-! ### what a call that fills tables leaves -/
theorem Ex.some {H H' : Hp} (e : Ex H H') {b : Addr} (n : H b ≠ none) : H' b ≠ none := fun z => n (e.free z)
theorem Wk.ex {W : Addr → Prop} {H H' : Hp} {r : Bg} (k : Wk W H r) (e : Ex H H') : Wk W H' r := ⟨k.bag, fun b hb => e.some (k.trk b hb)⟩
theorem Ex.hw {W : Addr → Prop} {H H' : Hp} (e : Ex H H') : Ex (Hw W H) (Hw W H') := fun b o h => by
  rw [Hw.at (Hw.ne h)]
  exact e b o (Hw.sub W H b o h)
theorem Se.ex {n : Nat} {r : Bg} {W : Addr → Prop} {G : Gam} {H H' : Hp} (s : Se n r W G H) (e : Ex H H') : Se n r W G H' := ⟨s.re.kx e, s.wk.ex e, fun p hp => Rp.ex e.hw _ _ (s.ok p hp)⟩
theorem tabG_mv {n : Nat} {P : Addr} {r : Bg} {H H' : Hp} (h : GxR.TabG H P) (hr : BagAt n H r) (m : Mv r H H') : GxR.TabG H' P := by
  obtain ⟨ps, e, t⟩ := h
  obtain ⟨ns, i, b, k, tt, er, _⟩ := hr
  exact ⟨ps, m.keep P _ (fun z => by rw [z, er] at e; cases e) e, t⟩
theorem tabG_upd {P p : Addr} {H : Hp} {o : HO} (h : GxR.TabG H P) (n : ∀ ps, H p ≠ some (.tbl ps)) : GxR.TabG (upd H p o) P := by
  obtain ⟨ps, e, t⟩ := h
  exact ⟨ps, by rw [upd_ne fun z => n ps (by rw [← z]; exact e)]; exact e, t⟩
def spE (sp : Bg → Sp) : Sp := fun vs H Q E => ∃ r, sp r vs H Q E
/-- people as whole numbers -/
def ic (ys : List Nat) : List Int := ys.map fun y : Nat => (y : Int)
theorem ppl_ic (ys : List Nat) : ppl ys = (ic ys).map V.int := by
  unfold ppl ic
  rw [List.map_map]
  rfl
theorem ic_few {ys : List Nat} {k : Nat} (h : ys.Perm (List.range k)) (hk : k ≤ 60) : Few (ic ys) := by
  refine ⟨by unfold ic; rw [List.length_map, h.length_eq, List.length_range]; exact hk, fun x hx => ?_⟩
  obtain ⟨y, hy, rfl⟩ := List.mem_map.mp hx
  have := List.mem_range.mp (h.mem_iff.mp hy)
  omega
section
variable {c c1 c2 : Nat} {r : Bg} {W : Addr → Prop} {G : Gam} {σ : L2.St}
theorem ev_hand {k : Nat} {tx : TE} {ds : List PyData} (e : Ev c r W G σ tx (· = .list ds)) (h0 : σ[k]? = some (some (.ref r.a))) : Ev (c + 1) r W G σ (tCall (spE spHand) [] E0 (tCons (tVar k) (tCons tx tNil))) (fun d => d = .list ds ∨ d = .tuple ds) := fun n H Q l s q =>
  ⟨.ref r.a, h0, e n H _ (by omega) s fun v d H1 b1 m1 rp e1 => ⟨r, v, ds, n + c, W, rfl, by omega, b1, s.wk.mv b1 m1, (by rw [← e1]; exact rp), fun v' d' H' b' m' rp' p' => q v' d' H' b'.to (m1.trans m') rp' p'⟩⟩
theorem ev_tupE {K : PySem.W.Frag} {te : TE} {PA PC : PyData → Prop} (e : Ev c r W G σ te PA) (h : ∀ d, PA d → ∃ ds, d = .list ds ∧ PC (.tuple ds)) :
    Ev c r W G σ (tCB (fun xs H Q => ∃ p ys, xs = [.ref p] ∧ ((SqL K H p ys ∧ ∀ l, H l = none → Q (.ref l) (upd H l (.tup ys))) ∨ (SqT K H p ys ∧ Q (.ref p) H))) (tCons te tNil)) PC := fun n H Q l s q =>
  e n H _ l s fun v d H1 b1 m1 rp p1 => by
    obtain ⟨ds, z, hc⟩ := h d p1
    subst z
    obtain ⟨p, xs, rfl, hp, hx⟩ := rp_list rp
    exact ⟨p, xs, rfl, .inl ⟨SqL.of (Hw.sub W H1 _ _ hp), fun t nt => q (.ref t) (.tuple ds) _ (b1.same (same_upd nt)) (m1.trans (Mv.of (same_upd nt))) (.tup (by rw [Hw.at ((s.wk.mv b1 m1).out nt)]; exact upd_same) (RpAll.sm (Same.hw (same_upd nt)) hx)) hc⟩⟩
end
/-! ### a list that grows, hidden from the other data -/
structure DS (n : Nat) (r : Bg) (D : Addr) (G : Gam) (ds : List PyData) (H : Hp) : Prop where
  se : Se n r (fun b => b = r.a ∨ b = D) G H
  at_ : ∃ vs, H D = some (.lst vs) ∧ RpAll (Hw (fun b => b = r.a ∨ b = D) H) vs ds
  off : Off r D
section
variable {n c c1 c2 : Nat} {r : Bg} {G : Gam} {σ : L2.St} {H : Hp} {D0 : Ends} {i : Nat} {ds es : List PyData}
theorem DS.mk' {W : Addr → Prop} {H1 : Hp} {t : Addr} {vs : List V} (se : Se n r W G H1) (nt : H1 t = none) (hv : RpAll (Hw W H1) vs ds) : DS n r t G ds (upd H1 t (.lst vs)) := by
  have ex : Same (Hw W H1) (Hw (fun b => b = r.a ∨ b = t) (upd H1 t (.lst vs))) := by
    rw [hw_upd (.inr rfl)]
    exact Hw.more fun b hb => hb.elim (fun e => .inl (by rw [e]; exact se.wk.bag)) fun e => .inr (by rw [e]; exact nt)
  have off := se.re.new nt
  refine ⟨⟨se.re.same (same_upd nt), ⟨.inl rfl, fun b hb => ?_⟩, fun p hp => Rp.sm ex (se.ok p hp)⟩, ⟨vs, upd_same, RpAll.sm ex hv⟩, off⟩
  rcases hb with e | e
  · rw [e, upd_ne (Ne.symm off.a)]; exact se.re.some
  · rw [e, upd_same]; exact nofun
theorem ds_catE {W : Addr → Prop} {ta tb : TE} {PA PB : PyData → Prop} (a : Ev c1 r W G σ ta PA) (b : Ev c2 r W G σ tb PB) (l : n + (c1 + c2) ≤ M60) (s : Se n r W G H) (h : ∀ d e, PA d → PB e → ∃ ds es, d = .list ds ∧ e = .list es ∧ ds.length ≤ 1000 ∧ es.length ≤ 1000)
    (h2 : ∀ D ds es H', Mv r H H' → DS (n + (c1 + c2)) r D G (ds ++ es) H' → PA (.list ds) → PB (.list es) → D0.nx (σ.set i (some (.ref D))) H') : tAsg (tOp rCat ta tb) (gName i) D0 σ H :=
  a n H _ (by omega) s fun v d H1 re1 m1 rp1 e1 => b (n + c1) H1 _ (by omega) (s.mv re1 m1) fun v2 d2 H2 re2 m2 rp2 e2 => by
    obtain ⟨ds, es, z1, z2, hn, hm⟩ := h d d2 e1 e2
    subst z1 z2
    obtain ⟨p, xs, rfl, hp, hx⟩ := rp_list (Rp.sm (m2.hw s.wk.bag) rp1)
    obtain ⟨p', ys, rfl, hp', hy⟩ := rp_list rp2
    have re3 : BagAt (n + (c1 + c2)) H2 r := re2.to
    exact ⟨p, p', xs, ys, rfl, rfl, Hw.sub W H2 _ _ hp, Hw.sub W H2 _ _ hp', small_add (by rw [hx.length]; exact hn) (by rw [hy.length]; exact hm), fun t nt => h2 t ds es _ ((m1.trans m2).trans (Mv.of (same_upd nt))) (DS.mk' (s.mv re3 (m1.trans m2)) nt (hx.append hy)) e1 e2⟩
theorem DS.app {D : Addr} {m : Nat} (s : DS n r D G ds H) {H1 : Hp} {v : V} {d : PyData} (re1 : BagAt m H1 r) (m1 : Mv r H H1) (rp : Rp (Hw (fun b => b = r.a ∨ b = D) H1) v d) : ∃ vs, H1 D = some (.lst vs) ∧ vs.length = ds.length ∧ DS m r D G (ds ++ [d]) (upd H1 D (.lst (vs ++ [v]))) := by
  obtain ⟨vs, hD, hv⟩ := s.at_
  have hD1 := m1.keep D _ s.off.a hD
  have se1 := s.se.mv re1 m1
  have hv1 := RpAll.sm (m1.hw (W := fun b => b = r.a ∨ b = D) (.inl rfl)) hv
  refine ⟨vs, hD1, hv.length, ⟨re1.store s.off, ⟨.inl rfl, fun b hb => ?_⟩, fun p hp => ?_⟩, ⟨_, upd_same, ?_⟩, s.off⟩
  · rcases hb with e | e
    · rw [e, upd_ne (Ne.symm s.off.a)]; exact re1.some
    · rw [e, upd_same]; exact nofun
  · rw [hw_upd (.inr rfl)]; exact se1.ok p hp
  · rw [hw_upd (.inr rfl)]; exact hv1.snoc rp
/-- the list shown again -/
theorem DS.back {D : Addr} (s : DS n r D G ds H) : Se n r (fun b => b = r.a) ((.ref D, .list ds) :: G) H := by
  obtain ⟨vs, hD, hv⟩ := s.at_
  have less : Same (Hw (fun b => b = r.a ∨ b = D) H) (Hw (fun b => b = r.a) H) := Hw.less fun b hb => .inl hb
  exact ⟨s.se.re, ⟨rfl, fun b hb => by rw [hb]; exact s.se.re.some⟩, GOk.cons (fun p hp => Rp.sm less (s.se.ok p hp)) (.lst (by rw [Hw.at (W := fun b => b = r.a) s.off.a]; exact hD) (RpAll.sm less hv))⟩
end
end CL
set_option Elab.async false
set_option linter.all false
set_option maxRecDepth 100000
set_option maxHeartbeats 4000000
namespace CL
open PySem PySem.Spec PyProof.Rows L2 GE
abbrev sPeople : Stmt := topS 25
abbrev sPlaces : Stmt := topS 26
abbrev sBarIt : Stmt := topS 27
abbrev sBars : Stmt := topS 29
abbrev nBars : List Str := ["order", "thing", "places"]
theorem scPeople : FnScope ["order"] ["order"] (defScope sPeople) := ⟨rfl, rfl, rfl, by decide +kernel, rfl, by decide +kernel, by decide +kernel⟩
theorem scPlaces : FnScope ["people", "person"] ["people"] (defScope sPlaces) := ⟨rfl, rfl, rfl, by decide +kernel, rfl, by decide +kernel, by decide +kernel⟩
theorem scBarIt : FnScope ["places", "youngest", "oldest", "between"] ["places", "youngest", "oldest", "between"] (defScope sBarIt) := ⟨rfl, rfl, rfl, by decide +kernel, rfl, by decide +kernel, by decide +kernel⟩
theorem scBars : FnScope nBars ["order", "thing"] (defScope sBars) := ⟨rfl, rfl, rfl, by decide +kernel, rfl, by decide +kernel, by decide +kernel⟩
/-! ### orders that are orders -/
def intsD (ns : List Int) : List PyData := ns.map PyData.int
def OrdV (H : Hp) (v : V) (ns : List Int) : Prop := Rp H v (.list (intsD ns)) ∨ Rp H v (.tuple (intsD ns))
theorem OrdV.ex {H H' : Hp} (e : Ex H H') {v : V} {ns : List Int} (h : OrdV H v ns) : OrdV H' v ns := h.elim (fun z => .inl (Rp.ex e _ _ z)) fun z => .inr (Rp.ex e _ _ z)
theorem ints_whole : ∀ ns : List Int, (intsD ns).all isWhole = true
  | [] => rfl
  | _ :: ns => ints_whole ns
theorem ints_worth : ∀ ns : List Int, (intsD ns).map worth = ns
  | [] => rfl
  | n :: ns => congrArg (n :: ·) (ints_worth ns)
theorem OrdV.data {H : Hp} {v : V} {ns : List Int} (h : OrdV H v ns) : ∃ d, Rp H v d ∧ rowsD d = some (intsD ns) := h.elim (fun z => ⟨_, z, rfl⟩) fun z => ⟨_, z, rfl⟩
theorem ord_yes {d : PyData} {ns : List Int} (e : rowsD d = some (intsD ns)) (h : isOrderI ns = true) (l : ns.length ≤ 60) : isOrder d = true := by
  unfold isOrder
  rw [e]
  show isOrderL (intsD ns) = true
  unfold isOrderL
  rw [ints_whole, ints_worth, h, show (intsD ns).length = ns.length from List.length_map .., decide_eq_true l]
  rfl
theorem rp_ints2 {H : Hp} {vs : List V} {ns : List Int} (h : RpAll H vs (intsD ns)) : vs = ns.map V.int := by
  have z := rp_ints h (ints_whole ns)
  rw [ints_worth] at z
  exact z
/-- the places by people's numbers -/
def plc (ns : List Int) : List Int := (List.range ns.length).map fun i : Nat => ((ns.findIdx (fun y => y == (i : Int)) : Nat) : Int)
theorem plc_len (ns : List Int) : (plc ns).length = ns.length := by unfold plc; rw [List.length_map, List.length_range]
theorem find_at {ns : List Int} (h : isOrderI ns = true) {i : Nat} (hi : i < ns.length) : ∃ hl : ns.findIdx (fun y => y == (i : Int)) < ns.length, ns[ns.findIdx (fun y => y == (i : Int))] = (i : Int) ∧ ∀ m, m < ns.findIdx (fun y => y == (i : Int)) → ∀ z, ns[m]? = some z → (z == (i : Int)) = false := by
  unfold isOrderI at h
  rw [List.all_eq_true] at h
  have hm : (i : Int) ∈ ns := of_decide_eq_true (h i (List.mem_range.mpr hi))
  have hl : ns.findIdx (fun y => y == (i : Int)) < ns.length := List.findIdx_lt_length_of_exists ⟨_, hm, by simp⟩
  refine ⟨hl, by simpa using List.findIdx_getElem (xs := ns) (p := fun y => y == (i : Int)) (w := hl), fun m lm z hz => ?_⟩
  have e := List.not_of_lt_findIdx lm
  obtain ⟨hm2, e2⟩ := List.getElem?_eq_some_iff.mp hz
  rw [e2] at e
  exact e
def barB (ps : List Int) (y o b : Nat) : Bool := (decide ((o : Int) < (b : Int)) && decide ((b : Int) < (y : Int))) && (decide (ps.getD y 0 < ps.getD o 0) && decide (ps.getD o 0 < ps.getD b 0))
def inR (n : Nat) : PyData → Bool
  | .int i => decide (0 ≤ i) && decide (i < (n : Int))
  | _ => false
def barsB (ns : List Int) (t : PyData) : Bool := match rowsD t with
  | some [a, b, c] => (inR ns.length a && inR ns.length b && inR ns.length c) && barB (plc ns) (worth a).toNat (worth b).toNat (worth c).toNat
  | _ => false
def spPeople (P1 : Addr) : Sp := fun vs H Q _ => ∃ v ns, vs = [v] ∧ OrdV H v ns ∧ isOrderI ns = true ∧ ns.length ≤ 60 ∧ GxR.TabG H P1 ∧ ∀ H1 t, Ex H H1 → GxR.TabG H1 P1 → H1 t = none → Q (.ref t) (upd H1 t (.lst (ns.map V.int)))
def spPlaces : Sp := fun vs H Q _ => ∃ (A : Addr) (ns : List Int), vs = [.ref A] ∧ H A = some (.lst (ns.map V.int)) ∧ isOrderI ns = true ∧ ns.length ≤ 60 ∧ ∀ H' t, Same H H' → H t = none → H' t = some (.lst ((plc ns).map V.int)) → Q (.ref t) H'
def spBarIt : Sp := fun vs H Q _ => ∃ (A : Addr) (ps : List Int) (y o b : Nat), vs = [.ref A, .int y, .int o, .int b] ∧ H A = some (.lst (ps.map V.int)) ∧ y < ps.length ∧ o < ps.length ∧ b < ps.length ∧ Q (.bl (barB ps y o b)) H
def spBars (P1 P2 : Addr) : Sp := fun vs H Q _ => ∃ v u ns t, vs = [v, u] ∧ OrdV H v ns ∧ isOrderI ns = true ∧ ns.length ≤ 60 ∧ Rp H u t ∧ GxR.TabG H P1 ∧ GxR.TabG H P2 ∧ ∀ H', Ex H H' → GxR.TabG H' P1 → GxR.TabG H' P2 → Q (.bl (barsB ns t)) H'
theorem index_blk {X : Cx} {s : Shared} {H : Hp} {scope : Scope} {cenv : Env} {fp : List Addr} {o e : Expr} {apos cpos : Pos} {to : TE} {t : TA} (ho : PE (X.blk s H scope cenv fp) o to) (ha : PA (X.blk s H scope cenv fp) [e] t)
    (hbase : attributeBase o "index" (X.blk s H scope cenv fp).env (eval o (X.blk s H scope cenv fp).env) = eval o (X.blk s H scope cenv fp).env := by rfl)
    (hfew : ((backTo cpos (starEach [e] (X.blk s H scope cenv fp).env)).all (fun x => !x.1) && (backToKw cpos (keywordEach [] (X.blk s H scope cenv fp).env)).all (fun x => x.1.isSome)
      && decide ([e].length + ([] : List Keyword).length + (if ([] : List Keyword).isEmpty then 0 else 1) < 30)) = true := by rfl)
    (hline : (apos.endLine == cpos.line) = true := by rfl) (hs : starEach [e] (X.blk s H scope cenv fp).env = (false, eval e (X.blk s H scope cenv fp).env) :: starEach [] (X.blk s H scope cenv fp).env := by rfl) (hplain : (backTo cpos (starEach [] (X.blk s H scope cenv fp).env)).any (·.1) = false := by rfl) :
    PE (X.blk s H scope cenv fp) (.Call (.Attribute o "index" apos) [e] [] cpos) (tBM X.K "list" (rIndex X.K) to t) :=
  pe_bm PySem.F.plainAttrs_list PySem.F.slot_list_index PySem.F.type_list_index mt_index ho ha hbase hfew hline hs hplain
theorem len_gx {X : Cx} {A : Around} {N : List Str} {s : Shared} {H : Hp} {cenv : Env} {fp : List Addr} {pn : List (Addr × Obj)} : CallR (gx X A N s H cenv fp pn) (.builtin "len") (fun xs H Q => ∃ p ys, xs = [.ref p] ∧ (SqL X.K H p ys ∨ SqT X.K H p ys) ∧ Q (.int ys.length) H) := call_len_seq
theorem turn_byV {α : Type} {K : PySem.W.Frag} {ad : Addr} {xs : List V} {J : It} {ζ : L2.St} {g : TG} {tt : TT} {te : TE} {Out : α → V → Hp → (α → Hp → Prop) → Prop} {Fin : α → Hp → Prop} (Pv : α → Nat → Hp → Prop)
    (stands : ∀ a i H, Pv a i H → StandsAs K ad xs J H)
    (step : ∀ a i x H, xs[i]? = some x → Pv a i H → g x ζ H fun σ2 H2 => GV.Keeps ζ σ2 ∧ tt σ2 H2 fun b H3 => if b = true then te σ2 H3 fun y H4 => Out a y H4 (fun a' H' => Pv a' (i + 1) H') else Pv a (i + 1) H3)
    (done : ∀ a H, Pv a xs.length H → Fin a H) : GV.TurnV J ζ g tt te Out Fin (fun a i m H => m = xs.length - i ∧ i ≤ xs.length ∧ Pv a i H) := by
  rintro a i m H ⟨rfl, hi, p⟩
  have s := stands a i H p
  by_cases hlt : i < xs.length
  · refine .inr ⟨s.go (List.getElem?_eq_getElem hlt), fun a' H' => Pv a' (i + 1) H', fun a' H' p' => ⟨xs.length - (i + 1), by omega, rfl, hlt, p'⟩, fun x H' y => ?_⟩
    obtain ⟨rfl, hx⟩ := s.yld y
    exact step a i x _ hx p
  · have e : i = xs.length := by omega
    subst e
    exact .inl ⟨s.stop (Nat.le_refl _), done a H p⟩
theorem nd2 : (["person", "places"] : List Str).Nodup := by decide +kernel
section
variable {P : Program} {w : World} {K : PySem.W.Frag} {mg : Str → Option Value} {base : Heap}
theorem ok_people {f P1 : Addr} {fd : FuncData} (F : Fun K "people_of" "people_of" sPeople f fd) (T : Nm mg) (CI : Cal P w K mg base 4 "is_order" ["thing"] (spIsO P1)) : FnOk P w K mg base CX0 5 f fd ["order"] (spPeople P1) := by
  refine F.ok scPeople (fun vs H Q E ⟨v, ns, e, _⟩ => by rw [e]; rfl) (fun cdv A outer s H vs Q E hr h => ?_)
  obtain ⟨v, ns, rfl, hO, hI, hl, hT, q⟩ := h
  refine ⟨_, pss_cons (ps_if (pt_not (pt_val (pe_cal CI hr (by rfl) (pa_cons (pv 0) pa_nil)))) (pss_one ps_never) pss_nil) (pss_one (ps_ret (pe_callTy call_list_of (by rfl) T.list (by decide +kernel) (pa_cons (pv 0) pa_nil)))), ?_⟩
  obtain ⟨d, hR, hd⟩ := hO.data
  refine ⟨v, rfl, v, d, rfl, hR, hT, fun H1 e1 t1 => ⟨isOrder d, rfl, ?_⟩⟩
  rw [ord_yes hd hI hl]
  obtain ⟨a, xs, rfl, hA, hso⟩ := (Rp.ex e1 d v hR).rows hd
  obtain rfl := rp_ints2 hA
  exact iteF ⟨.ref a, rfl, a, _, rfl, hso.elim (fun z => .inl (SqL.of z)) (fun z => .inr (SqT.of z)), fun t nt => q H1 t e1 t1 nt⟩
theorem ok_places {f : Addr} {fd : FuncData} (F : Fun K "places_of" "places_of" sPlaces f fd) (T : Nm mg) : FnOk P w K mg base CX0 1 f fd ["people"] spPlaces := by
  refine F.ok scPlaces (fun vs H Q E ⟨A, ns, e, _⟩ => by rw [e]; rfl) (fun cdv A' outer s H vs Q E hr h => ?_)
  obtain ⟨A, ns, rfl, eA, hI, hl, q⟩ := h
  have nd := scPlaces.nd
  refine ⟨_, (pss_one (ps_ret (pe_lc (own := [("person", 1)]) (g := (gName 1)) (tt := tYes) rfl nd (pi_range1 (by rfl) T.range (pa_cons (pe_callB call_len_seq (by rfl) T.len PySem.boot_len (pa_cons (pv 0) pa_nil)) pa_nil)) (blkOk_by (own := [("person", 1)]) (N := ["people", "person"]) (sc := defScope sPlaces) (by decide +kernel)) (fun _ _ _ _ _ => (pg_name (i := 1) nd rfl (.inl rfl))) (fun _ _ _ _ _ => pts_nil) (fun _ _ _ _ _ => (index_blk (pv 0) (pa_cons (pv 1) pa_nil)))))), ?_⟩
  refine ⟨.ref A, rfl, A, _, rfl, .inl (SqL.of eA), _, rfl, by rw [List.length_map]; omega, by rw [List.length_map]; omega, fun D nD => ?_⟩
  rw [List.length_map]
  refine lc_range (lo := 0) (n := (ns.length : Int).toNat) (fun i H3 => Same H H3 ∧ ∃ acc, H3 D = some (.lst acc) ∧ acc = ((plc ns).map V.int).take i) ⟨same_upd nD, [], upd_same, rfl⟩ (fun i H3 hi ⟨s3, acc, eD, ha⟩ => ?_) (fun H3 ⟨s3, acc, eD, ha⟩ => ?_)
  · have hi' : i < ns.length := hi
    obtain ⟨hj, ej, no⟩ := find_at hI hi'
    refine ⟨rfl, yesT ?_⟩
    have eA3 := s3 _ _ eA
    refine ⟨.ref A, rfl, .inl ⟨rfl, _, SqL.of eA3⟩, .int (0 + (i : Int)), rfl, A, _, .int (0 + (i : Int)), ns.findIdx (fun y => y == (i : Int)), .int ns[ns.findIdx (fun y => y == (i : Int))], rfl, rfl, SqL.of eA3, rfl, flat_ints ns, by rw [List.getElem?_map, List.getElem?_eq_getElem hj]; rfl, ?_, fun m z lm hz => ?_, acc, eD, ?_, fun b o e => by rw [upd_ne (ne_of_none e nD)]; exact s3 b o e, _, upd_same, ?_⟩
    · rw [ej, Int.zero_add]
      show ((i : Int) == (i : Int)) = true
      simp
    · rw [List.getElem?_map] at hz
      cases z2 : ns[m]? with
      | none => rw [z2] at hz; cases hz
      | some y =>
        rw [z2] at hz
        cases hz
        have := no m lm y z2
        rw [Int.zero_add]
        exact this
    · rw [ha, List.length_take]
      exact small1000 (by omega)
    · rw [ha, List.take_add_one]
      unfold plc
      rw [List.getElem?_map, List.getElem?_map, List.getElem?_range hi']
      rfl
  · have lm : (ns.length : Int).toNat = ns.length := rfl
    rw [lm, List.take_of_length_le (by rw [List.length_map, plc_len]; exact Nat.le_refl _)] at ha
    exact q H3 D s3 nD (by rw [eD, ha])
theorem ok_barIt {f : Addr} {fd : FuncData} (F : Fun K "bar_it" "bar_it" sBarIt f fd) : FnOk P w K mg base CX0 1 f fd ["places", "youngest", "oldest", "between"] spBarIt := by
  refine F.ok scBarIt (fun vs H Q E ⟨A, ps, y, o, b, e, _⟩ => by rw [e]; rfl) (fun cdv A' outer s H vs Q E hr h => ?_)
  obtain ⟨A, ps, y, o, b, rfl, eA, hy, ho, hb, q⟩ := h
  refine ⟨_, (pss_one (ps_ret (pe_and (pe_chain op_lt op_lt (pv 2) (pv 3) (pv 1)) (pe_one (pe_chain op_lt op_lt (pe_ix ix_list (pv 0) (pv 1) (fun _ _ => rfl)) (pe_ix ix_list (pv 0) (pv 2) (fun _ _ => rfl)) (pe_ix ix_list (pv 0) (pv 3) (fun _ _ => rfl))))))), ?_⟩
  have at_ : ∀ {k : Nat}, k < ps.length → (ps.map V.int)[k]? = some (.int (ps.getD k 0)) := fun {k} hk => by rw [List.getElem?_map, List.getElem?_eq_getElem hk, List.getD_eq_getElem?_getD, List.getElem?_eq_getElem hk]; rfl
  have no : ∀ {c : Bool}, barB ps y o b = c → Q (.bl c) H := fun {c} e => by rw [← e]; exact q
  refine ⟨.int o, rfl, .int b, rfl, o, b, rfl, rfl, decide ((o : Int) < b), rfl, ite2 (fun e1 => ?_) (fun e1 => ?_)⟩
  · refine ⟨.int y, rfl, b, y, rfl, rfl, decide ((b : Int) < y), rfl, ite2 (fun e2 => ?_) (fun e2 => ?_)⟩
    · refine ⟨.ref A, rfl, .int y, rfl, A, _, y, _, rfl, rfl, SqL.of eA, atI_nat (at_ hy), .ref A, rfl, .int o, rfl, A, _, o, _, rfl, rfl, SqL.of eA, atI_nat (at_ ho), _, _, rfl, rfl, decide (ps.getD y 0 < ps.getD o 0), rfl, ite2 (fun e3 => ?_) (fun e3 => ?_)⟩
      · refine ⟨.ref A, rfl, .int b, rfl, A, _, b, _, rfl, rfl, SqL.of eA, atI_nat (at_ hb), _, _, rfl, rfl, no ?_⟩
        unfold barB
        rw [e1, e2, e3]
        rfl
      · refine no ?_
        unfold barB
        rw [Bool.eq_false_iff.mpr e3, Bool.false_and, Bool.and_false]
    · refine no ?_
      unfold barB
      rw [Bool.eq_false_iff.mpr e2, Bool.and_false, Bool.false_and]
  · refine ⟨false, rfl, iteF (no ?_)⟩
    unfold barB
    rw [Bool.eq_false_iff.mpr e1, Bool.false_and, Bool.false_and]
end
end CL
set_option Elab.async false
set_option linter.all false
set_option maxRecDepth 100000
set_option maxHeartbeats 4000000
namespace CL
open PySem PySem.Spec PyProof.Rows L2 GE
theorem inR_int {n : Nat} {d : PyData} (h : inR n d = true) : ∃ k : Nat, d = .int (k : Int) ∧ k < n := by
  cases d with
  | int i =>
    have h' : (decide (0 ≤ i) && decide (i < (n : Int))) = true := h
    rw [Bool.and_eq_true] at h'
    have h0 := of_decide_eq_true h'.1
    have h1 := of_decide_eq_true h'.2
    exact ⟨i.toNat, by rw [Int.toNat_of_nonneg h0], by omega⟩
  | _ => exact absurd h Bool.false_ne_true
theorem three_of {α : Type} {xs : List α} (h : xs.length = 3) : ∃ x y z, xs = [x, y, z] := match xs, h with
  | [x, y, z], _ => ⟨x, y, z, rfl⟩
theorem barsB_not {ns : List Int} {d : PyData} {ds : List PyData} (h : rowsD d = some ds) (n : ds.length ≠ 3) : barsB ns d = false := by
  unfold barsB
  rw [h]
  match ds, n with
  | [], _ => rfl
  | [_], _ => rfl
  | [_, _], _ => rfl
  | [_, _, _], n => exact absurd rfl n
  | _ :: _ :: _ :: _ :: _, _ => rfl
section
variable {P : Program} {w : World} {K : PySem.W.Frag} {mg : Str → Option Value} {base : Heap}
theorem ok_bars {f c P1 P2 : Addr} {fd : FuncData} (F : FunC K "bars" "bars" sBars f fd c) (T : Nm mg) (TB : GxR.TabB base mg c P2) (CR : Cal P w K mg base 1 "is_row" ["thing"] (spOne isRow)) (CW : Cal P w K mg base 1 "is_whole" ["thing"] (spOne isWhole))
    (CPe : Cal P w K mg base 5 "people_of" ["order"] (spPeople P1)) (CPl : Cal P w K mg base 1 "places_of" ["people"] spPlaces) (CB : Cal P w K mg base 1 "bar_it" ["places", "youngest", "oldest", "between"] spBarIt) : FnOk P w K mg base CX0 6 f fd ["order", "thing"] (spBars P1 P2) := by
  refine F.ok scBars (fun vs H Q E ⟨v, u, ns, t, e, _⟩ => by rw [e]; rfl) (fun A outer s H vs Q E hr h => ?_)
  obtain ⟨v, u, ns, t, rfl, hO, hI, hl, hR, hT1, hT2, q⟩ := h
  have nd := scBars.nd
  refine ⟨_, pss_cons (ps_set (i := 2) nd rfl (.inr rfl) (pe_cal (CPl.mono (by decide)) hr (by rfl) (pa_cons (pe_cal CPe hr (by rfl) (pa_cons (pv 0) pa_nil)) pa_nil)))
    (pss_cons (ps_if (PW.pt (pw_or (pt_not (pt_val (pe_cal (CR.mono (by decide)) hr (by rfl) (pa_cons (pv 1) pa_nil)))) (pw_or1 (pt_cmpR op_ne (pe_callB call_len_seq (by rfl) T.len PySem.boot_len (pa_cons (pv 1) pa_nil)) pe_int (nomark _))))) (pss_one (ps_ret pe_bl)) pss_nil)
    (pss_cons (ps_if (pt_not (pt_val (GV.pe_allV (caps := [none, some 2]) (N := ["person", "places"]) hr (by rfl) T.all TB rfl (by exact ⟨rfl, rfl, by decide +kernel, rfl, by
        intro y hy e
        simp only [List.mem_cons, List.not_mem_nil, or_false] at hy
        rcases hy with rfl | rfl | rfl | rfl | rfl <;> first
          | exact absurd e (by decide)
          | exact ⟨_, rfl⟩⟩) (by exact ⟨rfl, fun i k h => match i, h with
          | 0, h => by cases h
          | 1, h => by cases h; exact ⟨"places", _, rfl, rfl, rfl, .inl rfl, rfl, rfl⟩
          | n + 2, h => by cases h⟩) (pi_seq (pv 1))
      (fun A s H C code fp pn rY => pg_name (i := 0) nd2 rfl (.inl rfl) (.inr rfl)) (fun A s H C code fp pn rY => pts_nil)
      (fun A s H C code fp pn rY => pe_and (pe_cal (CW.mono (by decide)) rY (by rfl) (pa_cons (pv 0) pa_nil)) (pe_one (pe_chain op_le op_lt pe_int (pv 0) (pe_callB len_gx (by rfl) T.len PySem.boot_len (pa_cons (pv 1) pa_nil)))))))) (pss_one (ps_ret pe_bl)) pss_nil)
    (pss_one (ps_ret (pe_cal (CB.mono (by decide)) hr (by rfl) (pa_cons (pv 2) (pa_cons (pe_ix ix_seq (pv 1) pe_int (fun _ _ => rfl)) (pa_cons (pe_ix ix_seq (pv 1) pe_int (fun _ _ => rfl)) (pa_cons (pe_ix ix_seq (pv 1) pe_int (fun _ _ => rfl)) pa_nil))))))))), ?_⟩
  refine ⟨v, rfl, v, ns, rfl, hO, hI, hl, hT1, fun H1 p e1 t1 np => ?_⟩
  have s1 : Same H1 (upd H1 p (.lst (ns.map V.int))) := same_upd np
  have ep : (upd H1 p (.lst (ns.map V.int))) p = some (.lst (ns.map V.int)) := upd_same
  generalize upd H1 p (.lst (ns.map V.int)) = H2 at s1 ep
  refine ⟨p, ns, rfl, ep, hI, hl, fun H3 D s3 nD eD => ?_⟩
  have e13 := Ex.of (s1.trans s3)
  have e3 := e1.trans e13
  have tb1 := tabG_same (s1.trans s3) t1
  have tb2 := tabG_ex hT2 e3
  have at_ : ∀ {H5 : Hp} {b : Bool}, Ex H H5 → GxR.TabG H5 P1 → GxR.TabG H5 P2 → barsB ns t = b → Q (.bl b) H5 := fun {H5 b} e t1 t2 z => by
    have q' := q H5 e t1 t2
    rw [z] at q'
    exact q'
  have hR3 := Rp.ex e3 _ _ hR
  refine ⟨u, rfl, u, t, rfl, hR3, fun H4 s4 => ⟨isRow t, rfl, ?_⟩⟩
  have e4 := e3.trans (Ex.of s4)
  have tc1 := tabG_same s4 tb1
  have tc2 := tabG_same s4 tb2
  have eD4 := s4 _ _ eD
  cases hds : rowsD t with
  | none =>
    have e0 : isRow t = false := by unfold isRow; rw [hds]; rfl
    rw [e0]
    exact iteT (iteT (at_ e4 tc1 tc2 (by unfold barsB; rw [hds])))
  | some ds =>
    have e0 : isRow t = true := by unfold isRow; rw [hds]; rfl
    rw [e0]
    obtain ⟨b, xs, rfl, hA, hso⟩ := (Rp.sm s4 hR3).rows hds
    have hst : StSeq H4 b xs := ⟨hso⟩
    have hlen := hA.length
    refine iteF ⟨.ref b, rfl, b, xs, rfl, hst.sq, rfl, _, rfl, ite2 (fun e5 => ?_) (fun e5 => ?_)⟩
    · refine at_ e4 tc1 tc2 (barsB_not hds fun z => ?_)
      rw [hlen, z] at e5
      simp at e5
    · have l3 : ds.length = 3 := by
        rw [hlen] at e5
        have : (ds.length : Int) = 3 := by simpa using e5
        omega
      refine ⟨.ref b, rfl, b, xs, rfl, hst, fun J hJ => ⟨tc2, fun H5 tb => ⟨_, ⟨xs.length, rfl, Nat.zero_le _, ex_tabbed tc2 tb, tb.1, rfl⟩, turn_byV (xs := xs) (fun _ i H => Ex H4 H ∧ GxR.TabG H P2 ∧ (ds.take i).all (inR ns.length) = true)
          (fun _ i H ⟨eH, _, _⟩ => hJ H eH) (fun _ i x H hx ⟨eH, tH, aH⟩ => ?_) (fun _ H ⟨eH, tH, aH⟩ => ?_)⟩⟩⟩
      · obtain ⟨dx, hdx, hRx⟩ := hA.get hx
        have lD : ((plc ns).map V.int).length = ns.length := by rw [List.length_map, plc_len]
        have bad : ∀ {G : Hp}, Ex H4 G → GxR.TabG G P2 → inR ns.length dx = false → Q (.bl false) G := fun {G} eG tG z => by
          refine at_ (e4.trans eG) (tabG_ex tc1 eG) tG ?_
          unfold barsB
          rw [hds]
          obtain ⟨d0, d1, d2, rfl⟩ := three_of l3
          have z3 := all_false hdx z
          simp only [List.all_cons, List.all_nil, Bool.and_true] at z3
          show (inR ns.length d0 && inR ns.length d1 && inR ns.length d2 && _) = false
          rw [Bool.and_assoc (inR ns.length d0) (inR ns.length d1) (inR ns.length d2), z3, Bool.false_and]
        refine ⟨fun j v hj => ?_, ?_⟩
        · cases j with
          | zero => cases hj
          | succ j => exact hj
        refine yesT ?_
        refine ⟨x, rfl, x, dx, rfl, Rp.ex eH dx x hRx, fun H6 s6 => ⟨isWhole dx, rfl, ite2 (fun e6 => ?_) (fun e6 => ?_)⟩⟩
        · have eD6 := s6 _ _ (eH.lst eD4)
          cases dx with
          | int k =>
            cases hRx
            refine ⟨.int k, rfl, 0, k, rfl, rfl, decide (0 ≤ k), rfl, ite2 (fun e7 => ?_) (fun e7 => ?_)⟩
            · refine ⟨.ref D, rfl, D, _, rfl, .inl (SqL.of eD6), k, _, rfl, rfl, decide (k < (((plc ns).map V.int).length : Int)), rfl, ite2 (fun e8 => ?_) (fun e8 => ?_)⟩
              · refine ⟨eH.trans (Ex.of s6), tabG_same s6 tH, ?_⟩
                rw [all_take hdx, aH]
                show (true && (decide (0 ≤ k) && decide (k < (ns.length : Int)))) = true
                rw [lD] at e8
                rw [e7, e8]
                rfl
              · refine ⟨false, rfl, iteT (bad (eH.trans (Ex.of s6)) (tabG_same s6 tH) ?_)⟩
                show (decide (0 ≤ k) && decide (k < (ns.length : Int))) = false
                rw [lD] at e8
                rw [Bool.eq_false_iff.mpr e8, Bool.and_false]
            · refine ⟨false, rfl, iteF ⟨false, rfl, iteT (bad (eH.trans (Ex.of s6)) (tabG_same s6 tH) ?_)⟩⟩
              show (decide (0 ≤ k) && decide (k < (ns.length : Int))) = false
              rw [Bool.eq_false_iff.mpr e7, Bool.false_and]
          | _ => exact absurd e6 Bool.false_ne_true
        · refine ⟨false, rfl, iteF ⟨false, rfl, iteT (bad (eH.trans (Ex.of s6)) (tabG_same s6 tH) ?_)⟩⟩
          cases dx with
          | int k => exact absurd rfl e6
          | _ => rfl
      · rw [hlen, List.take_length] at aH
        obtain ⟨d0, d1, d2, rfl⟩ := three_of l3
        simp only [List.all_cons, List.all_nil, Bool.and_true, Bool.and_eq_true] at aH
        obtain ⟨k0, rfl, h0⟩ := inR_int aH.1
        obtain ⟨k1, rfl, h1⟩ := inR_int aH.2.1
        obtain ⟨k2, rfl, h2⟩ := inR_int aH.2.2
        obtain rfl : xs = [.int (k0 : Int), .int (k1 : Int), .int (k2 : Int)] := by
          cases hA with
          | cons a1 r1 =>
            cases r1 with
            | cons a2 r2 =>
              cases r2 with
              | cons a3 r3 =>
                cases r3
                cases a1
                cases a2
                cases a3
                rfl
        have hst5 := hst.ex eH
        have eD5 := eH.lst eD4
        refine ⟨true, rfl, iteF ⟨.ref D, rfl, .ref b, rfl, rix_of (i := 0) hst5 rfl ⟨.ref b, rfl, rix_of (i := 1) hst5 rfl ⟨.ref b, rfl, rix_of (i := 2) hst5 rfl ⟨D, plc ns, k0, k1, k2, rfl, eD5, by rw [plc_len]; exact h0, by rw [plc_len]; exact h1, by rw [plc_len]; exact h2, ?_⟩⟩⟩⟩⟩
        refine at_ (e4.trans eH) (tabG_ex tc1 eH) tH ?_
        unfold barsB
        rw [hds]
        show (inR ns.length (.int k0) && inR ns.length (.int k1) && inR ns.length (.int k2) && barB (plc ns) k0 k1 k2) = barB (plc ns) k0 k1 k2
        rw [aH.1, aH.2.1, aH.2.2]
        rfl
end
end CL
set_option Elab.async false
set_option linter.all false
set_option maxRecDepth 100000
set_option maxHeartbeats 4000000
namespace CL
open PySem PySem.Spec PyProof.Rows L2 GE
abbrev sBarring : Stmt := topS 28
abbrev nBarring : List Str := ["order", "places", "youngest", "oldest", "between"]
theorem scBarring : FnScope nBarring ["order"] (defScope sBarring) := ⟨rfl, rfl, rfl, by decide +kernel, rfl, by decide +kernel, by decide +kernel⟩
/-- the least three that bar, as three numbers -/
abbrev T3 := Nat × Nat × Nat
def Fst (ps : List Int) (n : Nat) : Option T3 → Prop
  | none => ∀ y o b, y < n → o < y → o < b → b < y → barB ps y o b = false
  | some (y, o, b) => (y < n ∧ o < y ∧ o < b ∧ b < y) ∧ barB ps y o b = true ∧ (∀ y' o' b', y' < y → o' < y' → o' < b' → b' < y' → barB ps y' o' b' = false) ∧ (∀ o' b', o' < o → o' < b' → b' < y → barB ps y o' b' = false) ∧ ∀ b', o < b' → b' < b → barB ps y o b' = false
theorem ff {b : Bool} {p : Prop} (h : b = false) (h' : b = true) : p := by rw [h] at h'; cases h'
theorem Fst.uniq {ps : List Int} {n : Nat} : ∀ {t t' : Option T3}, Fst ps n t → Fst ps n t' → t = t'
  | none, none, _, _ => rfl
  | none, some (y, o, b), h, h' => ff (h y o b h'.1.1 h'.1.2.1 h'.1.2.2.1 h'.1.2.2.2) h'.2.1
  | some (y, o, b), none, h', h => ff (h y o b h'.1.1 h'.1.2.1 h'.1.2.2.1 h'.1.2.2.2) h'.2.1
  | some (y, o, b), some (y', o', b'), ⟨⟨a1, a2, a3, a4⟩, a5, a6, a7, a8⟩, ⟨⟨c1, c2, c3, c4⟩, c5, c6, c7, c8⟩ => by
    obtain rfl : y = y' := by
      rcases Nat.lt_trichotomy y y' with h | h | h
      · exact ff (c6 y o b h a2 a3 a4) a5
      · exact h
      · exact ff (a6 y' o' b' h c2 c3 c4) c5
    obtain rfl : o = o' := by
      rcases Nat.lt_trichotomy o o' with h | h | h
      · exact ff (c7 o b h a3 a4) a5
      · exact h
      · exact ff (a7 o' b' h c3 c4) c5
    obtain rfl : b = b' := by
      rcases Nat.lt_trichotomy b b' with h | h | h
      · exact ff (c8 b a3 h) a5
      · exact h
      · exact ff (a8 b' c3 h) c5
    rfl
def tD : Option T3 → PyData
  | none => .none
  | some (y, o, b) => .tuple [.int (y : Int), .int (o : Int), .int (b : Int)]
def spBarring (P1 : Addr) : Sp := fun vs H Q _ => ∃ v ns, vs = [v] ∧ OrdV H v ns ∧ isOrderI ns = true ∧ ns.length ≤ 60 ∧ GxR.TabG H P1 ∧ ∀ t v' H', Fst (plc ns) ns.length t → Ex H H' → GxR.TabG H' P1 → Rp H' v' (tD t) → Q v' H'
section
variable {P : Program} {w : World} {K : PySem.W.Frag} {mg : Str → Option Value} {base : Heap}
theorem ok_barring {f P1 : Addr} {fd : FuncData} (F : Fun K "barring" "barring" sBarring f fd) (T : Nm mg)
    (CPe : Cal P w K mg base 5 "people_of" ["order"] (spPeople P1)) (CPl : Cal P w K mg base 1 "places_of" ["people"] spPlaces) (CB : Cal P w K mg base 1 "bar_it" ["places", "youngest", "oldest", "between"] spBarIt) : FnOk P w K mg base CX0 6 f fd ["order"] (spBarring P1) := by
  refine F.ok scBarring (fun vs H Q E ⟨v, ns, e, _⟩ => by rw [e]; rfl) (fun cdv A outer s H vs Q E hr h => ?_)
  obtain ⟨v, ns, rfl, hO, hI, hl, hT1, q⟩ := h
  have nd := scBarring.nd
  refine ⟨_, (pss_cons (ps_set (i := 1) nd rfl (.inl rfl) (pe_cal (CPl.mono (by decide)) hr (by rfl) (pa_cons (pe_cal CPe hr (by rfl) (pa_cons (pv 0) pa_nil)) pa_nil)))
      (pss_cons (ps_for PassesOwn.never rfl (pi_range1 (by rfl) T.range (pa_cons (pe_callB call_len_seq (by rfl) T.len PySem.boot_len (pa_cons (pv 1) pa_nil)) pa_nil)) (pg_name (i := 2) nd rfl (.inl rfl)) (pss_one (ps_for PassesOwn.never rfl (pi_range1 (by rfl) T.range (pa_cons (pv 2) pa_nil)) (pg_name (i := 3) nd rfl (.inl rfl)) (pss_one (ps_for PassesOwn.never rfl (pi_range2 (by rfl) T.range (pa_cons (pe_op op_add (pv 3) pe_int) (pa_cons (pv 2) pa_nil))) (pg_name (i := 4) nd rfl (.inl rfl)) (pss_one (ps_if (pt_val (pe_cal (CB.mono (by decide)) hr (by rfl) (pa_cons (pv 1) (pa_cons (pv 2) (pa_cons (pv 3) (pa_cons (pv 4) pa_nil)))))) (pss_one (ps_ret (pe_tup (pa_cons (pv 2) (pa_cons (pv 3) (pa_cons (pv 4) pa_nil)))))) pss_nil)))))))
      (pss_one (ps_ret pe_non)))), ?_⟩
  refine ⟨v, rfl, v, ns, rfl, hO, hI, hl, hT1, fun H1 p e1 t1 np => ?_⟩
  have s1 : Same H1 (upd H1 p (.lst (ns.map V.int))) := same_upd np
  have ep : (upd H1 p (.lst (ns.map V.int))) p = some (.lst (ns.map V.int)) := upd_same
  generalize upd H1 p (.lst (ns.map V.int)) = H2 at s1 ep
  refine ⟨p, ns, rfl, ep, hI, hl, fun H3 D s3 nD eD => ?_⟩
  have e3 := e1.trans (Ex.of (s1.trans s3))
  have t3 := tabG_same (s1.trans s3) t1
  have lp := plc_len ns
  have lm : ((plc ns).map V.int).length = ns.length := by rw [List.length_map, lp]
  generalize hps : plc ns = ps at *
  show tSeq _ _ _ [some v, some (.ref D), none, none, none] H3
  refine ⟨.ref D, rfl, D, _, rfl, .inl (SqL.of eD), (ns.length : Int), by rw [lm], by omega, by omega, ?_⟩
  have lz : ((ns.length : Int)).toNat = ns.length := rfl
  refine for_range (lo := 0) (n := ((ns.length : Int)).toNat) (fun i σ H4 => H4 = H3 ∧ (∃ y2 y3 y4, σ = [some v, some (.ref D), y2, y3, y4]) ∧ ∀ y o b, y < i → o < y → o < b → b < y → barB ps y o b = false)
    ⟨rfl, ⟨_, _, _, rfl⟩, fun y o b h => absurd h (Nat.not_lt_zero _)⟩ (fun i σ H4 hi ⟨eH, ⟨y2, y3, y4, eσ⟩, hy⟩ => ?_) (fun σ H4 ⟨eH, ⟨y2, y3, y4, eσ⟩, hy⟩ => ?_)
  · subst eH eσ
    have hi : i < ns.length := hi
    rw [Int.zero_add]
    show tFor _ _ _ _ [some v, some (.ref D), some (.int (i : Int)), y3, y4] H4
    refine ⟨.int (i : Int), rfl, (i : Int), rfl, by omega, by omega, ?_⟩
    refine for_range (lo := 0) (n := ((i : Int)).toNat) (fun j σ H5 => H5 = H4 ∧ (∃ y3 y4, σ = [some v, some (.ref D), some (.int (i : Int)), y3, y4]) ∧ ∀ o b, o < j → o < b → b < i → barB ps i o b = false)
      ⟨rfl, ⟨_, _, rfl⟩, fun o b h => absurd h (Nat.not_lt_zero _)⟩ (fun j σ H5 hj ⟨eH, ⟨y3, y4, eσ⟩, ho⟩ => ?_) (fun σ H5 ⟨eH, ⟨y3, y4, eσ⟩, ho⟩ => ?_)
    · subst eH eσ
      have hj : j < i := hj
      rw [Int.zero_add]
      show tFor _ _ _ _ [some v, some (.ref D), some (.int (i : Int)), some (.int (j : Int)), y4] H5
      refine ⟨.int (j : Int), rfl, (j : Int), 1, rfl, rfl, .int (i : Int), rfl, (j : Int) + 1, (i : Int), rfl, ⟨by omega, by omega, by omega, by omega⟩, ?_⟩
      refine for_range (lo := (j : Int) + 1) (n := ((i : Int) - ((j : Int) + 1)).toNat) (fun k σ H6 => H6 = H5 ∧ (∃ y4, σ = [some v, some (.ref D), some (.int (i : Int)), some (.int (j : Int)), y4]) ∧ ∀ b, j < b → b < j + 1 + k → barB ps i j b = false)
        ⟨rfl, ⟨_, rfl⟩, fun b h1 h2 => by omega⟩ (fun k σ H6 hk ⟨eH, ⟨y4, eσ⟩, hb⟩ => ?_) (fun σ H6 ⟨eH, ⟨y4, eσ⟩, hb⟩ => ?_)
      · subst eH eσ
        have hk : j + 1 + k < i := by omega
        rw [show (j : Int) + 1 + (k : Int) = ((j + 1 + k : Nat) : Int) by omega]
        show tIfS _ _ _ _ [some v, some (.ref D), some (.int (i : Int)), some (.int (j : Int)), some (.int ((j + 1 + k : Nat) : Int))] H6
        refine ⟨.ref D, rfl, .int (i : Int), rfl, .int (j : Int), rfl, .int ((j + 1 + k : Nat) : Int), rfl, D, ps, i, j, j + 1 + k, rfl, eD, by omega, by omega, by omega, barB ps i j (j + 1 + k), rfl, ite2 (fun z => ?_) (fun z => ?_)⟩
        · refine ⟨.int (i : Int), rfl, .int (j : Int), rfl, .int ((j + 1 + k : Nat) : Int), rfl, small_le (by show 3 ≤ 1000; decide), fun p2 np2 => ?_⟩
          exact q (some (i, j, j + 1 + k)) (.ref p2) _ ⟨⟨hi, hj, by omega, hk⟩, z, hy, ho, fun b' h1 h2 => hb b' h1 h2⟩ (e3.trans (Ex.new np2)) (tabG_same (same_upd np2) t3) (.tup upd_same (.cons (.int _) (.cons (.int _) (.cons (.int _) .nil))))
        · exact ⟨rfl, ⟨_, rfl⟩, fun b h1 h2 => by
            by_cases h3 : b = j + 1 + k
            · rw [h3]; exact Bool.eq_false_iff.mpr z
            · exact hb b h1 (by omega)⟩
      · subst eH eσ
        exact ⟨rfl, ⟨_, _, rfl⟩, fun o b h1 h2 h3 => by
          by_cases h4 : o = j
          · rw [h4] at h2 ⊢; exact hb b h2 (by omega)
          · exact ho o b (by omega) h2 h3⟩
    · subst eH eσ
      have : ((i : Int)).toNat = i := rfl
      exact ⟨rfl, ⟨_, _, _, rfl⟩, fun y o b h1 h2 h3 h4 => by
        by_cases h5 : y = i
        · rw [h5] at h2 h4 ⊢; exact ho o b (by omega) h3 h4
        · exact hy y o b (by omega) h2 h3 h4⟩
  · subst eH eσ
    exact q none .non H4 hy e3 t3 .non
end
end CL
set_option Elab.async false
set_option linter.all false
set_option maxRecDepth 100000
set_option maxHeartbeats 4000000
namespace CL
open PySem PySem.Spec PyProof.Rows L2 GE
theorem seq_mk {A B : TS} {D : Ends} {σ : L2.St} {H : Hp} (h : ∀ nx : L2.St → Hp → Prop, (∀ σ' H', B D σ' H' → nx σ' H') → A { D with nx := nx } σ H) : tSeq A B D σ H := h (B D) fun _ _ z => z
theorem dget_blk {X : Cx} {s : Shared} {H : Hp} {scope : Scope} {cenv : Env} {fp : List Addr} {o i : Expr} {td ty : TE} {pos : Pos} (hu : X.A.units + 1 < cLine) (ho : PE (X.blk s H scope cenv fp) o td) (hi : PE (X.blk s H scope cenv fp) i ty) (hs : NoSl i) : PE (X.blk s H scope cenv fp) (.Subscript o i pos) (tDGet td ty) := pe_dget hu ho hi hs
theorem ord_perm {ns : List Int} (h : isOrderI ns = true) : ns.Perm (up ns.length) := by
  unfold isOrderI at h
  rw [List.all_eq_true] at h
  exact perm_of_sub (up_nodup _) (fun x hx => by
    obtain ⟨i, hi, rfl⟩ := up_mem.mp hx
    exact of_decide_eq_true (h i (List.mem_range.mpr hi))) (by rw [up_len]; exact Nat.le_refl _)
theorem plc_at {ns : List Int} {i : Nat} (hi : i < ns.length) : (plc ns).getD i 0 = ((ns.findIdx (fun y => y == (i : Int)) : Nat) : Int) := by
  unfold plc
  rw [List.getD_eq_getElem?_getD, List.getElem?_map, List.getElem?_range hi]
  rfl
theorem ord_nodup {ns : List Int} (h : isOrderI ns = true) : ns.Nodup := (ord_perm h).nodup_iff.mpr (up_nodup _)
theorem barB_in {ps : List Int} {y o b : Nat} (h1 : o < b) (h2 : b < y) : barB ps y o b = (decide (ps.getD y 0 < ps.getD o 0) && decide (ps.getD o 0 < ps.getD b 0)) := by
  unfold barB
  rw [decide_eq_true (by omega : (o : Int) < (b : Int)), decide_eq_true (by omega : (b : Int) < (y : Int))]
  rfl
/-- whether any three bar -/
def anyBar (ps : List Int) (n : Nat) : Bool := (List.range n).any fun y => (List.range y).any fun o => (List.range y).any fun b => decide (o < b) && barB ps y o b
theorem anyBar_yes {ps : List Int} {n y o b : Nat} (h1 : y < n) (h2 : o < y) (h3 : o < b) (h4 : b < y) (h : barB ps y o b = true) : anyBar ps n = true := by
  unfold anyBar
  refine List.any_eq_true.mpr ⟨y, List.mem_range.mpr h1, List.any_eq_true.mpr ⟨o, List.mem_range.mpr h2, List.any_eq_true.mpr ⟨b, List.mem_range.mpr h4, ?_⟩⟩⟩
  rw [decide_eq_true h3, h]
  rfl
theorem anyBar_no {ps : List Int} {n : Nat} (h : ∀ y o b, y < n → o < y → o < b → b < y → barB ps y o b = false) : anyBar ps n = false := by
  cases e : anyBar ps n with
  | false => rfl
  | true =>
    unfold anyBar at e
    obtain ⟨y, hy, e⟩ := List.any_eq_true.mp e
    obtain ⟨o, ho, e⟩ := List.any_eq_true.mp e
    obtain ⟨b, hb, e⟩ := List.any_eq_true.mp e
    rw [Bool.and_eq_true] at e
    exact ff (h y o b (List.mem_range.mp hy) (List.mem_range.mp ho) (of_decide_eq_true e.1) (List.mem_range.mp hb)) e.2
theorem Fst.any {ps : List Int} {n : Nat} : ∀ {t : Option T3}, Fst ps n t → t.isSome = anyBar ps n
  | none, h => (anyBar_no h).symm
  | some (y, o, b), ⟨⟨h1, h2, h3, h4⟩, h5, _⟩ => (anyBar_yes h1 h2 h3 h4 h5).symm
end CL
set_option Elab.async false
set_option linter.all false
set_option maxRecDepth 100000
set_option maxHeartbeats 4000000
namespace CL
open PySem PySem.Spec PyProof.Rows L2 GE
abbrev sLeast : Stmt := topS 30
abbrev nLeast : List Str := ["order", "people", "places", "person", "later"]
theorem scLeast : FnScope nLeast ["order"] (defScope sLeast) := ⟨rfl, rfl, rfl, by decide +kernel, rfl, by decide +kernel, by decide +kernel⟩
theorem cutTo_blk {X : Cx} {s : Shared} {H : Hp} {scope : Scope} {cenv : Env} {fp : List Addr} {e h : Expr} {te th : TE} {pos p2 : Pos} (he : PE (X.blk s H scope cenv fp) e te) (hh : PE (X.blk s H scope cenv fp) h th) : PE (X.blk s H scope cenv fp) (.Subscript e (.Slice none (some h) none p2) pos) (tSl (rSlL X.K) te tNoPart (tPart th)) := pe_slice sl_list he po_none (po_some hh)
theorem piList_blk {X : Cx} {s : Shared} {H : Hp} {scope : Scope} {cenv : Env} {fp : List Addr} {tg l : Expr} {tl : TE} (hl : PE (X.blk s H scope cenv fp) l tl) : PI (X.blk s H scope cenv fp) tg l (iList X.K tl) := pi_list hl
theorem ixAt_blk {X : Cx} {s : Shared} {H : Hp} {scope : Scope} {cenv : Env} {fp : List Addr} {a b : Expr} {ta tb : TE} {pos : Pos} (ha : PE (X.blk s H scope cenv fp) a ta) (hb : PE (X.blk s H scope cenv fp) b tb) (hs : PlainIx b) : PE (X.blk s H scope cenv fp) (.Subscript a b pos) (tOp (rIxL X.K) ta tb) := pe_ix ix_list ha hb hs
/-- how many later ones stand ahead of somebody -/
def cntF (ns : List Int) (k i : Nat) : Nat := ((ns.take k).filter fun z => decide ((i : Int) < z)).length
def leastF (ns : List Int) : List Int := (List.range ns.length).map fun i : Nat => (cntF ns (ns.findIdx (fun y => y == (i : Int))) i : Int)
theorem leastF_len (ns : List Int) : (leastF ns).length = ns.length := by unfold leastF; rw [List.length_map, List.length_range]
theorem leastF_in {ns : List Int} {x : Int} (h : x ∈ leastF ns) : 0 ≤ x ∧ x ≤ (ns.length : Int) := by
  unfold leastF at h
  obtain ⟨i, _, rfl⟩ := List.mem_map.mp h
  have : cntF ns (ns.findIdx (fun y => y == (i : Int))) i ≤ ns.length := by
    unfold cntF
    refine Nat.le_trans (List.length_filter_le _ _) ?_
    rw [List.length_take]
    omega
  omega
/-- least patiences: none where three bar, else these numbers, one for each -/
def LeastR (H0 H' : Hp) (v' : V) (ns : List Int) (t : Option T3) : Prop := (t ≠ none → v' = .non) ∧ (t = none → ∃ (p : Addr), v' = .ref p ∧ H0 p = none ∧ H' p = some (.lst ((leastF ns).map V.int)))
def spLeast (P1 : Addr) : Sp := fun vs H Q _ => ∃ v ns, vs = [v] ∧ OrdV H v ns ∧ isOrderI ns = true ∧ ns.length ≤ 60 ∧ GxR.TabG H P1 ∧ ∀ t v' H', Fst (plc ns) ns.length t → Ex H H' → GxR.TabG H' P1 → LeastR H H' v' ns t → Q v' H'
theorem plc_lt {ns : List Int} (h : isOrderI ns = true) {x : Int} (hx : x ∈ plc ns) : ∃ k : Nat, x = (k : Int) ∧ k < ns.length := by
  unfold plc at hx
  obtain ⟨i, hi, rfl⟩ := List.mem_map.mp hx
  exact ⟨_, rfl, (find_at h (List.mem_range.mp hi)).1⟩
section
variable {P : Program} {w : World} {K : PySem.W.Frag} {mg : Str → Option Value} {base : Heap}
theorem ok_least {f P1 : Addr} {fd : FuncData} (F : Fun K "least_patiences" "least_patiences" sLeast f fd) (T : Nm mg)
    (CPe : Cal P w K mg base 5 "people_of" ["order"] (spPeople P1)) (CPl : Cal P w K mg base 1 "places_of" ["people"] spPlaces) (CBa : Cal P w K mg base 6 "barring" ["order"] (spBarring P1)) : FnOk P w K mg base CX0 7 f fd ["order"] (spLeast P1) := by
  refine F.ok scLeast (fun vs H Q E ⟨v, ns, e, _⟩ => by rw [e]; rfl) (fun cdv A outer s H vs Q E hr h => ?_)
  obtain ⟨v, ns, rfl, hO, hI, hl, hT1, q⟩ := h
  have nd := scLeast.nd
  refine ⟨_, (pss_cons (ps_set (i := 1) nd rfl (.inr rfl) (pe_cal (CPe.mono (by decide)) hr (by rfl) (pa_cons (pv 0) pa_nil)))
      (pss_cons (ps_if (pt_cmp (pc_notN (pe_cal CBa hr (by rfl) (pa_cons (pv 1) pa_nil)))) (pss_one (ps_ret pe_non)) pss_nil)
      (pss_cons (ps_set (i := 2) nd rfl (.inr rfl) (pe_cal (CPl.mono (by decide)) hr (by rfl) (pa_cons (pv 1) pa_nil)))
      (pss_one (ps_ret (pe_lc (own := [("person", 3)]) (g := (gName 3)) (tt := tYes) rfl nd (pi_range1 (by rfl) T.range (pa_cons (pe_callB call_len_seq (by rfl) T.len PySem.boot_len (pa_cons (pv 1) pa_nil)) pa_nil)) (blkOk_by (own := [("person", 3)]) (N := nLeast) (sc := (defScope sLeast)) (by decide +kernel)) (fun _ _ _ _ _ => (pg_name (i := 3) nd rfl (.inr rfl))) (fun _ _ _ _ _ => pts_nil) (fun _ _ _ _ _ => (pe_callB len_blk (by rfl) T.len PySem.boot_len (pa_cons (pe_lc (own := [("later", 4)]) (g := (gName 4)) rfl nd (piList_blk (cutTo_blk (pv 1) (ixAt_blk (pv 2) (pv 3) (fun _ _ => rfl)))) (blkOk_by (own := [("later", 4)]) (N := nLeast) (by rfl)) (fun _ _ _ _ _ => (pg_name (i := 4) nd rfl (.inl rfl))) (fun _ _ _ _ _ => pts_one (pt_cmpR op_gt (pv 4) (pv 3) (nomark _))) (fun _ _ _ _ _ => (pv 4))) pa_nil))))))))), ?_⟩
  refine ⟨v, rfl, v, ns, rfl, hO, hI, hl, hT1, fun H1 p e1 t1 np => ?_⟩
  have s1 : Same H1 (upd H1 p (.lst (ns.map V.int))) := same_upd np
  have ep : (upd H1 p (.lst (ns.map V.int))) p = some (.lst (ns.map V.int)) := upd_same
  have e2 := e1.trans (Ex.of s1)
  have t2 := tabG_same s1 t1
  generalize upd H1 p (.lst (ns.map V.int)) = H2 at s1 ep e2 t2
  have oV : OrdV H2 (.ref p) ns := .inl (.lst ep (rp_intsA ns))
  refine ⟨.ref p, rfl, .ref p, ns, rfl, oV, hI, hl, t2, fun t v' H3 hF e3 t3 rp => ?_⟩
  have e03 := e2.trans e3
  have ep3 := e3.lst ep
  cases t with
  | some tt =>
    obtain ⟨y, o, b⟩ := tt
    have hv : v' ≠ .non := fun z => by rw [z] at rp; cases rp
    refine ⟨_, rfl, ?_⟩
    rw [decide_eq_false hv]
    exact iteT (q _ .non H3 hF e03 t3 ⟨fun _ => rfl, fun z => nomatch z⟩)
  | none =>
    cases rp
    refine ⟨_, rfl, iteF ?_⟩
    refine ⟨.ref p, rfl, p, ns, rfl, ep3, hI, hl, fun H4 D s4 nD eD => ?_⟩
    have ep4 := s4 _ _ ep3
    have e04 := e03.trans (Ex.of s4)
    have t4 := tabG_same s4 t3
    have lp := plc_len ns
    have hpl : ∀ i (hi : i < (plc ns).length), (plc ns)[i] = ((ns.findIdx (fun y => y == (i : Int)) : Nat) : Int) := fun i hi => by
      have e := plc_at (ns := ns) (i := i) (by rw [← lp]; exact hi)
      rw [List.getD_eq_getElem?_getD, List.getElem?_eq_getElem hi] at e
      exact e
    have hkk : ∀ i, i < ns.length → ns.findIdx (fun y => y == (i : Int)) < ns.length := fun i hi => (find_at hI hi).1
    generalize hps : plc ns = ps at *
    have lm : (ns.map V.int).length = ns.length := List.length_map ..
    refine ⟨.ref p, rfl, p, _, rfl, .inl (SqL.of ep4), (ns.length : Int), by rw [lm], by omega, by omega, fun L nL => ?_⟩
    refine lc_range (lo := 0) (n := ((ns.length : Int)).toNat) (fun i H5 => Same H4 H5 ∧ H5 L = some (.lst (((leastF ns).take i).map V.int)))
      ⟨same_upd nL, upd_same⟩ (fun i H5 hi ⟨s5, eL⟩ => ?_) (fun H5 ⟨s5, eL⟩ => ?_)
    · have hi : i < ns.length := hi
      have hip : i < ps.length := by omega
      rw [Int.zero_add]
      refine ⟨rfl, yesT ?_⟩
      have hk := hpl i hip
      have hkl := hkk i hi
      have hle : (leastF ns)[i]? = some (cntF ns (ns.findIdx (fun y => y == (i : Int))) i : Int) := by
        unfold leastF
        rw [List.getElem?_map, List.getElem?_range hi]
        rfl
      generalize ns.findIdx (fun y => y == (i : Int)) = k at hk hkl hle
      have ep5 := s5 _ _ ep4
      have eD5 := s5 _ _ eD
      refine ⟨.ref p, rfl, .ref D, rfl, .int (i : Int), rfl, D, _, (i : Int), .int (k : Int), rfl, rfl, SqL.of eD5, atI_nat (by rw [List.getElem?_map, List.getElem?_eq_getElem hip, hk]; rfl), k, rfl, p, _, rfl, SqL.of ep5, fun M nM => ?_⟩
      rw [cut_to]
      have s6 : Same H5 (upd H5 M (.lst ((ns.map V.int).take k))) := same_upd nM
      have e6 : (upd H5 M (.lst ((ns.map V.int).take k))) M = some (.lst ((ns.map V.int).take k)) := upd_same
      generalize upd H5 M (.lst ((ns.map V.int).take k)) = H6 at s6 e6
      refine ⟨M, rfl, ⟨_, SqL.of e6⟩, fun N nN => ?_⟩
      refine lc_list (xs := (ns.map V.int).take k) (fun j H7 => Same H6 H7 ∧ ∃ acc, H7 N = some (.lst acc) ∧ acc.length = (((ns.take k).take j).filter fun z => decide ((i : Int) < z)).length)
        ⟨same_upd nN, [], upd_same, rfl⟩ (fun j H7 _ ⟨s7, _⟩ => SqL.of (s7 _ _ e6)) (fun j x H7 hx ⟨s7, acc, eN, la⟩ => ?_) (fun H7 ⟨s7, acc, eN, la⟩ => ?_)
      · have hj : j < (ns.take k).length := by
          have := (List.getElem?_eq_some_iff.mp hx).1
          rw [← List.map_take, List.length_map] at this
          exact this
        obtain ⟨z, hz, rfl⟩ : ∃ z, (ns.take k)[j]? = some z ∧ x = V.int z := by
          rw [← List.map_take, List.getElem?_map, List.getElem?_eq_getElem hj] at hx
          exact ⟨_, List.getElem?_eq_getElem hj, (Option.some.inj hx).symm⟩
        have hl2 : acc.length ≤ j := by
          rw [la]
          refine Nat.le_trans (List.length_filter_le _ _) ?_
          rw [List.length_take]
          omega
        rw [List.length_take] at hj
        refine ⟨rfl, ?_⟩
        refine ⟨.int z, rfl, .int (i : Int), rfl, z, (i : Int), rfl, rfl, decide ((i : Int) < z), rfl, ite2 (fun c => ?_) (fun c => ?_)⟩
        · refine ⟨.int z, rfl, acc, eN, small1000 (by omega), fun b o e => by rw [upd_ne (fun z => by rw [z, nN] at e; cases e)]; exact s7 b o e, _, upd_same, ?_⟩
          rw [List.take_add_one, hz, List.filter_append, List.length_append, List.length_append, la]
          show _ + 1 = _ + (List.filter _ [z]).length
          rw [List.filter_cons_of_pos (p := fun z => decide ((i : Int) < z)) (l := []) c]
          rfl
        · refine ⟨s7, acc, eN, ?_⟩
          rw [List.take_add_one, hz, List.filter_append, List.length_append, la]
          show _ = _ + (List.filter _ [z]).length
          rw [List.filter_cons_of_neg (p := fun z => decide ((i : Int) < z)) (l := []) c]
          rfl
      · rw [List.length_take, lm, List.take_of_length_le (by rw [List.length_take]; exact Nat.le_refl _)] at la
        have la : acc.length = cntF ns k i := la
        have nL4 : H4 L = none := nL
        have s47 := s5.trans (s6.trans s7)
        have eL7 := s7 _ _ (s6 _ _ eL)
        refine ⟨N, acc, rfl, .inl (SqL.of eN), ((leastF ns).take i).map V.int, eL7, small1000 (by rw [List.length_map, List.length_take]; omega), fun b o e => by rw [upd_ne (fun z => by rw [z, nL4] at e; cases e)]; exact s47 b o e, ?_⟩
        rw [upd_same, List.take_add_one, hle, List.map_append, la]
        rfl
    · have nL0 : H L = none := e04.free nL
      exact q none (.ref L) H5 hF (e04.trans (Ex.of s5)) (tabG_same s5 t4) ⟨fun z => absurd rfl z, fun _ => ⟨L, rfl, nL0, by rw [eL, show ((ns.length : Int)).toNat = (leastF ns).length by rw [leastF_len]; rfl, List.take_length]⟩⟩
end
end CL
set_option Elab.async false
set_option linter.all false
set_option maxRecDepth 100000
set_option maxHeartbeats 4000000
namespace CL
open PySem PySem.Spec PyProof.Rows L2 GE
/-! ### max(xs, default=d) of whole numbers -/
def IsI (num : Nat → Int) (i : Nat) (v : Value) : Prop := ∃ t, v = .int (num i) t
def TopI (num : Nat → Int) (j : Nat) (M : Int) : Prop := (∃ i, i ≤ j ∧ num i = M) ∧ ∀ i, i ≤ j → num i ≤ M
theorem TopI.zero (num : Nat → Int) : TopI num 0 (num 0) := ⟨⟨0, Nat.le_refl 0, rfl⟩, fun i hi => by rw [Nat.le_zero.mp hi]; exact Int.le_refl _⟩
theorem TopI.yes {num : Nat → Int} {j : Nat} {M : Int} (h : TopI num j M) (g : num (j + 1) > M) : TopI num (j + 1) (num (j + 1)) := ⟨⟨j + 1, Nat.le_refl _, rfl⟩, fun i hi => by
  rcases Nat.lt_or_ge j i with z | z
  · have : i = j + 1 := by omega
    rw [this]; exact Int.le_refl _
  · have := h.2 i z
    omega⟩
theorem TopI.no {num : Nat → Int} {j : Nat} {M : Int} (h : TopI num j M) (g : ¬ num (j + 1) > M) : TopI num (j + 1) M := ⟨⟨h.1.choose, by have := h.1.choose_spec.1; omega, h.1.choose_spec.2⟩, fun i hi => by
  rcases Nat.lt_or_ge j i with z | z
  · have : i = j + 1 := by omega
    rw [this]; omega
  · exact h.2 i z⟩
section
variable {P0 : Program} {w : World} {A : Around} {R : Result → Shared → Prop} {I : Addr} {fp wr : List Addr} {n : Nat} {num : Nat → Int} {St : Nat → Heap → Prop}
abbrev two (v : Value) (c : Nat) : Obj := { cls := .type "list", dict := none, data := .seq #[v, v] c, slots := #[] }
abbrev dflt (d : Value) : List (Str × Value) := [(Str.ofString "default", d)]
theorem top_loop (W : Walks P0 w A.in1 I fp wr n (IsI num) St) (S : Addr) (off : S ∉ fp) (d : Value) : ∀ (k j : Nat) (t : Shared) (M : Int) (tk : Tok) (c : Nat), n = j + 1 + k → St (j + 1) t.heap → TopI num j M → t.heap.get? S = some (two (.int M tk) c) →
    (∀ M tk g x, TopI num (n - 1) M → (∀ b o, b ∉ S :: wr → t.heap.get? b = some o → g.get? b = some o) → R (.ok (.ret (.int M tk))) { t with heap := g, toks := x }) → codeAny (model P0 w) A (.builtin "max.loop" ⟨[.ref I, .none, .ref S], dflt d⟩) R t := by
  have nm : (toString "max" ++ toString ".loop" : String) = "max.loop" := by decide
  have offw : S ∉ wr := fun z => off (W.sub S z)
  have away : ∀ {b : Addr}, b ∉ S :: wr → S ≠ b ∧ b ∉ wr := fun {b} h => ⟨fun z => h (by rw [z]; exact List.mem_cons_self), fun z => h (List.mem_cons_of_mem S z)⟩
  intro k
  induction k with
  | zero =>
    intro j t M tk c hn st top eS fin
    have e1 : n = j + 1 := hn
    refine codeAny_builtin F.entry_max_loop ?go
    rw [Around.under_plainId (A := A) F.plain_max_loop _]
    show wpAny _ A.in1 (seqItems? (.ref S) >>= _) _ _ t
    apply wpAny_bind
    refine wpAny_seqItems eS rfl (?_ : wpAny _ A.in1 (tryCatch (pyNext (.ref I)) _ >>= _) _ _ t)
    refine wpAny_bind (wpAny_tryCatch (W.done t _ _ (e1 ▸ st) fun g x keep => ?_))
    have eS2 := keep S _ offw eS
    refine (show wpAny _ A.in1 (updateSeq S (fun _ => #[]) >>= _) _ _ _ from wpAny_bind (wpAny_updateSeq eS2 rfl (wpAny_bind (wpAny_letGo (wpAny_pure ?_)))))
    refine fin M tk _ _ (by rw [e1]; exact top) fun b o hb e => ?_
    exact (Heap.get?_update_other _ _ (away hb).1).trans (keep b o (away hb).2 e)
  | succ k ih =>
    intro j t M tk c hn st top eS fin
    have lt : j + 1 < n := by omega
    refine codeAny_builtin F.entry_max_loop ?go2
    rw [Around.under_plainId (A := A) F.plain_max_loop _]
    show wpAny _ A.in1 (seqItems? (.ref S) >>= _) _ _ t
    apply wpAny_bind
    refine wpAny_seqItems eS rfl (?_ : wpAny _ A.in1 (tryCatch (pyNext (.ref I)) _ >>= _) _ _ t)
    refine wpAny_bind (wpAny_tryCatch (W.item (j + 1) t _ _ lt st fun v g x iv st' keep => ?_))
    have eS2 := keep S _ offw eS
    obtain ⟨tv, rfl⟩ := iv
    have cmp : ∀ (t : Shared) (Q : Value → Shared → Prop) (E : Value → Shared → Prop), Q (.bool (decide (num (j + 1) > M))) t → wpAny (model P0 w) A.in1 (richCompare .Gt (.int (num (j + 1)) tv) (.int M tk)) Q E t := fun t Q E h =>
      CmpOf.ints_gt (prog := P0) (w := w) (A := A.in1) (P := fun i v => ∃ t, v = .int ((fun m : Nat => if m = 0 then num (j + 1) else M) i) t) (fun m => if m = 0 then num (j + 1) else M) (fun i v h => h) 0 1 (.int (num (j + 1)) tv) (.int M tk) t Q E ⟨tv, rfl⟩ ⟨tk, rfl⟩ h
    refine (show wpAny _ A.in1 (tryCatch (holding [.int (num (j + 1)) tv, .int (num (j + 1)) tv] (richCompare .Gt (.int (num (j + 1)) tv) (.int M tk) >>= _)) _ >>= _) _ _ _ from wpAny_bind (wpAny_tryCatch (wpAny_holding (wpAny_bind (cmp _ _ _ (wpAny_bind (wpAny_holding (wpAny_truthy_bool (wpAny_bind (wpAny_letGo (wpAny_pure ?_)))))))))))
    by_cases g0 : num (j + 1) > M
    · rw [decide_eq_true g0]
      simp only [if_true]
      refine wpAny_bind (wpAny_updateSeq eS2 rfl (wpAny_bind (wpAny_letGo ?_)))
      rw [nm]
      refine wpAny_pure ⟨plainId_quiet F.plain_max_loop _, ih (j + 1) _ (num (j + 1)) tv _ (by omega) (W.frame _ _ _ st' fun b hb o e => (Heap.get?_update_other _ _ (fun z => off (by rw [z]; exact hb))).trans e) (top.yes g0) (Heap.get?_update_self _ eS2 rfl) fun M2 t2 g2 x2 tp kp => ?_⟩
      exact fin M2 t2 g2 x2 tp fun b o hb e => kp b o hb ((Heap.get?_update_other _ _ (away hb).1).trans (keep b o (away hb).2 e))
    · rw [decide_eq_false g0]
      simp only [Bool.false_eq_true, if_false]
      refine wpAny_bind (wpAny_letGo ?_)
      rw [nm]
      refine wpAny_pure ⟨plainId_quiet F.plain_max_loop _, ih (j + 1) _ M tk _ (by omega) st' (top.no g0) eS2 fun M2 t2 g2 x2 tp kp => ?_⟩
      exact fin M2 t2 g2 x2 tp fun b o hb e => kp b o hb (keep b o (away hb).2 e)
/-- the first turn: nothing there, or the first thing is the greatest so far -/
theorem top_first (W : Walks P0 w A.in1 I fp wr n (IsI num) St) (S : Addr) (off : S ∉ fp) (d : Value) {t : Shared} {c : Nat} (st : St 0 t.heap) (eS : t.heap.get? S = some { cls := .type "list", dict := none, data := .seq #[] c, slots := #[] })
    (fin0 : n = 0 → ∀ g x, (∀ b o, b ∉ S :: wr → t.heap.get? b = some o → g.get? b = some o) → R (.ok (.ret d)) { t with heap := g, toks := x })
    (fin : ∀ M tk g x, 0 < n → TopI num (n - 1) M → (∀ b o, b ∉ S :: wr → t.heap.get? b = some o → g.get? b = some o) → R (.ok (.ret (.int M tk))) { t with heap := g, toks := x }) :
    codeAny (model P0 w) A (.builtin "max.loop" ⟨[.ref I, .none, .ref S], dflt d⟩) R t := by
  have nm : (toString "max" ++ toString ".loop" : String) = "max.loop" := by decide
  have offw : S ∉ wr := fun z => off (W.sub S z)
  have away : ∀ {b : Addr}, b ∉ S :: wr → S ≠ b ∧ b ∉ wr := fun {b} h => ⟨fun z => h (by rw [z]; exact List.mem_cons_self), fun z => h (List.mem_cons_of_mem S z)⟩
  refine codeAny_builtin F.entry_max_loop ?go
  rw [Around.under_plainId (A := A) F.plain_max_loop _]
  show wpAny _ A.in1 (seqItems? (.ref S) >>= _) _ _ t
  apply wpAny_bind
  refine wpAny_seqItems eS rfl (?_ : wpAny _ A.in1 (tryCatch (pyNext (.ref I)) _ >>= _) _ _ t)
  rcases Nat.eq_zero_or_pos n with e0 | pos
  · refine wpAny_bind (wpAny_tryCatch (W.done t _ _ (e0 ▸ st) fun g x keep => ?_))
    exact (show wpAny _ A.in1 (rule _ >>= _) _ _ _ from wpAny_bind (wpAny_rule (wpAny_pure (fin0 e0 g x fun b o hb e => keep b o (away hb).2 e))))
  · refine wpAny_bind (wpAny_tryCatch (W.item 0 t _ _ pos st fun v g x iv st' keep => ?_))
    have eS2 := keep S _ offw eS
    obtain ⟨tv, rfl⟩ := iv
    refine (show wpAny _ A.in1 (updateSeq S (fun _ => #[.int (num 0) tv, .int (num 0) tv]) >>= _) _ _ _ from wpAny_bind (wpAny_updateSeq eS2 rfl ?_))
    rw [nm]
    refine wpAny_pure ⟨plainId_quiet F.plain_max_loop _, top_loop W S off d (n - 1) 0 _ (num 0) tv _ (by omega) (W.frame _ _ _ st' fun b hb o e => (Heap.get?_update_other _ _ (fun z => off (by rw [z]; exact hb))).trans e) (TopI.zero num) (Heap.get?_update_self _ eS2 rfl) fun M2 t2 g2 x2 tp kp => ?_⟩
    exact fin M2 t2 g2 x2 pos tp fun b o hb e => kp b o hb ((Heap.get?_update_other _ _ (away hb).1).trans (keep b o (away hb).2 e))
end
section
variable {P0 : Program} {w : World} {A : Around} {E : Value → Shared → Prop} {s : Shared}
theorem call_tree_kw {id : String} {b : Builtin} {args : List Value} {kw : List (Str × Value)} {Q : Value → Shared → Prop} (hk : builtinKind id = none) (hp : plainId id = true) (hb : entryFor table id = some b) (ha : argsOk id ⟨args, kw⟩)
    (hc : wpAny (model P0 w) A.in1 (b ⟨args, kw⟩) (fun fin s' => match fin with
      | .done f => (match (Except.ok f : Result) with | .ok (.ret v) => Q v s' | .ok _ => False | .error e => E e s')
      | .again c' => c'.quiet = true ∧ codeAny (model P0 w) A c' (fun r s' => match r with | .ok (.ret v) => Q v s' | .ok _ => False | .error e => E e s') s') E s) : wpAny (model P0 w) A (call (.builtin id) args kw) Q E s := by
  refine wpAny_call (codeAny_call_builtin hp hb (?_ : _))
  simp only [checkBuiltinCall, hk]
  cases hs : Manifest.signature? id with
  | none => exact wpAny_pure hc
  | some sg =>
    have z : Bind.checkArgs id sg ⟨args, kw⟩ = pure () := by simpa only [argsOk, hs] using ha
    show wpAny _ A.in1 (Bind.checkArgs id sg ⟨args, kw⟩) _ _ s
    rw [z]
    exact wpAny_pure hc
theorem args_maxD (a d : Value) : argsOk "max" ⟨[a], dflt d⟩ := by
  unfold argsOk
  kernel_rfl
theorem max_dflt {l : Addr} {its : List Value} {ns : List Int} {d : Value} {Q : Value → Shared → Prop} (hh : A.handled = none) (hl : s.heap.IsList l its.toArray) (hi : IntsAre its ns)
    (q0 : ns = [] → ∀ g x, (∀ b o, s.heap.get? b = some o → g.get? b = some o) → Q d { s with heap := g, toks := x })
    (q : ∀ M t g x, (∀ b o, s.heap.get? b = some o → g.get? b = some o) → M ∈ ns → (∀ y ∈ ns, y ≤ M) → Q (.int M t) { s with heap := g, toks := x }) : wpAny (model P0 w) A (call (.builtin "max") [.ref l] (dflt d)) Q E s := by
  have nm : (toString "max" ++ toString ".loop" : String) = "max.loop" := by decide
  obtain ⟨xs, e⟩ := hi.allInts.items
  have hn : numsOf (intItems xs).toList = ns := by rw [← e]; exact hi.numsOf
  rw [nums_intItems] at hn
  subst hn
  rw [e] at hl
  refine call_tree_kw F.kind_max F.plain_max F.entry_max (args_maxD _ _) ?_
  show wpAny _ A.in1 (Builtin.Builtins.bindParams "max" ["key", "default"] 0 ⟨[], dflt d⟩ >>= _) _ _ s
  refine wpAny_bind (wpAny_of_eq (show Builtin.Builtins.bindParams "max" ["key", "default"] 0 ⟨[], dflt d⟩ = pure [none, some d] from by first | rfl | kernel_rfl) (wpAny_bind (wpAny_pure ?_)))
  refine wpAny_bind (iter_intList hl fun s₂ e2 st hfp hlI => ?_)
  subst e2
  refine wpAny_bind (wpAny_newObj_type ?_)
  rw [nm]
  have W0 := Walks.list (prog := P0) (w := w) (A := A.in1) hh _ l hlI (intItems xs)
  have W : Walks P0 w A.in1 s.heap.objs.size _ _ (intItems xs).size (IsI (numAt xs)) _ := ⟨W0.sub, W0.frame, fun i s Q E hi st hQ => W0.item i s Q E hi st fun v g x hP => hQ v g x (intItems_at hP), W0.done, W0.self⟩
  have sz : (intItems xs).size = xs.size := by simp [intItems]
  have up2 : ∀ b o, s.heap.get? b = some o → ((s.heap.push { cls := .type "list_iterator", data := .fields #[.ref l, .int 0 0] }).push { cls := .type "list", data := .seq ([] : List Value).toArray }).get? b = some o := fun b o e => Heap.get?_push_of_some _ (Heap.get?_push_of_some _ e)
  have far : ∀ b o, s.heap.get? b = some o → b ∉ [(s.heap.push { cls := .type "list_iterator", data := .fields #[.ref l, .int 0 0] }).objs.size, s.heap.objs.size] := fun b o e hm => by
    have lt := Heap.lt_size e
    rcases List.mem_cons.mp hm with z | z
    · rw [z] at lt
      exact absurd lt (by rw [Heap.size_push]; exact Nat.not_lt.mpr (Nat.le_succ _))
    · rw [List.mem_singleton.mp z] at lt
      exact Nat.lt_irrefl _ lt
  refine wpAny_pure ⟨plainId_quiet F.plain_max_loop _, top_first W _ (fun hm => Nat.lt_irrefl _ (hfp _ hm)) d (W.frame _ _ _ st fun b _ o e => Heap.get?_push_of_some _ e) (Heap.get?_push_size _ rfl) (fun e0 g x keep => ?_) (fun M t g x pos top keep => ?_)⟩
  · exact q0 (List.eq_nil_of_length_eq_zero (by rw [List.length_map, Array.length_toList]; omega)) g x fun b o e => keep b o (far b o e) (up2 b o e)
  · obtain ⟨⟨i, hi, ei⟩, le⟩ := top
    refine q M t g x (fun b o e => keep b o (far b o e) (up2 b o e)) ?_ fun y hy => ?_
    · rw [← ei, numAt_eq]
      exact PySem.getD_mem (by rw [List.length_map, Array.length_toList]; omega)
    · obtain ⟨m, hm, rfl⟩ := mem_getD hy
      rw [List.length_map, Array.length_toList] at hm
      rw [← numAt_eq]
      exact le m (by omega)
end
def rMaxD (K : PySem.W.Frag) : List V → List V → Hp → VK → Prop := fun vs zs H Q => ∃ (a : Addr) (ns : List Int) (d : Int), vs = [V.ref a] ∧ zs = [.int d] ∧ SqL K H a (ns.map V.int) ∧ (ns = [] → Q (.int d) H) ∧ ∀ M, M ∈ ns → (∀ y ∈ ns, y ≤ M) → Q (.int M) H
theorem cr_maxD {X : Cx} (hc : X.calm = true) : CallRK X (.builtin "max") [Str.ofString "default"] (rMaxD X.K) := by
  intro pins s σ H vs zs us ws Q I r r2 ⟨a, ns, d, ev, ez, hs, q0, q⟩
  subst ev ez
  obtain ⟨its, rv, hl, _⟩ := I.list hs
  obtain ⟨u, rfl, rd⟩ := vals1 r2
  obtain ⟨td, rfl⟩ := rd
  rw [Vals.ref1 r]
  exact max_dflt (I.ok.hd hc) hl.isList rv.ints (fun e g x hk => ⟨.int d, H, I.kept hk, ⟨_, rfl⟩, q0 e⟩) (fun M t g x hk h1 h2 => ⟨.int M, H, I.kept hk, ⟨_, rfl⟩, q M h1 h2⟩)
end CL
set_option Elab.async false
set_option linter.all false
set_option maxRecDepth 100000
set_option maxHeartbeats 4000000
namespace CL
open PySem PySem.Spec PyProof.Rows L2 GE
abbrev sRefus : Stmt := topS 31
abbrev sRowsC : Stmt := topS 32
abbrev nRefus : List Str := ["people", "newcomer", "ahead", "person"]
abbrev nRowsC : List Str := ["order", "most", "people", "least", "refusers", "newcomer", "counted", "person", "patience"]
theorem scRefus : FnScope nRefus ["people", "newcomer"] (defScope sRefus) := ⟨rfl, rfl, rfl, by decide +kernel, rfl, by decide +kernel, by decide +kernel⟩
theorem scRowsC : FnScope nRowsC ["order", "most"] (defScope sRowsC) := ⟨rfl, rfl, rfl, by decide +kernel, rfl, by decide +kernel, by decide +kernel⟩
/-- behind whom somebody stopped -/
def refuF (ns : List Int) (i : Nat) : Option Int := ((ns.take (ns.findIdx (fun y => y == (i : Int)))).filter fun z => decide (z < (i : Int))).getLast?
def refsF (ns : List Int) : List (Option Int) := ns.map fun z => refuF ns z.toNat
def inO (refs : List (Option Int)) (i : Int) : Bool := refs.any fun o => decide (o = some i)
theorem inV_opt (i : Int) : ∀ os : List (Option Int), inV (.int i) (os.map optV) = inO os i
  | [] => rfl
  | o :: os => by
    have ih := inV_opt i os
    unfold inV inO at ih ⊢
    rw [List.map_cons, List.any_cons, List.any_cons, ih]
    cases o with
    | none =>
      show (false || _) = (decide (none = some i) || _)
      simp
    | some n =>
      show ((n == i) || _) = (decide (some n = some i) || _)
      by_cases h : n = i
      · simp [h]
      · simp [h]
def prodF (ns : List Int) (most : Int) : Nat → Int
  | 0 => 1
  | i + 1 => if inO (refsF ns) (i : Int) then prodF ns most i else prodF ns most i * (most - (leastF ns).getD i 0 + 1)
def rowsF (ns : List Int) (most : Int) : Int := if anyBar (plc ns) ns.length then 0 else if (leastF ns).any (fun x => decide (most < x)) then 0 else prodF ns most ns.length
def spRefus : Sp := fun vs H Q _ => ∃ (A : Addr) (ns : List Int) (i : Nat), vs = [.ref A, .int (i : Int)] ∧ H A = some (.lst (ns.map V.int)) ∧ isOrderI ns = true ∧ ns.length ≤ 60 ∧ i < ns.length ∧ ∀ H', Same H H' → Q (optV (refuF ns i)) H'
def spRowsC (P1 : Addr) : Sp := fun vs H Q _ => ∃ v ns most, vs = [v, .int most] ∧ OrdV H v ns ∧ isOrderI ns = true ∧ ns.length ≤ 60 ∧ 0 ≤ most ∧ most ≤ 1000000000000000000 ∧ GxR.TabG H P1 ∧ ∀ H', Ex H H' → GxR.TabG H' P1 → Q (.int (rowsF ns most)) H'
theorem at_last {ys : List Int} (h : ys ≠ []) : ∃ y, ys.getLast? = some y ∧ atI (ys.map V.int) (-1) = some (.int y) := by
  have hl : 0 < ys.length := List.length_pos_iff.mpr h
  refine ⟨ys.getLast h, List.getLast?_eq_some_getLast h, ?_⟩
  have lm : (ys.map V.int).length = ys.length := List.length_map ..
  unfold atI ixN
  rw [if_neg (by omega), if_pos (by omega)]
  have e : ((-1 : Int) + ((ys.map V.int).length : Int)).toNat = ys.length - 1 := by omega
  rw [Option.bind_some, e, List.getElem?_map, List.getElem?_eq_getElem (by omega), List.getLast_eq_getElem]
  rfl
section
variable {P : Program} {w : World} {K : PySem.W.Frag} {mg : Str → Option Value} {base : Heap}
theorem ok_refus {f : Addr} {fd : FuncData} (F : Fun K "refuser_of" "refuser_of" sRefus f fd) (T : Nm mg) : FnOk P w K mg base CX0 1 f fd ["people", "newcomer"] spRefus := by
  refine F.ok scRefus (fun vs H Q E ⟨A, ns, i, e, _⟩ => by rw [e]; rfl) (fun cdv A' outer s H vs Q E hr h => ?_)
  obtain ⟨A, ns, i, rfl, eA, hI, hl, hi, q⟩ := h
  have nd := scRefus.nd
  refine ⟨_, (pss_cons (ps_setLc (i := 2) (own := [("person", 3)]) (g := (gName 3)) rfl nd rfl rfl (sw_true rfl rfl rfl (by decide +kernel)) (pi_list (pe_slice sl_list (pv 0) po_none (po_some (pe_bm PySem.F.plainAttrs_list PySem.F.slot_list_index PySem.F.type_list_index mt_index (pv 0) (pa_cons (pv 1) pa_nil))))) (blkOk_by (own := [("person", 3)]) (N := nRefus) (sc := (defScope sRefus)) (by decide +kernel)) (fun _ _ _ _ _ => (pg_name (i := 3) nd rfl (.inl rfl))) (fun _ _ _ _ _ => pts_one (pt_cmpR op_lt (pv 3) (pv 1) (nomark _))) (fun _ _ _ _ _ => (pv 3)))
      (pss_one (ps_ret (pe_ifExp (pt_truth (pv 2) (by intro _; rfl)) (pe_ix ix_list (pv 2) (pe_un un_neg pe_int) (fun _ _ => rfl)) pe_non)))), ?_⟩
  obtain ⟨hj, ej, no⟩ := find_at hI hi
  refine ⟨.ref A, rfl, .ref A, rfl, .inl ⟨rfl, _, SqL.of eA⟩, .int (i : Int), rfl, A, _, .int (i : Int), ns.findIdx (fun y => y == (i : Int)), .int ns[ns.findIdx (fun y => y == (i : Int))], rfl, rfl, SqL.of eA, rfl, flat_ints ns, by rw [List.getElem?_map, List.getElem?_eq_getElem hj]; rfl, ?_, fun m z lm hz => ?_, _, rfl, A, _, rfl, SqL.of eA, fun M nM => ?_⟩
  · rw [ej]
    show ((i : Int) == (i : Int)) = true
    simp
  · rw [List.getElem?_map] at hz
    cases z2 : ns[m]? with
    | none => rw [z2] at hz; cases hz
    | some y =>
      rw [z2] at hz
      cases hz
      exact no m lm y z2
  have hq : refuF ns i = ((ns.take (ns.findIdx (fun y => y == (i : Int)))).filter fun z => decide (z < (i : Int))).getLast? := rfl
  generalize ns.findIdx (fun y => y == (i : Int)) = k at hj ej no hq
  rw [cut_to]
  have s1 : Same H (upd H M (.lst ((ns.map V.int).take k))) := same_upd nM
  have e1 : (upd H M (.lst ((ns.map V.int).take k))) M = some (.lst ((ns.map V.int).take k)) := upd_same
  generalize upd H M (.lst ((ns.map V.int).take k)) = H1 at s1 e1
  refine ⟨M, rfl, ⟨_, SqL.of e1⟩, fun N nN => ?_⟩
  refine lc_list (xs := (ns.map V.int).take k) (fun j H2 => Same H1 H2 ∧ ∃ acc : List Int, H2 N = some (.lst (acc.map V.int)) ∧ acc = ((ns.take k).take j).filter fun z => decide (z < (i : Int)))
    ⟨same_upd nN, [], upd_same, rfl⟩ (fun j H2 _ ⟨s2, _⟩ => SqL.of (s2 _ _ e1)) (fun j x H2 hx ⟨s2, acc, eN, la⟩ => ?_) (fun H2 ⟨s2, acc, eN, la⟩ => ?_)
  · have hj2 : j < (ns.take k).length := by
      have := (List.getElem?_eq_some_iff.mp hx).1
      rw [← List.map_take, List.length_map] at this
      exact this
    obtain ⟨z, hz, rfl⟩ : ∃ z, (ns.take k)[j]? = some z ∧ x = V.int z := by
      rw [← List.map_take, List.getElem?_map, List.getElem?_eq_getElem hj2] at hx
      exact ⟨_, List.getElem?_eq_getElem hj2, (Option.some.inj hx).symm⟩
    have hl2 : acc.length ≤ j := by
      rw [la]
      refine Nat.le_trans (List.length_filter_le _ _) ?_
      rw [List.length_take]
      omega
    rw [List.length_take] at hj2
    refine ⟨rfl, ?_⟩
    refine ⟨.int z, rfl, .int (i : Int), rfl, z, (i : Int), rfl, rfl, decide (z < (i : Int)), rfl, ite2 (fun c => ?_) (fun c => ?_)⟩
    · refine ⟨.int z, rfl, acc.map V.int, eN, small1000 (by rw [List.length_map]; omega), fun b o e => by rw [upd_ne (fun z => by rw [z, nN] at e; cases e)]; exact s2 b o e, acc ++ [z], by rw [upd_same, List.map_append]; rfl, ?_⟩
      rw [List.take_add_one, hz, List.filter_append, ← la]
      show _ = _ ++ List.filter _ [z]
      rw [List.filter_cons_of_pos (p := fun z => decide (z < (i : Int))) (l := []) c]
      rfl
    · refine ⟨s2, acc, eN, ?_⟩
      rw [List.take_add_one, hz, List.filter_append, ← la]
      show _ = _ ++ List.filter _ [z]
      rw [List.filter_cons_of_neg (p := fun z => decide (z < (i : Int))) (l := []) c]
      exact (List.append_nil _).symm
  · have s02 := s1.trans s2
    rw [List.length_take, List.length_map, List.take_of_length_le (by rw [List.length_take]; exact Nat.le_refl _)] at la
    rw [← la] at hq
    refine ⟨.ref N, rfl, _, .inl ⟨_, SqL.of eN, rfl⟩, ?_⟩
    have q := q H2 s02
    rw [hq] at q
    clear la
    cases acc with
    | nil => exact iteF q
    | cons z acc =>
      obtain ⟨y, hy, hat⟩ := at_last (ys := z :: acc) (by simp)
      rw [hy] at q
      exact iteT ⟨.ref N, rfl, 1, rfl, N, _, -1, .int y, rfl, rfl, SqL.of eN, hat, q⟩
theorem ok_rowsC {f P1 : Addr} {fd : FuncData} (F : Fun K "rows_counted" "rows_counted" sRowsC f fd) (T : Nm mg) (hmax : mg "max" = none) (hgm0 : ∃ t, mg "GREATEST_MOST" = some (.int 1000000000000000000 t)) (CW : Cal P w K mg base 1 "is_whole" ["thing"] (spOne isWhole))
    (CPe : Cal P w K mg base 5 "people_of" ["order"] (spPeople P1)) (CL : Cal P w K mg base 7 "least_patiences" ["order"] (spLeast P1)) (CRf : Cal P w K mg base 1 "refuser_of" ["people", "newcomer"] spRefus) : FnOk P w K mg base CX0 8 f fd ["order", "most"] (spRowsC P1) := by
  refine F.ok scRowsC (fun vs H Q E ⟨v, ns, most, e, _⟩ => by rw [e]; rfl) (fun cdv A outer s H vs Q E hr h => ?_)
  obtain ⟨v, ns, most, rfl, hO, hI, hl, m0, m1, hT1, q⟩ := h
  obtain ⟨tg, hgm⟩ := hgm0
  have nd := scRowsC.nd
  refine ⟨_, (pss_cons (ps_set (i := 2) nd rfl (.inr rfl) (pe_cal (CPe.mono (by decide)) hr (by rfl) (pa_cons (pv 0) pa_nil)))
      (pss_cons (ps_if (PW.pt (pw_or (pt_not (pt_val (pe_cal (CW.mono (by decide)) hr (by rfl) (pa_cons (pv 1) pa_nil)))) (pw_or1 (pt_not (pt_chain op_le op_le pe_int (pv 1) (pe_glob (v := .int 1000000000000000000) (by rfl) hgm ⟨_, rfl⟩)))))) (pss_one ps_never) pss_nil)
      (pss_cons (ps_set (i := 3) nd rfl (.inl rfl) (pe_cal CL hr (by rfl) (pa_cons (pv 2) pa_nil)))
      (pss_cons (ps_if (PW.pt (pw_or (pt_cmp (pc_isN (pv 3))) (pw_or1 (pt_cmpR op_gt (pe_callBK (cr_maxD rfl) (by rfl) hmax (by decide +kernel) (pa_cons (pv 3) pa_nil) (pk_cons pe_int pk_nil)) (pv 1) (nomark _))))) (pss_one (ps_ret pe_int)) pss_nil)
      (pss_cons (ps_setLc (i := 4) (own := [("newcomer", 5)]) (g := (gName 5)) (tt := tYes) rfl nd rfl rfl (sw_true rfl rfl rfl (by decide +kernel)) (pi_list (pv 2)) (blkOk_by (own := [("newcomer", 5)]) (N := nRowsC) (sc := (defScope sRowsC)) (by decide +kernel)) (fun _ _ _ _ _ => (pg_name (i := 5) nd rfl (.inl rfl))) (fun _ _ _ _ _ => pts_nil) (fun _ _ _ _ _ => (pe_cal (CRf.mono (by decide)) hr (by rfl) (pa_cons (pv 2) (pa_cons (pv 5) pa_nil)))))
      (pss_cons (ps_set (i := 6) nd rfl (.inl rfl) pe_int)
      (pss_cons (ps_for PassesOwn.never rfl (pi_enum (by rfl) T.enum (pa_cons (pv 3) pa_nil)) (pg_tup rfl (pgs_cons (pg_name (i := 7) nd rfl (.inl rfl)) (pgs_cons (pg_name (i := 8) nd rfl (.inl rfl)) pgs_nil))) (pss_one (ps_if (pt_cmpR op_notIn_seq (pv 7) (pv 4) (by rfl)) (pss_one (ps_aug (i := 6) nd rfl (.inl rfl) (pe_op op_add (pe_op op_sub (pv 1) (pv 8)) pe_int) iop_mul)) pss_nil)))
      (pss_one (ps_ret (pv 6)))))))))), ?_⟩
  refine ⟨v, rfl, v, ns, rfl, hO, hI, hl, hT1, fun H1 p e1 t1 np => ?_⟩
  have s1 : Same H1 (upd H1 p (.lst (ns.map V.int))) := same_upd np
  have ep : (upd H1 p (.lst (ns.map V.int))) p = some (.lst (ns.map V.int)) := upd_same
  have e2 := e1.trans (Ex.of s1)
  have t2 := tabG_same s1 t1
  generalize upd H1 p (.lst (ns.map V.int)) = H2 at s1 ep e2 t2
  show tSeq _ _ _ [some v, some (.int most), some (.ref p), none, none, none, none, none, none] H2
  refine ⟨.int most, rfl, .int most, .int most, rfl, .int most, fun H3 s3 => ⟨true, rfl, iteF ?_⟩⟩
  have ep3 := s3 _ _ ep
  have e03 := e2.trans (Ex.of s3)
  have t3 := tabG_same s3 t2
  refine ⟨.int most, rfl, 0, most, rfl, rfl, decide ((0 : Int) ≤ most), rfl, ?_⟩
  rw [decide_eq_true m0]
  refine iteT ⟨most, 1000000000000000000, rfl, rfl, decide (most ≤ 1000000000000000000), rfl, ?_⟩
  rw [decide_eq_true m1]
  refine iteF ?_
  have oV : OrdV H3 (.ref p) ns := .inl (.lst ep3 (rp_intsA ns))
  refine ⟨.ref p, rfl, .ref p, ns, rfl, oV, hI, hl, t3, fun t v' H4 hF e4 t4 hL => ?_⟩
  have e04 := e03.trans e4
  have ep4 := e4.lst ep3
  dsimp only []
  show tSeq (tIfS _ _ _) _ _ [some v, some (.int most), some (.ref p), some v', none, none, none, none, none] H4
  cases t with
  | some tt =>
    obtain rfl := hL.1 (fun z => by cases z)
    exact ⟨.non, rfl, _, rfl, iteT (by
      have z : rowsF ns most = 0 := if_pos hF.any.symm
      have q := q H4 e04 t4
      rw [z] at q
      exact q)⟩
  | none =>
    obtain ⟨L, rfl, nL, eL⟩ := hL.2 rfl
    have lx := leastF_len ns
    have hx := fun (x : Int) (h : x ∈ leastF ns) => leastF_in h
    have hr : rowsF ns most = if (leastF ns).any (fun x => decide (most < x)) then 0 else prodF ns most ns.length := if_neg (by rw [← hF.any]; exact Bool.false_ne_true)
    have hg : ∀ i, (leastF ns).getD i 0 = (leastF ns)[i]?.getD 0 := fun i => List.getD_eq_getElem?_getD
    have hp : ∀ i, prodF ns most (i + 1) = if inO (refsF ns) (i : Int) then prodF ns most i else prodF ns most i * (most - (leastF ns).getD i 0 + 1) := fun i => rfl
    have hfs : refsF ns = ns.map fun z => refuF ns z.toNat := rfl
    generalize hxs : leastF ns = xs at *
    refine seq_mk fun nx hnx => ?_
    have REST : xs.any (fun x => decide (most < x)) = false → nx [some v, some (.int most), some (.ref p), some (.ref L), none, none, none, none, none] H4 := by
      intro hno
      rw [hno] at hr
      have hr : rowsF ns most = prodF ns most ns.length := hr
      refine hnx _ _ ?_
      refine ⟨.ref p, rfl, p, rfl, ⟨_, SqL.of ep4⟩, fun R nR => ?_⟩
      refine lc_list (xs := ns.map V.int) (fun j H5 => Same H4 H5 ∧ H5 R = some (.lst (((refsF ns).take j).map optV)))
        ⟨same_upd nR, upd_same⟩ (fun j H5 _ ⟨s5, _⟩ => SqL.of (s5 _ _ ep4)) (fun j x H5 hxj ⟨s5, eR⟩ => ?_) (fun H5 ⟨s5, eR⟩ => ?_)
      · have hjl := (List.getElem?_eq_some_iff.mp hxj).1
        rw [List.length_map] at hjl
        rw [List.getElem?_map, List.getElem?_eq_getElem hjl] at hxj
        obtain ⟨i, hi, ei⟩ := up_mem.mp ((ord_perm hI).mem_iff.mp (List.getElem_mem hjl))
        obtain rfl : x = V.int (i : Int) := by rw [← ei]; exact (Option.some.inj hxj).symm
        have hre : (refsF ns)[j]? = some (refuF ns i) := by
          rw [hfs, List.getElem?_map, List.getElem?_eq_getElem hjl, ei]
          rfl
        refine ⟨rfl, yesT ⟨.ref p, rfl, .int (i : Int), rfl, p, ns, i, rfl, s5 _ _ ep4, hI, hl, hi, fun H6 s6 => ⟨_, s6 _ _ eR, small1000 (by rw [List.length_map, List.length_take]; omega), fun b o' e => by rw [upd_ne (fun z => by rw [z, nR] at e; cases e)]; exact s6 _ _ (s5 b o' e), by rw [upd_same, List.take_add_one, hre, List.map_append]; rfl⟩⟩⟩
      · have eL5 := s5 _ _ eL
        have eR : H5 R = some (.lst ((refsF ns).map optV)) := by
          rw [eR, List.take_of_length_le (by rw [hfs, List.length_map, List.length_map]; exact Nat.le_refl _)]
        have flo : ((refsF ns).map optV).all flatV = true := by
          rw [List.all_map, List.all_eq_true]
          intro o _
          cases o <;> rfl
        refine ⟨.ref L, rfl, L, _, rfl, SqL.of eL5, for_it walk_enum (fun i σ H6 => Same H5 H6 ∧ ∃ (y7 y8 : Option V), σ = [some v, some (.int most), some (.ref p), some (.ref L), some (.ref R), none, some (.int (prodF ns most i)), y7, y8])
          ⟨Same.refl H5, _, _, rfl⟩ (fun i σ H6 _ ⟨s6, _⟩ => SqL.of (s6 _ _ eL5)) (fun i x σ H6 H7 hi hP hY => ?_) (fun σ H6 hP => ?_)⟩
        · obtain ⟨s6, y7, y8, rfl⟩ := hP
          obtain ⟨T', x, y, rfl, nT, rfl, hx1, hy⟩ := hY
          obtain rfl := Option.some.inj hx1
          rw [List.length_map] at hi
          obtain rfl : y = .int xs[i] := by
            have hy : (List.map V.int xs)[i]? = some y := hy
            rw [List.getElem?_map, List.getElem?_eq_getElem hi] at hy
            exact (Option.some.inj hy).symm
          have s7 : Same H6 (upd H6 T' (.tup [.int (i : Int), .int xs[i]])) := same_upd nT
          refine ⟨T', _, rfl, SqT.of upd_same, rfl, .int (i : Int), _, rfl, .int xs[i], _, rfl, rfl, ?_⟩
          generalize upd H6 T' (.tup [.int (i : Int), .int xs[i]]) = H7 at s7
          have hb := hx _ (List.getElem_mem hi)
          have hgi : xs.getD i 0 = xs[i] := by rw [hg, List.getElem?_eq_getElem hi]; rfl
          refine ⟨.int (i : Int), rfl, .ref R, rfl, R, _, rfl, .inl (SqL.of (s7 _ _ (s6 _ _ eR))), rfl, flo, !inV (.int (i : Int)) ((refsF ns).map optV), rfl, ?_⟩
          rw [inV_opt]
          cases hin : inO (refsF ns) (i : Int) with
          | false =>
            refine iteT ⟨.int (prodF ns most i), rfl, .int most, rfl, .int xs[i], rfl, most, xs[i], rfl, rfl, most - xs[i], 1, rfl, rfl, prodF ns most i, most - xs[i] + 1, rfl, rfl, .inr ⟨by rw [t64]; omega, by rw [t64]; omega⟩, s6.trans s7, some (.int (i : Int)), some (.int xs[i]), ?_⟩
            rw [hp, hin, hgi]
            rfl
          | true =>
            refine iteF ⟨s6.trans s7, some (.int (i : Int)), some (.int xs[i]), ?_⟩
            rw [hp, hin]
            rfl
        · obtain ⟨s6, y7, y8, rfl⟩ := hP
          have hq := q H6 (e04.trans (Ex.of (s5.trans s6))) (tabG_same (s5.trans s6) t4)
          rw [hr] at hq
          have lm : (xs.map V.int).length = ns.length := by rw [List.length_map, lx]
          rw [lm]
          exact ⟨_, rfl, hq⟩
    refine ⟨.ref L, rfl, _, rfl, iteF ⟨.ref L, rfl, L, xs, 0, rfl, rfl, SqL.of eL, fun hnil => ⟨.int most, rfl, 0, most, rfl, rfl, decide (most < 0), rfl, ?_⟩, fun M hM hle => ⟨.int most, rfl, M, most, rfl, rfl, decide (most < M), rfl, ?_⟩⟩⟩
    · rw [decide_eq_false (by omega)]
      exact iteF (REST (by rw [hnil]; rfl))
    · by_cases c : most < M
      · rw [decide_eq_true c]
        refine iteT ?_
        have hq := q H4 e04 t4
        rw [hr, if_pos (List.any_eq_true.mpr ⟨M, hM, decide_eq_true c⟩)] at hq
        exact hq
      · rw [decide_eq_false c]
        exact iteF (REST (by
          rw [List.any_eq_false]
          intro x hx2 z
          have := of_decide_eq_true z
          have := hle x hx2
          omega))
end
end CL
set_option Elab.async false
set_option linter.all false
set_option pp.maxSteps 600
set_option maxRecDepth 100000
set_option maxHeartbeats 4000000
namespace CL
open PySem PySem.Spec PyProof.Rows L2 GE
/-! ### a class of refusals; defs that refuse, what they let out with no context -/
structure ExcM (K : PySem.W.Frag) (mg : Str → Option Value) (x : Str) (C : Addr) : Prop where
  g : mg x = some (.ref C)
  x : PySem.W.excIn K C [.type "ValueError", .type "Exception", .type "BaseException", .type "object"] "ValueError.__new__" = true
  k : PySem.W.keepIn K (.ref C) = true
  b : PySem.W.subIn K (.ref C) (.type "BaseException") = some true
  t : PySem.W.typeIn K (.ref C) = some (.type "type")
section
variable {P : Program} {w : World} {K : PySem.W.Frag} {mg : Str → Option Value} {base : Heap} 
theorem okN {x qual : Str} {st : Stmt} {f : Addr} {fd : FuncData} {N ps : List Str} {k : Nat} {sp : Sp} (F : Fun K x qual st f fd) (S : FnScope N ps (defScope st)) (len : ∀ vs H Q E, sp vs H Q E → vs.length = ps.length)
    (body : ∀ cdv A outer s H vs Q E, Room k (A.deeper (envOfC qual (defScope st) s.heap.objs.size f cdv)) → sp vs H Q E → ∃ t, PSs (cxOf (L2N.CX P w) P w K mg base N qual (defScope st) f cdv A outer s H E) (defBody st) t ∧ t { nx := fun _ H' => Q .non H', rt := Q } (start N vs) H) :
    FnOk P w K mg base (L2N.CX P w) (k + 1) f fd ps sp := by
  obtain ⟨oc, od, kV, doc, pm, an, cdv, ct, osl, rfl, lk, hcd⟩ := F.ex
  exact fn_of lk hcd S len fun A outer s H vs Q E hr h => body cdv A outer s H vs Q E hr h
/-- the one or the other -/
theorem FnOk.both {k : Nat} {f : Addr} {fd : FuncData} {ps : List Str} {sp bad : Sp} (F : FnOk P w K mg base CX0 k f fd ps sp) (G : FnOk P w K mg base (L2N.CX P w) k f fd ps bad) : FnOk P w K mg base (L2N.CX P w) k f fd ps (fun vs H Q E => sp vs H Q E ∨ bad vs H Q E) := by
  refine ⟨fun vs H Q E h => h.elim (F.len vs H Q E) (G.len vs H Q E), fun A outer s H args us vs Q E hr e0 b r h => ?_⟩
  rcases h with h | h
  · refine codeAny_mono (F.run A outer s H args us vs Q E hr e0 b r h) fun c t y => ?_
    match c, y with
    | .ok (.ret u), y => exact y
  · exact G.run A outer s H args us vs Q E hr e0 b r h
end
/-! ### what is no order, refused -/
def badPeople (P1 B : Addr) : Sp := fun vs H _ E => ∃ (v : V) (d : PyData), vs = [v] ∧ Rp H v d ∧ isOrder d = false ∧ GxR.TabG H P1 ∧ ∀ H', Ex H H' → GxR.TabG H' P1 → E (.ref B) none H'
def badBars (P1 B : Addr) : Sp := fun vs H _ E => ∃ (v u : V) (d : PyData), vs = [v, u] ∧ Rp H v d ∧ isOrder d = false ∧ GxR.TabG H P1 ∧ ∀ H', Ex H H' → GxR.TabG H' P1 → E (.ref B) none H'
/-- a most up to which rows are counted -/
def isMost : PyData → Bool
  | .int i => decide (0 ≤ i) && decide (i ≤ 1000000000000000000)
  | _ => false
def badMost (P1 B : Addr) : Sp := fun vs H _ E => ∃ (v u : V) (ns : List Int) (t : PyData), vs = [v, u] ∧ OrdV H v ns ∧ isOrderI ns = true ∧ ns.length ≤ 60 ∧ Rp H u t ∧ isMost t = false ∧ GxR.TabG H P1 ∧ ∀ H', Ex H H' → GxR.TabG H' P1 → E (.ref B) none H'
section
variable {P : Program} {w : World} {K : PySem.W.Frag} {mg : Str → Option Value} {base : Heap} {P1 : Addr}
theorem bad_people {f B : Addr} {fd : FuncData} (F : Fun K "people_of" "people_of" sPeople f fd) (XB : ExcM K mg "NoOrder" B) (CI : Cal P w K mg base 4 "is_order" ["thing"] (spIsO P1)) : FnOk P w K mg base (L2N.CX P w) 5 f fd ["order"] (badPeople P1 B) := by
  refine okN F scPeople (fun vs H Q E ⟨v, d, e, _⟩ => by rw [e]; rfl) (fun cdv A outer s H vs Q E hr h => ?_)
  obtain ⟨v, d, rfl, hR, hb, hT, q⟩ := h
  refine ⟨_, pss_cons (ps_if (pt_not (pt_val (pe_cal CI (hr.mono (by decide)) (by rfl) (pa_cons (pv 0) pa_nil)))) (pss_one (L2N.ps_raise rfl (L2N.takes_of rfl rfl rfl rfl) (L2N.pmk_own PySem.F.excBase_ValueError XB.x XB.g XB.k (raises_own XB.b XB.t) (by rfl)))) pss_nil) pss_never, ?_⟩
  refine ⟨v, rfl, v, d, rfl, hR, hT, fun H1 e1 t1 => ⟨_, rfl, ?_⟩⟩
  rw [hb]
  exact iteT (q H1 e1 t1)
theorem bad_barring {f fP B : Addr} {fd fdP : FuncData} (F : Fun K "barring" "barring" sBarring f fd) (CPl : Cal P w K mg base 1 "places_of" ["people"] spPlaces)
    (gP : mg "people_of" = some (.ref fP)) (kP : PySem.W.keepIn K (.ref fP) = true) (GP : FnOk P w K mg base (L2N.CX P w) 5 fP fdP ["order"] (fun vs H Q E => spPeople P1 vs H Q E ∨ badPeople P1 B vs H Q E)) (bP : Binds K fdP ["order"] []) : FnOk P w K mg base (L2N.CX P w) 6 f fd ["order"] (badPeople P1 B) := by
  refine okN F scBarring (fun vs H Q E ⟨v, d, e, _⟩ => by rw [e]; rfl) (fun cdv A outer s H vs Q E hr h => ?_)
  obtain ⟨v, d, rfl, hR, hb, hT, q⟩ := h
  have nd := scBarring.nd
  refine ⟨_, pss_cons (ps_set (i := 1) nd rfl (.inl rfl) (pe_cal (CPl.mono (by decide)) hr (by rfl) (pa_cons (pe_callS GP (hr.mono (by decide)) (by rfl) gP kP bP (fun σ => L2N.passAt (L2N.takes_of rfl rfl rfl rfl) σ) (pa_cons (pv 0) pa_nil)) pa_nil))) pss_never, ?_⟩
  exact ⟨v, rfl, .inr ⟨v, d, rfl, hR, hb, hT, fun H1 e1 t1 => q H1 e1 t1⟩⟩
theorem bad_bars {f fP B : Addr} {fd fdP : FuncData} (F : Fun K "bars" "bars" sBars f fd) (CPl : Cal P w K mg base 1 "places_of" ["people"] spPlaces)
    (gP : mg "people_of" = some (.ref fP)) (kP : PySem.W.keepIn K (.ref fP) = true) (GP : FnOk P w K mg base (L2N.CX P w) 5 fP fdP ["order"] (fun vs H Q E => spPeople P1 vs H Q E ∨ badPeople P1 B vs H Q E)) (bP : Binds K fdP ["order"] []) : FnOk P w K mg base (L2N.CX P w) 6 f fd ["order", "thing"] (badBars P1 B) := by
  refine okN F scBars (fun vs H Q E ⟨v, u, d, e, _⟩ => by rw [e]; rfl) (fun cdv A outer s H vs Q E hr h => ?_)
  obtain ⟨v, u, d, rfl, hR, hb, hT, q⟩ := h
  have nd := scBars.nd
  refine ⟨_, pss_cons (ps_set (i := 2) nd rfl (.inr rfl) (pe_cal (CPl.mono (by decide)) hr (by rfl) (pa_cons (pe_callS GP (hr.mono (by decide)) (by rfl) gP kP bP (fun σ => L2N.passAt (L2N.takes_of rfl rfl rfl rfl) σ) (pa_cons (pv 0) pa_nil)) pa_nil))) pss_never, ?_⟩
  exact ⟨v, rfl, .inr ⟨v, d, rfl, hR, hb, hT, fun H1 e1 t1 => q H1 e1 t1⟩⟩
theorem bad_least {f fP B : Addr} {fd fdP : FuncData} (F : Fun K "least_patiences" "least_patiences" sLeast f fd)
    (gP : mg "people_of" = some (.ref fP)) (kP : PySem.W.keepIn K (.ref fP) = true) (GP : FnOk P w K mg base (L2N.CX P w) 5 fP fdP ["order"] (fun vs H Q E => spPeople P1 vs H Q E ∨ badPeople P1 B vs H Q E)) (bP : Binds K fdP ["order"] []) : FnOk P w K mg base (L2N.CX P w) 7 f fd ["order"] (badPeople P1 B) := by
  refine okN F scLeast (fun vs H Q E ⟨v, d, e, _⟩ => by rw [e]; rfl) (fun cdv A outer s H vs Q E hr h => ?_)
  obtain ⟨v, d, rfl, hR, hb, hT, q⟩ := h
  have nd := scLeast.nd
  refine ⟨_, pss_cons (ps_set (i := 1) nd rfl (.inr rfl) (pe_callS GP (hr.mono (by decide)) (by rfl) gP kP bP (fun σ => L2N.passAt (L2N.takes_of rfl rfl rfl rfl) σ) (pa_cons (pv 0) pa_nil))) pss_never, ?_⟩
  exact ⟨v, rfl, .inr ⟨v, d, rfl, hR, hb, hT, fun H1 e1 t1 => q H1 e1 t1⟩⟩
theorem bad_rows {f fP B B2 : Addr} {fd fdP : FuncData} (F : Fun K "rows_counted" "rows_counted" sRowsC f fd) (XB : ExcM K mg "NoNumber" B2) (CW : Cal P w K mg base 1 "is_whole" ["thing"] (spOne isWhole)) (hgm0 : ∃ t, mg "GREATEST_MOST" = some (.int 1000000000000000000 t))
    (gP : mg "people_of" = some (.ref fP)) (kP : PySem.W.keepIn K (.ref fP) = true) (GP : FnOk P w K mg base (L2N.CX P w) 5 fP fdP ["order"] (fun vs H Q E => spPeople P1 vs H Q E ∨ badPeople P1 B vs H Q E)) (bP : Binds K fdP ["order"] []) : FnOk P w K mg base (L2N.CX P w) 8 f fd ["order", "most"] (fun vs H Q E => badBars P1 B vs H Q E ∨ badMost P1 B2 vs H Q E) := by
  refine okN F scRowsC (fun vs H Q E h => h.elim (fun ⟨v, u, d, e, _⟩ => by rw [e]; rfl) (fun ⟨v, u, ns, d, e, _⟩ => by rw [e]; rfl)) (fun cdv A outer s H vs Q E hr h => ?_)
  obtain ⟨tg, hgm⟩ := hgm0
  have nd := scRowsC.nd
  refine ⟨_, pss_cons (ps_set (i := 2) nd rfl (.inr rfl) (pe_callS GP (hr.mono (by decide)) (by rfl) gP kP bP (fun σ => L2N.passAt (L2N.takes_of rfl rfl rfl rfl) σ) (pa_cons (pv 0) pa_nil)))
    (pss_cons (ps_if (PW.pt (pw_or (pt_not (pt_val (pe_cal (CW.mono (by decide)) hr (by rfl) (pa_cons (pv 1) pa_nil)))) (pw_or1 (pt_not (pt_chain op_le op_le pe_int (pv 1) (pe_glob (v := .int 1000000000000000000) (by rfl) hgm ⟨_, rfl⟩)))))) (pss_one (L2N.ps_raise rfl (L2N.takes_of rfl rfl rfl rfl) (L2N.pmk_own PySem.F.excBase_ValueError XB.x XB.g XB.k (raises_own XB.b XB.t) (by rfl)))) pss_nil) pss_never), ?_⟩
  rcases h with ⟨v, u, d, rfl, hR, hb, hT, q⟩ | ⟨v, u, ns, t, rfl, hO, hI, hl, hU, hb, hT, q⟩
  · exact ⟨v, rfl, .inr ⟨v, d, rfl, hR, hb, hT, fun H1 e1 t1 => q H1 e1 t1⟩⟩
  · refine ⟨v, rfl, .inl ⟨v, ns, rfl, hO, hI, hl, hT, fun H1 p e1 t1 np => ?_⟩⟩
    have e2 := e1.trans (Ex.new (o := .lst (ns.map V.int)) np)
    have t2 := tabG_same (same_upd (o := .lst (ns.map V.int)) np) t1
    have hU2 := Rp.ex e2 t u hU
    generalize upd H1 p (.lst (ns.map V.int)) = H2 at e2 t2 hU2
    refine ⟨u, rfl, u, t, rfl, hU2, fun H3 s3 => ⟨isWhole t, rfl, ?_⟩⟩
    have bad : E (.ref B2) none H3 := q H3 (e2.trans (Ex.of s3)) (tabG_same s3 t2)
    cases hU2 with
    | int i =>
      refine iteF ⟨.int i, rfl, 0, i, rfl, rfl, decide ((0 : Int) ≤ i), rfl, ?_⟩
      by_cases h0 : (0 : Int) ≤ i
      · rw [decide_eq_true h0]
        refine iteT ⟨i, 1000000000000000000, rfl, rfl, decide (i ≤ 1000000000000000000), rfl, ?_⟩
        have n2 : ¬ i ≤ 1000000000000000000 := fun z => by
          have e : isMost (.int i) = true := by
            show (decide (0 ≤ i) && decide (i ≤ 1000000000000000000)) = true
            rw [decide_eq_true h0, decide_eq_true z]
            rfl
          rw [hb] at e; cases e
        rw [decide_eq_false n2]
        exact iteT bad
      · rw [decide_eq_false h0]
        exact iteF ⟨false, rfl, iteT bad⟩
    | _ => exact iteT bad
end
end CL
set_option Elab.async false
set_option linter.all false
set_option pp.maxSteps 600
set_option maxRecDepth 100000
set_option maxHeartbeats 4000000
namespace CL
open PySem PySem.Spec PyProof.Rows L2 GE HotX
abbrev sTold : Stmt := topS 44
theorem scTold : FnScope ["asked", "order", "thing", "found", "caught"] ["asked", "order", "thing"] (defScope sTold) := ⟨rfl, rfl, rfl, by decide +kernel, rfl, by decide +kernel, by decide +kernel⟩
/-- nothing is let out -/
theorem takes0N {X : Cx} : L2N.Takes X (fun _ _ _ _ => False) := fun _ _ x => by
  obtain ⟨_, _, _, _, _, _, _, _, _, _, _, _, _, _, _, _, z⟩ := x
  exact z.elim
/-- the classes of refusals and what they say -/
structure Refs (K : PySem.W.Frag) (mg : Str → Option Value) (G : ClsG K mg) (LE : Addr) : Prop where
  le : mg "LineError" = some (.ref LE)
  xNoOrder : ExcM K mg "NoOrder" G.aNoOrder
  eNoOrder : PySem.W.exmOne K (.ref G.aNoOrder) (.ref LE) = some true
  wNoOrder : ClsW K mg G G.aNoOrder "NoOrder"
  xNoNumber : ExcM K mg "NoNumber" G.aNoNumber
  eNoNumber : PySem.W.exmOne K (.ref G.aNoNumber) (.ref LE) = some true
  wNoNumber : ClsW K mg G G.aNoNumber "NoNumber"
theorem eqi_yes {σ : L2.St} {i : Nat} {a : Int} {D : Ends} {H : Hp} {t u : TS} (h0 : σ[i]? = some (some (.int a))) (h : t D σ H) : tIfS (tTest (tOp rEq (tVar i) (tC (.int a)))) t u D σ H := by
  refine ⟨_, h0, rfl, _, rfl, ite2 (fun _ => h) (fun y => absurd (decide_eq_true rfl) y)⟩
theorem eqi_no {σ : L2.St} {i : Nat} {a b : Int} {D : Ends} {H : Hp} {t u : TS} (h0 : σ[i]? = some (some (.int a))) (n : a ≠ b) (h : u D σ H) : tIfS (tTest (tOp rEq (tVar i) (tC (.int b)))) t u D σ H := by
  refine ⟨_, h0, rfl, _, rfl, ite2 (fun y => absurd (V.int.inj (of_decide_eq_true y)) n) (fun _ => h)⟩
def spTold (P1 P2 : Addr) : Sp := fun vs H Q _ => ∃ (asked : Int) (v u : V), vs = [.int asked, v, u] ∧ (asked = 0 ∨ asked = 1 ∨ asked = 2 ∨ asked = 3) ∧ GxR.TabG H P1 ∧ GxR.TabG H P2 ∧
  ((∃ d, Rp H v d ∧ isOrder d = false ∧ ∀ H', Ex H H' → Q (.str "NoOrder") H') ∨
   (asked = 3 ∧ ∃ ns t, OrdV H v ns ∧ isOrderI ns = true ∧ ns.length ≤ 60 ∧ Rp H u t ∧ isMost t = false ∧ ∀ H', Ex H H' → Q (.str "NoNumber") H') ∨
   (u = .int 1000000000000000000 ∧ ∃ ns, OrdV H v ns ∧ isOrderI ns = true ∧ ns.length ≤ 60 ∧ ∀ H', Ex H H' → Q (.str "told") H'))
section
variable {P : Program} {w : World} {K : PySem.W.Frag} {mg : Str → Option Value} {base : Heap} {P1 P2 : Addr}
theorem ok_told {f fL fB fS fR LE : Addr} {fd fdL fdB fdS fdR : FuncData} (F : Fun K "_law_told" "_law_told" sTold f fd) (G : ClsG K mg) (R : Refs K mg G LE) (CC : CalP P w K mg base 1 "_law_class" ["caught"] (spClass K mg G))
    (gL : mg "least_patiences" = some (.ref fL)) (kL : PySem.W.keepIn K (.ref fL) = true) (GL : FnOk P w K mg base (L2N.CX P w) 7 fL fdL ["order"] (fun vs H Q E => spLeast P1 vs H Q E ∨ badPeople P1 G.aNoOrder vs H Q E)) (bL : Binds K fdL ["order"] [])
    (gB : mg "barring" = some (.ref fB)) (kB : PySem.W.keepIn K (.ref fB) = true) (GB : FnOk P w K mg base (L2N.CX P w) 6 fB fdB ["order"] (fun vs H Q E => spBarring P1 vs H Q E ∨ badPeople P1 G.aNoOrder vs H Q E)) (bB : Binds K fdB ["order"] [])
    (gS : mg "bars" = some (.ref fS)) (kS : PySem.W.keepIn K (.ref fS) = true) (GS : FnOk P w K mg base (L2N.CX P w) 6 fS fdS ["order", "thing"] (fun vs H Q E => spBars P1 P2 vs H Q E ∨ badBars P1 G.aNoOrder vs H Q E)) (bS : Binds K fdS ["order", "thing"] [])
    (gR : mg "rows_counted" = some (.ref fR)) (kR : PySem.W.keepIn K (.ref fR) = true) (GR : FnOk P w K mg base (L2N.CX P w) 8 fR fdR ["order", "most"] (fun vs H Q E => spRowsC P1 vs H Q E ∨ badBars P1 G.aNoOrder vs H Q E ∨ badMost P1 G.aNoNumber vs H Q E)) (bR : Binds K fdR ["order", "most"] []) :
    FnOk P w K mg base CX0 9 f fd ["asked", "order", "thing"] (spTold P1 P2) := by
  refine F.ok scTold (fun vs H Q E ⟨asked, v, u, e, _⟩ => by rw [e]; rfl) (fun cdv A outer s0 H vs Q E hr h => ?_)
  obtain ⟨asked, v, u, rfl, ha, hT1, hT2, h⟩ := h
  have nd := scTold.nd
  have hrH := L2H.roomH_of hr
  refine ⟨_, (pss_cons (ps_set (i := 3) nd rfl (.inl rfl) pe_str)
    (pss_cons (L2N.ps_try_as (i := 4) (Wout := fun _ _ _ _ => False) (ts := fun a cls d D σ H => ∃ Dc, cls = .ref Dc ∧ d = none ∧ tAsg (fun σ H Q => tCons (tVar 4) tNil σ H fun vs H1 => spClass K mg G a Dc vs H1 Q E0) (gName 3) D σ H) rfl rfl nd rfl rfl ⟨rfl, by decide, .inl R.le⟩ takes0N
      (fun W pn xe tk po => (pss_one (ps_if (pt_cmpR op_eq (pv 0) pe_int (nomark _)) (pss_one (ps_expr (pe_callS GL (hr.mono (by decide)) (by rfl) gL kL bL (fun σ => L2N.passAt tk σ) (pa_cons (pv 1) pa_nil))))
        (pss_one (ps_if (pt_cmpR op_eq (pv 0) pe_int (nomark _)) (pss_one (ps_expr (pe_callS GB (hr.mono (by decide)) (by rfl) gB kB bB (fun σ => L2N.passAt tk σ) (pa_cons (pv 1) pa_nil))))
        (pss_one (ps_if (pt_cmpR op_eq (pv 0) pe_int (nomark _)) (pss_one (ps_expr (pe_callS GS (hr.mono (by decide)) (by rfl) gS kS bS (fun σ => L2N.passAt tk σ) (pa_cons (pv 1) (pa_cons (pv 2) pa_nil)))))
        (pss_one (ps_expr (pe_callS GR (hr.mono (by decide)) (by rfl) gR kR bR (fun σ => L2N.passAt tk σ) (pa_cons (pv 1) (pa_cons (pv 2) pa_nil))))))))))))
      (fun a oe cls d pn z fe => ⟨fun pins t σ H D I y => by
        obtain ⟨Dc, rfl, rfl, y⟩ := y
        obtain ⟨fvs, hfv⟩ := fe
        exact (pss_one (ps_set (i := 3) nd rfl (.inl rfl) (pe_calP CC (h := (a, oe)) (D := Dc) ⟨(hrH.mono (j := 1) (by decide)).dp, (hrH.mono (j := 1) (by decide)).un⟩ ⟨rfl, fvs, hfv, z.2.2 fvs hfv⟩ List.mem_cons_self z.zc (by rfl) (pa_cons (pv 4) pa_nil)))).run pins t σ H D I y⟩))
    (pss_one (ps_ret (pv 3))))), ?_⟩
  -- what a refusal comes to
  have held : ∀ {W : Str} {B : Addr} {H1 : Hp} {D : Ends}, PySem.W.exmOne K (.ref B) (.ref LE) = some true → ClsW K mg G B W → (∀ H', Same H1 H' → D.nx [some (.int asked), some v, some u, some (.str W), none] H') →
      wAs K (.ref LE) 4 (fun a cls d D σ H => ∃ Dc, cls = .ref Dc ∧ d = none ∧ tAsg (fun σ H Q => tCons (tVar 4) tNil σ H fun vs H1 => spClass K mg G a Dc vs H1 Q E0) (gName 3) D σ H) (fun _ _ _ _ => False) D (.ref B) none [some (.int asked), some v, some u, some (.str "told"), none] H1 := fun {W B H1 D} e c q =>
    ⟨true, e, fun _ a ha => ⟨B, rfl, rfl, .ref a, rfl, W, rfl, c, fun H' s' => q H' s'⟩, fun y => nomatch y⟩
  rcases h with ⟨d, hR, hb, q⟩ | ⟨rfl, ns, t, hO, hI, hl, hU, hb, q⟩ | ⟨rfl, ns, hO, hI, hl, q⟩
  · have out : ∀ {H1 : Hp}, Ex H H1 → ∀ H', Same H1 H' → Q (.str "NoOrder") H' := fun e1 H' s' => q H' (e1.trans (Ex.of s'))
    rcases ha with rfl | rfl | rfl | rfl
    · exact eqi_yes rfl ⟨v, rfl, .inr ⟨v, d, rfl, hR, hb, hT1, fun H1 e1 _ => held R.eNoOrder R.wNoOrder fun H2 s2 => ⟨.str "NoOrder", rfl, out e1 H2 s2⟩⟩⟩
    · exact eqi_no rfl (by decide) (eqi_yes rfl ⟨v, rfl, .inr ⟨v, d, rfl, hR, hb, hT1, fun H1 e1 _ => held R.eNoOrder R.wNoOrder fun H2 s2 => ⟨.str "NoOrder", rfl, out e1 H2 s2⟩⟩⟩)
    · exact eqi_no rfl (by decide) (eqi_no rfl (by decide) (eqi_yes rfl ⟨v, rfl, u, rfl, .inr ⟨v, u, d, rfl, hR, hb, hT1, fun H1 e1 _ => held R.eNoOrder R.wNoOrder fun H2 s2 => ⟨.str "NoOrder", rfl, out e1 H2 s2⟩⟩⟩))
    · exact eqi_no rfl (by decide) (eqi_no rfl (by decide) (eqi_no rfl (by decide) ⟨v, rfl, u, rfl, .inr (.inl ⟨v, u, d, rfl, hR, hb, hT1, fun H1 e1 _ => held R.eNoOrder R.wNoOrder fun H2 s2 => ⟨.str "NoOrder", rfl, out e1 H2 s2⟩⟩)⟩))
  · exact eqi_no rfl (by decide) (eqi_no rfl (by decide) (eqi_no rfl (by decide) ⟨v, rfl, u, rfl, .inr (.inr ⟨v, u, ns, t, rfl, hO, hI, hl, hU, hb, hT1, fun H1 e1 _ => held R.eNoNumber R.wNoNumber fun H2 s2 => ⟨.str "NoNumber", rfl, q H2 (e1.trans (Ex.of s2))⟩⟩)⟩))
  · rcases ha with rfl | rfl | rfl | rfl
    · exact eqi_yes rfl ⟨v, rfl, .inl ⟨v, ns, rfl, hO, hI, hl, hT1, fun t v' H1 _ e1 _ _ => ⟨.str "told", rfl, q H1 e1⟩⟩⟩
    · exact eqi_no rfl (by decide) (eqi_yes rfl ⟨v, rfl, .inl ⟨v, ns, rfl, hO, hI, hl, hT1, fun t v' H1 _ e1 _ _ => ⟨.str "told", rfl, q H1 e1⟩⟩⟩)
    · exact eqi_no rfl (by decide) (eqi_no rfl (by decide) (eqi_yes rfl ⟨v, rfl, _, rfl, .inl ⟨v, _, ns, .int 1000000000000000000, rfl, hO, hI, hl, .int _, hT1, hT2, fun H1 e1 _ _ => ⟨.str "told", rfl, q H1 e1⟩⟩⟩))
    · exact eqi_no rfl (by decide) (eqi_no rfl (by decide) (eqi_no rfl (by decide) ⟨v, rfl, _, rfl, .inl ⟨v, ns, 1000000000000000000, rfl, hO, hI, hl, by decide, by decide, hT1, fun H1 e1 _ => ⟨.str "told", rfl, q H1 e1⟩⟩⟩))
end
end CL
set_option Elab.async false
set_option linter.all false
set_option pp.maxSteps 600
set_option maxRecDepth 100000
set_option maxHeartbeats 4000000
namespace CL
open PySem PySem.Spec PyProof.Rows L2 GE
abbrev sNoO : Stmt := topS 45
abbrev nNoO : List Str := ["bag", "order", "at", "found"]
theorem scNoO : FnScope nNoO ["bag", "order"] (defScope sNoO) := ⟨rfl, rfl, rfl, by decide +kernel, rfl, by decide +kernel, by decide +kernel⟩
/-! ### evaluation to what is known in full -/
section
variable {c c1 c2 : Nat} {r : Bg} {W : Addr → Prop} {G : Gam} {σ : L2.St}
def EvL (c : Nat) (r : Bg) (W : Addr → Prop) (G : Gam) (σ : L2.St) (ta : TA) (ds : List PyData) : Prop := ∀ n H Q, n + c ≤ M60 → Se n r W G H → (∀ vs H', BagAt (n + c) H' r → Mv r H H' → RpAll (Hw W H') vs ds → Q vs H') → ta σ H Q
theorem evl_nil : EvL 0 r W G σ tNil [] := fun n H Q l s q => q [] H s.re (Mv.refl r H) .nil
theorem evl_cons {te : TE} {ta : TA} {d : PyData} {ds : List PyData} (e : Ev c1 r W G σ te (· = d)) (a : EvL c2 r W G σ ta ds) : EvL (c1 + c2) r W G σ (tCons te ta) (d :: ds) := fun n H Q l s q =>
  e n H _ (by omega) s fun v d' H1 re1 m1 rp1 p1 => a (n + c1) H1 _ (by omega) (s.mv re1 m1) fun vs H2 re2 m2 rp2 => q (v :: vs) H2 re2.to (m1.trans m2) (.cons (Rp.sm (m2.hw s.wk.bag) (by rw [← p1]; exact rp1)) rp2)
theorem RpAll.len {H : Hp} {vs : List V} {ds : List PyData} (h : RpAll H vs ds) : vs.length = ds.length := h.length
theorem evx_lst {ta : TA} {ds : List PyData} (a : EvL c r W G σ ta ds) (hn : ds.length ≤ 1000 := by decide) : Ev c r W G σ (tLst ta) (· = .list ds) := fun n H Q l s q =>
  a n H _ l s fun vs H1 re1 m1 rp1 => ⟨small_le (by rw [rp1.length]; exact hn), fun p np => q (.ref p) (.list ds) _ (re1.same (same_upd np)) (m1.trans (Mv.of (same_upd np)))
    (.lst (by rw [Hw.at ((s.wk.mv re1 m1).out np)]; exact upd_same) (RpAll.sm (Same.hw (same_upd np)) rp1)) rfl⟩
theorem evx_tup {ta : TA} {ds : List PyData} (a : EvL c r W G σ ta ds) (hn : ds.length ≤ 1000 := by decide) : Ev c r W G σ (tTup ta) (· = .tuple ds) := fun n H Q l s q =>
  a n H _ l s fun vs H1 re1 m1 rp1 => ⟨small_le (by rw [rp1.length]; exact hn), fun p np => q (.ref p) (.tuple ds) _ (re1.same (same_upd np)) (m1.trans (Mv.of (same_upd np)))
    (.tup (by rw [Hw.at ((s.wk.mv re1 m1).out np)]; exact upd_same) (RpAll.sm (Same.hw (same_upd np)) rp1)) rfl⟩
theorem evx_cat {ta tb : TE} {ds es : List PyData} (a : Ev c1 r W G σ ta (· = .list ds)) (b : Ev c2 r W G σ tb (· = .list es)) (hn : ds.length ≤ 1000) (hm : es.length ≤ 1000) : Ev (c1 + c2) r W G σ (tOp rCat ta tb) (· = .list (ds ++ es)) :=
  ev_catG a b fun _ _ e1 e2 => ⟨ds, es, e1, e2, hn, hm, rfl⟩
theorem xi (i : Int) : Ev 0 r W G σ (tC (.int i)) (· = .int i) := (ev_int (i := i)).ev fun j e => by rw [e]
theorem xn : Ev 0 r W G σ (tC .non) (· = .none) := ev_non rfl
theorem xb (b : Bool) : Ev 0 r W G σ (tC (.bl b)) (· = .bool b) := ev_bl rfl
theorem xs (x : Str) : Ev 0 r W G σ (tC (.str x)) (· = .str x) := ev_str rfl
/-- the first ones, the others -/
theorem evx_to {K : PySem.W.Frag} {te ti : TE} {ds : List PyData} {k : Nat} (a : Ev c1 r W G σ te (· = .list ds)) (b : EvI c2 r W G σ ti (· = (k : Int))) : Ev (c1 + 0 + c2) r W G σ (tSl (rSlL K) te tNoPart (tPart ti)) (· = .list (ds.take k)) :=
  ev_slG (K := K) (PL := fun l => l = none) (PH := fun l => ∃ i, l = some i ∧ i = (k : Int)) a part_none (part_some b) fun d l u e1 e2 ⟨i, e3, e4⟩ => ⟨ds, e1, by
    subst e2 e3 e4
    have e0 : HT.sIx ds.length 0 none = 0 := rfl
    have e1 : HT.sIx ds.length ds.length (some (k : Int)) = min k ds.length := by
      show (if (k : Int) < 0 then ((k : Int) + (ds.length : Int)).toNat else min ((k : Int)).toNat ds.length) = _
      rw [if_neg (by omega), Int.toNat_natCast]
    rw [e0, e1, List.drop_zero, Nat.sub_zero, ← List.take_eq_take_min]⟩
theorem evx_from {K : PySem.W.Frag} {te ti : TE} {ds : List PyData} {k : Nat} (a : Ev c1 r W G σ te (· = .list ds)) (b : EvI c2 r W G σ ti (· = (k : Int))) (hk : k ≤ ds.length) : Ev (c1 + c2 + 0) r W G σ (tSl (rSlL K) te (tPart ti) tNoPart) (· = .list (ds.drop k)) :=
  ev_slG (K := K) (PL := fun l => ∃ i, l = some i ∧ i = (k : Int)) (PH := fun l => l = none) a (part_some b) part_none fun d l u e1 ⟨i, e3, e4⟩ e2 => ⟨ds, e1, by
    subst e2 e3 e4
    have e0 : HT.sIx ds.length ds.length none = ds.length := rfl
    have e1 : HT.sIx ds.length 0 (some (k : Int)) = k := by
      show (if (k : Int) < 0 then ((k : Int) + (ds.length : Int)).toNat else min ((k : Int)).toNat ds.length) = _
      rw [if_neg (by omega), Int.toNat_natCast]
      omega
    rw [e0, e1, List.take_of_length_le (by rw [List.length_drop]; exact Nat.le_refl _)]⟩
end
/-! ### what is no order -/
def noO (k : Nat) (ns : List Int) : List PyData :=
  ([.none, .int 0, .bool true, .str "", .str "0", .dict [], .list [.int 1], .list [.int 0, .int 0], .list [.int (-1), .int 0], .list [.int 0, .bool true], .list [.none], .list [.str "0"], .list [.list [.int 0]], .list ((up 61).map PyData.int)] ++
   [.list ((intsD ns).take k ++ [.int ((ns.length : Int) + 1)] ++ (intsD ns).drop k), .list (intsD ns ++ (intsD ns).take 1 ++ [.none])]) ++
  [.list ((intsD ns).take k ++ [.list (intsD ns)] ++ (intsD ns).drop k), .list (intsD ns ++ [.int 1000000000000000000000000000000]), .list [.int 2, .int 0], .tuple [.int 1, .int 2, .int 3], .list [.int 0, .int 1, .int 3]]
theorem isO_kind {ds : List PyData} {x : PyData} (hx : x ∈ ds) (h : isWhole x = false) : isOrder (.list ds) = false := by
  show isOrderL ds = false
  unfold isOrderL
  have : ds.all isWhole = false := by
    cases e : ds.all isWhole with
    | false => rfl
    | true => rw [List.all_eq_true.mp e x hx] at h; cases h
  rw [this, Bool.and_false, Bool.false_and]
theorem isO_far {ns : List Int} {x : Int} (hx : x ∈ ns) (h : (ns.length : Int) ≤ x) : isOrder (.list (intsD ns)) = false := by
  show isOrderL (intsD ns) = false
  unfold isOrderL
  rw [ints_worth]
  have : isOrderI ns = false := by
    cases e : isOrderI ns with
    | false => rfl
    | true =>
      obtain ⟨i, hi, e2⟩ := up_mem.mp ((ord_perm e).mem_iff.mp hx)
      omega
  rw [this, Bool.and_false]
theorem noO_bad {k : Nat} {ns : List Int} (hk : k ≤ ns.length) (hl : ns.length ≤ 60) : ∀ x ∈ noO k ns, isOrder x = false := by
  intro x hx
  unfold noO at hx
  simp only [List.mem_append, List.mem_cons, List.not_mem_nil, or_false] at hx
  rcases hx with ((rfl | rfl | rfl | rfl | rfl | rfl | rfl | rfl | rfl | rfl | rfl | rfl | rfl | rfl) | rfl | rfl) | rfl | rfl | rfl | rfl | rfl
  iterate 14 (first | rfl | decide +kernel)
  · have e : (intsD ns).take k ++ [PyData.int ((ns.length : Int) + 1)] ++ (intsD ns).drop k = intsD (ns.take k ++ [(ns.length : Int) + 1] ++ ns.drop k) := by
      unfold intsD
      rw [List.map_append, List.map_append, List.map_take, List.map_drop]
      rfl
    rw [e]
    refine isO_far (x := (ns.length : Int) + 1) (by simp) ?_
    rw [List.length_append, List.length_append, List.length_take, List.length_drop]
    show ((min k ns.length + 1 + (ns.length - k) : Nat) : Int) ≤ _
    omega
  · exact isO_kind (x := .none) (by simp) rfl
  · exact isO_kind (x := .list (intsD ns)) (by simp) rfl
  · have e : intsD ns ++ [PyData.int 1000000000000000000000000000000] = intsD (ns ++ [1000000000000000000000000000000]) := by
      unfold intsD
      rw [List.map_append]
      rfl
    rw [e]
    refine isO_far (x := 1000000000000000000000000000000) (by simp) ?_
    rw [List.length_append]
    show ((ns.length + 1 : Nat) : Int) ≤ _
    omega
  iterate 3 (first | rfl | decide +kernel)
theorem all_app {ds es : List PyData} : wtAll (ds ++ es) = wtAll ds + wtAll es ∧ (PyData.depthAll (ds ++ es) = max (PyData.depthAll ds) (PyData.depthAll es)) ∧ (PyData.showableAll (ds ++ es) = (PyData.showableAll ds && PyData.showableAll es)) := by
  induction ds with
  | nil => exact ⟨by simp [wtAll], by simp [PyData.depthAll], by simp [PyData.showableAll]⟩
  | cons d ds ih =>
    obtain ⟨h1, h2, h3⟩ := ih
    refine ⟨?_, ?_, ?_⟩
    · show wt d + 2 + wtAll (ds ++ es) = wt d + 2 + wtAll ds + wtAll es
      omega
    · show max _ (PyData.depthAll (ds ++ es)) = max (max _ (PyData.depthAll ds)) (PyData.depthAll es)
      rw [h2, Nat.max_assoc]
    · simp [PyData.showableAll, h3, Bool.and_assoc]
/-- many things, and one more within -/
theorem B.ins {k u U n : Nat} {ds es : List PyData} {x : PyData} (ha : ∀ y ∈ ds, B k u y) (hx : B k U x) (hb : ∀ y ∈ es, B k u y) (hn : ds.length + es.length ≤ n) : B (k + 1) (n * (u + 2) + U + 6) (.list (ds ++ [x] ++ es)) := by
  obtain ⟨a1, a2, a3⟩ := all_bnd ha
  obtain ⟨b1, b2, b3⟩ := all_bnd hb
  obtain ⟨c1, c2, c3⟩ := all_app (ds := ds ++ [x]) (es := es)
  obtain ⟨d1, d2, d3⟩ := all_app (ds := ds) (es := [x])
  have e1 : wtAll [x] = CL.wt x + 2 + 0 := rfl
  have e2 : PyData.depthAll [x] = max x.depth 0 := rfl
  have e3 : PyData.showableAll [x] = true := by simp [PyData.showableAll, hx.sh]
  have hw := hx.wt
  have hd := hx.dp
  have m := Nat.mul_le_mul_right (u + 2) hn
  rw [Nat.add_mul] at m
  refine ⟨?_, ?_, ?_⟩
  · show PyData.depthAll (ds ++ [x] ++ es) + 1 ≤ k + 1
    rw [c2, d2, e2]
    have : max (max (PyData.depthAll ds) (max x.depth 0)) (PyData.depthAll es) ≤ k := Nat.max_le.mpr ⟨Nat.max_le.mpr ⟨a1, Nat.max_le.mpr ⟨hd, Nat.zero_le _⟩⟩, b1⟩
    omega
  · show wtAll (ds ++ [x] ++ es) + 4 ≤ _
    rw [c1, d1, e1]
    omega
  · rw [show PyData.showable (.list (ds ++ [x] ++ es)) = PyData.showableAll (ds ++ [x] ++ es) from by simp only [PyData.showable], c3, d3, e3, a3, b3]
    rfl
theorem b_ints {k : Nat} {ns : List Int} (h : ∀ x ∈ ns, 0 ≤ x ∧ x < 1000) : ∀ y ∈ intsD ns, B k 200 y := fun y hy => by
  obtain ⟨i, hi, rfl⟩ := List.mem_map.mp hy
  exact b_int (small140 (h i hi).1 (h i hi).2)
theorem noO_b {k : Nat} {ns : List Int} (hF : Few ns) : ∀ x ∈ noO k ns, B 3 25000 x := by
  intro x hx
  have hl : (intsD ns).length = ns.length := List.length_map ..
  have h60 := hF.1
  have all := b_ints (k := 1) hF.2
  have tk : ∀ y ∈ (intsD ns).take k, B 1 200 y := fun y hy => all y (List.mem_of_mem_take hy)
  have dr : ∀ y ∈ (intsD ns).drop k, B 1 200 y := fun y hy => all y (List.mem_of_mem_drop hy)
  have ltd : ((intsD ns).take k).length + ((intsD ns).drop k).length ≤ 60 := by rw [List.length_take, List.length_drop]; omega
  unfold noO at hx
  simp only [List.mem_append, List.mem_cons, List.not_mem_nil, or_false] at hx
  rcases hx with ((rfl | rfl | rfl | rfl | rfl | rfl | rfl | rfl | rfl | rfl | rfl | rfl | rfl | rfl) | rfl | rfl) | rfl | rfl | rfl | rfl | rfl
  iterate 14 (exact ⟨by decide +kernel, by decide +kernel, by decide +kernel⟩)
  · exact (B.ins tk (b_int (k := 1) (i := (ns.length : Int) + 1) (by have h9 : (1000 : Nat) ≤ 2 ^ 140 := (by decide); omega)) dr ltd).mono (by decide) (by decide)
  · refine (B.ins (ds := intsD ns ++ (intsD ns).take 1) (x := .none) (es := []) (n := 61) (fun y hy => (List.mem_append.mp hy).elim (all y) fun h => all y (List.mem_of_mem_take h)) (b_none (k := 1)) (fun y hy => nomatch hy) ?_).mono (by decide) (by decide) |> fun h => by rw [List.append_nil] at h; exact h
    rw [List.length_append, List.length_take]
    show _ + 0 ≤ 61
    omega
  · exact (B.ins tk ((B.list (k := 0) (u := 200) (n := 60) (b_ints hF.2) (by omega)).mono (by decide) (by decide) : B 1 12500 (.list (intsD ns))) dr ltd).mono (by decide) (by decide)
  · refine (B.ins (ds := intsD ns) (x := .int 1000000000000000000000000000000) (es := []) (n := 60) all (b_int (k := 1) (by decide +kernel)) (fun y hy => nomatch hy) ?_).mono (by decide) (by decide) |> fun h => by rw [List.append_nil] at h; exact h
    show _ + 0 ≤ 60
    omega
  iterate 3 (exact ⟨by decide +kernel, by decide +kernel, by decide +kernel⟩)
def spNoO (r : Bg) : Sp := fun vs H Q _ => ∃ (v : V) (ns : List Int) (n : Nat) (W : Addr → Prop), vs = [.ref r.a, v] ∧ n + 1 ≤ M60 ∧ BagAt n H r ∧ Wk W H r ∧ Rp (Hw W H) v (.list (intsD ns)) ∧ ns.length ≤ 60 ∧ ∀ v' (k : Nat) H', k ≤ ns.length → BagAt (n + 1) H' r → Mv r H H' → Rp (Hw W H') v' (.list (noO k ns)) → Q v' H'
section
variable {P : Program} {w : World} {K : PySem.W.Frag} {mg : Str → Option Value} {base : Heap}
theorem ok_noO {f : Addr} {r : Bg} {fd : FuncData} (F : Fun K "_law_no_orders" "_law_no_orders" sNoO f fd) (T : Nm mg) (CD : Cal P w K mg base 2 "_law_draw" ["bag", "many"] (spDraw r)) : FnOk P w K mg base CX0 3 f fd ["bag", "order"] (spNoO r) := by
  refine F.ok scNoO (fun vs H Q E ⟨v, ns, n, W, e, _⟩ => by rw [e]; rfl) (fun cdv A outer s H vs Q E hr h => ?_)
  obtain ⟨v, ns, n, W, rfl, hn, hb, hW, hR, hl, q⟩ := h
  have nd := scNoO.nd
  refine ⟨_, (pss_cons (ps_set (i := 2) nd rfl (.inl rfl) (pe_cal CD hr (by rfl) (pa_cons (pv 0) (pa_cons (pe_op op_add (pe_callB call_len_seq (by rfl) T.len PySem.boot_len (pa_cons (pv 1) pa_nil)) pe_int) pa_nil))))
      (pss_cons (ps_set (i := 3) nd rfl (.inl rfl) (pe_lst (pa_cons pe_non (pa_cons pe_int (pa_cons pe_bl (pa_cons pe_str (pa_cons pe_str (pa_cons pe_dnewK (pa_cons (pe_lst (pa_cons pe_int pa_nil)) (pa_cons (pe_lst (pa_cons pe_int (pa_cons pe_int pa_nil))) (pa_cons (pe_lst (pa_cons (pe_un un_neg pe_int) (pa_cons pe_int pa_nil))) (pa_cons (pe_lst (pa_cons pe_int (pa_cons pe_bl pa_nil))) (pa_cons (pe_lst (pa_cons pe_non pa_nil)) (pa_cons (pe_lst (pa_cons pe_str pa_nil)) (pa_cons (pe_lst (pa_cons (pe_lst (pa_cons pe_int pa_nil)) pa_nil)) (pa_cons (pe_listRg rfl (by rfl) T.list (prg_1 (by rfl) T.range pe_int)) pa_nil))))))))))))))))
      (pss_cons (ps_set (i := 3) nd rfl (.inl rfl) (pe_op op_cat (pv 3) (pe_lst (pa_cons (pe_op op_cat (pe_op op_cat (pe_slice sl_list (pv 1) po_none (po_some (pv 2))) (pe_lst (pa_cons (pe_op op_add (pe_callB call_len_seq (by rfl) T.len PySem.boot_len (pa_cons (pv 1) pa_nil)) pe_int) pa_nil))) (pe_slice sl_list (pv 1) (po_some (pv 2)) po_none)) (pa_cons (pe_op op_cat (pe_op op_cat (pv 1) (pe_slice sl_list (pv 1) po_none (po_some pe_int))) (pe_lst (pa_cons pe_non pa_nil))) pa_nil)))))
      (pss_one (ps_ret (pe_op op_cat (pv 3) (pe_lst (pa_cons (pe_op op_cat (pe_op op_cat (pe_slice sl_list (pv 1) po_none (po_some (pv 2))) (pe_lst (pa_cons (pv 1) pa_nil))) (pe_slice sl_list (pv 1) (po_some (pv 2)) po_none)) (pa_cons (pe_op op_cat (pv 1) (pe_lst (pa_cons (pe_op op_pow pe_int pe_int) pa_nil))) (pa_cons (pe_lst (pa_cons pe_int (pa_cons pe_int pa_nil))) (pa_cons (pe_tup (pa_cons pe_int (pa_cons pe_int (pa_cons pe_int pa_nil)))) (pa_cons (pe_lst (pa_cons pe_int (pa_cons pe_int (pa_cons pe_int pa_nil)))) pa_nil)))))))))))), ?_⟩
  have t140 : (2 : Int) ^ 140 = 1393796574908163946345982392040522594123776 := by decide +kernel
  have hS : Se n r W [(v, .list (intsD ns))] H := ⟨hb, hW, GOk.cons (fun p hp => nomatch hp) hR⟩
  have ln : (intsD ns).length = ns.length := List.length_map ..
  refine evi_set (ev_draw (evi_add (ev_len (K := K) (v := v) rfl List.mem_cons_self) (ev_int (i := 1))) rfl (by omega) (by rw [t140]; omega)) (by omega) hS fun kz H1 S1 m1 hz => ?_
  rw [ln] at hz
  obtain ⟨k, rfl⟩ : ∃ k : Nat, kz = (k : Int) := ⟨kz.toNat, by omega⟩
  have hk : k ≤ ns.length := by omega
  have evO : ∀ {G' : Gam} {y : Option V}, (v, PyData.list (intsD ns)) ∈ G' → Ev 0 r W G' [some (.ref r.a), some v, some (.int (k : Int)), y] (tVar 1) (· = .list (intsD ns)) := fun h => ev_var (i := 1) rfl h rfl
  have evK : ∀ {G' : Gam} {y : Option V}, EvI 0 r W G' [some (.ref r.a), some v, some (.int (k : Int)), y] (tVar 2) (· = (k : Int)) := ev_varI (i := 2) rfl
  have evN : ∀ {G' : Gam} {y : Option V}, (v, PyData.list (intsD ns)) ∈ G' → Ev (0 + 0) r W G' [some (.ref r.a), some v, some (.int (k : Int)), y] (tOp (rI0 fun i j => .int (i + j)) (tCB (fun xs H Q => ∃ p ys, xs = [.ref p] ∧ (SqL K H p ys ∨ SqT K H p ys) ∧ Q (.int ys.length) H) (tCons (tVar 1) tNil)) (tC (.int 1))) (· = .int ((ns.length : Int) + 1)) := fun h => (evi_add (ev_len (K := K) (i := 1) (v := v) rfl h) (ev_int (i := 1))).ev fun j e => by rw [e, ln]
  show tSeq _ _ _ [some (.ref r.a), some v, some (.int (k : Int)), none] H1
  refine ev_set (P := (· = .list [.none, .int 0, .bool true, .str "", .str "0", .dict [], .list [.int 1], .list [.int 0, .int 0], .list [.int (-1), .int 0], .list [.int 0, .bool true], .list [.none], .list [.str "0"], .list [.list [.int 0]], .list ((up 61).map PyData.int)])) (evx_lst (evl_cons xn (evl_cons (xi (0)) (evl_cons (xb true) (evl_cons (xs "") (evl_cons (xs "0") (evl_cons (ev_dict rfl) (evl_cons (evx_lst (evl_cons (xi (1)) evl_nil) (by show 1 ≤ 1000; decide)) (evl_cons (evx_lst (evl_cons (xi (0)) (evl_cons (xi (0)) evl_nil)) (by show 2 ≤ 1000; decide)) (evl_cons (evx_lst (evl_cons ((evi_neg (x := 1)).ev fun j e => by rw [e]) (evl_cons (xi (0)) evl_nil)) (by show 2 ≤ 1000; decide)) (evl_cons (evx_lst (evl_cons (xi (0)) (evl_cons (xb true) evl_nil)) (by show 2 ≤ 1000; decide)) (evl_cons (evx_lst (evl_cons xn evl_nil) (by show 1 ≤ 1000; decide)) (evl_cons (evx_lst (evl_cons (xs "0") evl_nil) (by show 1 ≤ 1000; decide)) (evl_cons (evx_lst (evl_cons (evx_lst (evl_cons (xi (0)) evl_nil) (by show 1 ≤ 1000; decide)) evl_nil) (by show 1 ≤ 1000; decide)) (evl_cons (ev_range (k := 61) (by decide) rfl) evl_nil)))))))))))))) (by show 14 ≤ 1000; decide)) (by omega) S1 fun f1 d1 H2 S2 m2 h1 => ?_
  subst h1
  show tSeq _ _ _ [some (.ref r.a), some v, some (.int (k : Int)), some f1] H2
  refine ev_set (P := (· = .list ([.none, .int 0, .bool true, .str "", .str "0", .dict [], .list [.int 1], .list [.int 0, .int 0], .list [.int (-1), .int 0], .list [.int 0, .bool true], .list [.none], .list [.str "0"], .list [.list [.int 0]], .list ((up 61).map PyData.int)] ++ [.list ((intsD ns).take k ++ [.int ((ns.length : Int) + 1)] ++ (intsD ns).drop k), .list (intsD ns ++ (intsD ns).take 1 ++ [.none])]))) (evx_cat (ev_var (i := 3) rfl List.mem_cons_self rfl) (evx_lst (evl_cons (evx_cat (evx_cat (evx_to (K := K) (evO (List.mem_cons_of_mem _ List.mem_cons_self)) evK) (evx_lst (evl_cons (evN (List.mem_cons_of_mem _ List.mem_cons_self)) evl_nil) (by show 1 ≤ 1000; decide)) (by first | omega | (simp only [List.length_append, List.length_take, List.length_drop, List.length_cons, List.length_nil, ln]; done) | (simp only [List.length_append, List.length_take, List.length_drop, List.length_cons, List.length_nil, ln]; omega)) (by first | omega | (simp only [List.length_append, List.length_take, List.length_drop, List.length_cons, List.length_nil, ln]; done) | (simp only [List.length_append, List.length_take, List.length_drop, List.length_cons, List.length_nil, ln]; omega))) (evx_from (K := K) (evO (List.mem_cons_of_mem _ List.mem_cons_self)) evK (by omega)) (by first | omega | (simp only [List.length_append, List.length_take, List.length_drop, List.length_cons, List.length_nil, ln]; done) | (simp only [List.length_append, List.length_take, List.length_drop, List.length_cons, List.length_nil, ln]; omega)) (by first | omega | (simp only [List.length_append, List.length_take, List.length_drop, List.length_cons, List.length_nil, ln]; done) | (simp only [List.length_append, List.length_take, List.length_drop, List.length_cons, List.length_nil, ln]; omega))) (evl_cons (evx_cat (evx_cat (evO (List.mem_cons_of_mem _ List.mem_cons_self)) (evx_to (K := K) (k := 1) (evO (List.mem_cons_of_mem _ List.mem_cons_self)) (ev_int (i := 1))) (by first | omega | (simp only [List.length_append, List.length_take, List.length_drop, List.length_cons, List.length_nil, ln]; done) | (simp only [List.length_append, List.length_take, List.length_drop, List.length_cons, List.length_nil, ln]; omega)) (by first | omega | (simp only [List.length_append, List.length_take, List.length_drop, List.length_cons, List.length_nil, ln]; done) | (simp only [List.length_append, List.length_take, List.length_drop, List.length_cons, List.length_nil, ln]; omega))) (evx_lst (evl_cons xn evl_nil) (by show 1 ≤ 1000; decide)) (by first | omega | (simp only [List.length_append, List.length_take, List.length_drop, List.length_cons, List.length_nil, ln]; done) | (simp only [List.length_append, List.length_take, List.length_drop, List.length_cons, List.length_nil, ln]; omega)) (by first | omega | (simp only [List.length_append, List.length_take, List.length_drop, List.length_cons, List.length_nil, ln]; done) | (simp only [List.length_append, List.length_take, List.length_drop, List.length_cons, List.length_nil, ln]; omega))) evl_nil)) (by show 2 ≤ 1000; decide)) (by decide) (by show 2 ≤ 1000; decide)) (by omega) S2 fun f2 d2 H3 S3 m3 h2 => ?_
  subst h2
  have E := evx_cat (σ := [some (.ref r.a), some v, some (.int (k : Int)), some f2]) (W := W) (ds := [.none, .int 0, .bool true, .str "", .str "0", .dict [], .list [.int 1], .list [.int 0, .int 0], .list [.int (-1), .int 0], .list [.int 0, .bool true], .list [.none], .list [.str "0"], .list [.list [.int 0]], .list ((up 61).map PyData.int)] ++ [.list ((intsD ns).take k ++ [.int ((ns.length : Int) + 1)] ++ (intsD ns).drop k), .list (intsD ns ++ (intsD ns).take 1 ++ [.none])]) (ev_var (i := 3) (G := (f2, .list ([.none, .int 0, .bool true, .str "", .str "0", .dict [], .list [.int 1], .list [.int 0, .int 0], .list [.int (-1), .int 0], .list [.int 0, .bool true], .list [.none], .list [.str "0"], .list [.list [.int 0]], .list ((up 61).map PyData.int)] ++ [.list ((intsD ns).take k ++ [.int ((ns.length : Int) + 1)] ++ (intsD ns).drop k), .list (intsD ns ++ (intsD ns).take 1 ++ [.none])])) :: (f1, .list [.none, .int 0, .bool true, .str "", .str "0", .dict [], .list [.int 1], .list [.int 0, .int 0], .list [.int (-1), .int 0], .list [.int 0, .bool true], .list [.none], .list [.str "0"], .list [.list [.int 0]], .list ((up 61).map PyData.int)]) :: [(v, .list (intsD ns))]) rfl List.mem_cons_self rfl) (evx_lst (evl_cons (evx_cat (evx_cat (evx_to (K := K) (evO (List.mem_cons_of_mem _ (List.mem_cons_of_mem _ List.mem_cons_self))) evK) (evx_lst (evl_cons (evO (List.mem_cons_of_mem _ (List.mem_cons_of_mem _ List.mem_cons_self))) evl_nil) (by show 1 ≤ 1000; decide)) (by first | omega | (simp only [List.length_append, List.length_take, List.length_drop, List.length_cons, List.length_nil, ln]; done) | (simp only [List.length_append, List.length_take, List.length_drop, List.length_cons, List.length_nil, ln]; omega)) (by first | omega | (simp only [List.length_append, List.length_take, List.length_drop, List.length_cons, List.length_nil, ln]; done) | (simp only [List.length_append, List.length_take, List.length_drop, List.length_cons, List.length_nil, ln]; omega))) (evx_from (K := K) (evO (List.mem_cons_of_mem _ (List.mem_cons_of_mem _ List.mem_cons_self))) evK (by omega)) (by first | omega | (simp only [List.length_append, List.length_take, List.length_drop, List.length_cons, List.length_nil, ln]; done) | (simp only [List.length_append, List.length_take, List.length_drop, List.length_cons, List.length_nil, ln]; omega)) (by first | omega | (simp only [List.length_append, List.length_take, List.length_drop, List.length_cons, List.length_nil, ln]; done) | (simp only [List.length_append, List.length_take, List.length_drop, List.length_cons, List.length_nil, ln]; omega))) (evl_cons (evx_cat (evO (List.mem_cons_of_mem _ (List.mem_cons_of_mem _ List.mem_cons_self))) (evx_lst (evl_cons ((evi_pow (x := 10) (y := 30) ⟨by decide, by decide, by decide⟩).ev fun j e => by rw [e] <;> exact congrArg PyData.int (by decide +kernel)) evl_nil) (by show 1 ≤ 1000; decide)) (by first | omega | (simp only [List.length_append, List.length_take, List.length_drop, List.length_cons, List.length_nil, ln]; done) | (simp only [List.length_append, List.length_take, List.length_drop, List.length_cons, List.length_nil, ln]; omega)) (by first | omega | (simp only [List.length_append, List.length_take, List.length_drop, List.length_cons, List.length_nil, ln]; done) | (simp only [List.length_append, List.length_take, List.length_drop, List.length_cons, List.length_nil, ln]; omega))) (evl_cons (evx_lst (evl_cons (xi (2)) (evl_cons (xi (0)) evl_nil)) (by show 2 ≤ 1000; decide)) (evl_cons (evx_tup (evl_cons (xi (1)) (evl_cons (xi (2)) (evl_cons (xi (3)) evl_nil))) (by show 3 ≤ 1000; decide)) (evl_cons (evx_lst (evl_cons (xi (0)) (evl_cons (xi (1)) (evl_cons (xi (3)) evl_nil))) (by show 3 ≤ 1000; decide)) evl_nil))))) (by show 5 ≤ 1000; decide)) (by show 16 ≤ 1000; decide) (by show 5 ≤ 1000; decide)
  exact E _ H3 _ (by omega) S3 fun v' d' H4 b4 m4 rp p => q v' k H4 hk b4.to ((m1.trans m2).trans (m3.trans m4)) (by rw [p] at rp; exact rp)
end
end CL
set_option Elab.async false
set_option linter.all false
set_option pp.maxSteps 600
set_option maxRecDepth 100000
set_option maxHeartbeats 4000000
namespace CL
open PySem PySem.Spec PyProof.Rows L2 GE
abbrev sLaw : Stmt := topS 46
abbrev nLaw : List Str := ["script", "bag", "turn", "order", "some", "odd", "kept", "bad", "told", "asked", "one"]
theorem scLaw : FnScope nLaw ["script"] (defScope sLaw) := ⟨rfl, rfl, rfl, by decide +kernel, rfl, by decide +kernel, by decide +kernel⟩
def PO (d : PyData) : Prop := ∃ ns : List Int, d = .list (intsD ns) ∧ isOrderI ns = true ∧ ns.length ≤ 60
theorem ord_ic {ys : List Nat} {k : Nat} (h : ys.Perm (List.range k)) : isOrderI (ic ys) = true := by
  unfold isOrderI
  have l : (ic ys).length = k := by unfold ic; rw [List.length_map, h.length_eq, List.length_range]
  rw [l, List.all_eq_true]
  intro i hi
  exact decide_eq_true (List.mem_map.mpr ⟨i, h.mem_iff.mpr hi, rfl⟩)
section
variable {c c1 c2 : Nat} {r : Bg} {W : Addr → Prop} {G : Gam} {σ : L2.St}
theorem ev_drawE {k : Nat} {tm : TE} {m : Int} (e : EvI c r W G σ tm (· = m)) (h0 : σ[k]? = some (some (.ref r.a))) (h1 : 1 ≤ m) (h2 : m < 2 ^ 140) : EvI (c + 1) r W G σ (tCall (spE spDraw) [] E0 (tCons (tVar k) (tCons tm tNil))) (fun x => 0 ≤ x ∧ x < m) := fun n H Q l s q =>
  ⟨.ref r.a, h0, e n H _ (by omega) s fun i H1 re1 m1 e1 => ⟨r, m, n + c, by rw [e1]; rfl, re1, by omega, h1, h2, fun x H' re' m' x0 x1 => q x H' re'.to (m1.trans m') ⟨x0, x1⟩⟩⟩
theorem ev_order {k : Nat} {tm : TE} (e : Ev c r W G σ tm (fun d => ∃ m : Nat, d = .int (m : Int) ∧ m ≤ 60)) (h0 : σ[k]? = some (some (.ref r.a))) : Ev (c + 501) r W G σ (tCall (spE spOrder) [] E0 (tCons (tVar k) (tCons tm tNil))) PO := fun n H Q l s q =>
  ⟨.ref r.a, h0, e n H _ (by omega) s fun v d H1 b1 m1 rp ⟨m, e1, hm⟩ => by
    subst e1
    cases rp
    exact ⟨r, m, n + c, rfl, b1, by omega, hm, fun T H' ys k b2 m2 nT off eT hk hp => q (.ref T) (.list (intsD (ic ys))) H' b2.to (m1.trans m2) (.lst (by rw [Hw.at fun z => (s.wk.mv b1 m1).trk T z nT, eT, ppl_ic]) (rp_intsA (ic ys))) ⟨ic ys, rfl, ord_ic hp, by unfold ic; rw [List.length_map, hp.length_eq, List.length_range]; omega⟩⟩⟩
theorem ev_noO {k : Nat} {tx : TE} {ns : List Int} (e : Ev c r W G σ tx (· = .list (intsD ns))) (hl : ns.length ≤ 60) (h0 : σ[k]? = some (some (.ref r.a))) : Ev (c + 1) r W G σ (tCall (spE spNoO) [] E0 (tCons (tVar k) (tCons tx tNil))) (fun d => ∃ m, m ≤ ns.length ∧ d = .list (noO m ns)) := fun n H Q l s q =>
  ⟨.ref r.a, h0, e n H _ (by omega) s fun v d H1 b1 m1 rp e1 => ⟨r, v, ns, n + c, W, rfl, by omega, b1, s.wk.mv b1 m1, (by rw [← e1]; exact rp), hl, fun v' m H' hm b' m' rp' => q v' _ H' b'.to (m1.trans m') rp' ⟨m, hm, rfl⟩⟩⟩
end
def oddL : List PyData := [.none, .int (-1), .bool true, .str "1", .list [.int 1], .tuple [], .int 1000000000000000001, .int 1000000000000000000000000000000000000000]
theorem oddL_b : ∀ x ∈ oddL, B 3 25000 x := by
  intro x hx
  simp only [oddL, List.mem_cons, List.not_mem_nil, or_false] at hx
  rcases hx with rfl | rfl | rfl | rfl | rfl | rfl | rfl | rfl <;> exact ⟨by decide +kernel, by decide +kernel, by decide +kernel⟩
theorem oddL_bad : ∀ x ∈ oddL, isMost x = false := by
  intro x hx
  simp only [oddL, List.mem_cons, List.not_mem_nil, or_false] at hx
  rcases hx with rfl | rfl | rfl | rfl | rfl | rfl | rfl | rfl <;> decide +kernel
/-- many times the same word -/
abbrev wsV (n : Nat) (x : Str) : List V := List.replicate n (V.str x)
abbrev wsD (n : Nat) (x : Str) : PyData := .list (List.replicate n (PyData.str x))
theorem ws_dp {K : PySem.W.Frag} {H : Hp} (x : Str) : ∀ n, DpAll K H (wsV n x) (List.replicate n (PyData.str x))
  | 0 => .nil
  | n + 1 => .cons (.str x) (ws_dp x n)
theorem ex_updN {H H1 : Hp} {b : Addr} {o : HO} (e : Ex H H1) (n : H b = none) : Ex H (upd H1 b o) := fun c o' h => by
  have ne : c ≠ b := fun z => by rw [z, n] at h; cases h
  rw [upd_ne ne]
  exact e c o' h
theorem se_item {n : Nat} {r : Bg} {W : Addr → Prop} {G : Gam} {H : Hp} (s : Se n r W G H) {D : Addr} {ds : List PyData} {xs : List V} {j : Nat} {x : V} (m : (V.ref D, PyData.list ds) ∈ G) (h : H D = some (.lst xs)) (hx : xs[j]? = some x) : ∃ dx, ds[j]? = some dx ∧ Rp H x dx := by
  obtain ⟨D', ys, e, h2, h3⟩ := rp_list (s.ok _ m)
  cases e
  have h2 := Hw.sub _ H _ _ h2
  rw [h] at h2
  cases h2
  obtain ⟨dx, hd, hr⟩ := h3.get hx
  exact ⟨dx, hd, Rp.sm (Hw.sub _ _) hr⟩
theorem se_ord {n : Nat} {r : Bg} {W : Addr → Prop} {G : Gam} {H : Hp} (s : Se n r W G H) {U : Addr} {os : List Int} (m : (V.ref U, PyData.list (intsD os)) ∈ G) : OrdV H (.ref U) os := .inl (Rp.sm (Hw.sub _ _) (s.ok _ m))
theorem eqv_ws (x : Str) : ∀ n, PyData.eqvAll (List.replicate n (PyData.str x)) (List.replicate n (PyData.str x)) = true
  | 0 => by simp [PyData.eqvAll]
  | n + 1 => by
    rw [List.replicate_succ]
    simp [PyData.eqvAll, PyData.eqv, eqv_ws x n]
theorem eqv_wsD (n : Nat) (x : Str) : PyData.eqv (wsD n x) (wsD n x) = true := by
  show PyData.eqv (.list _) (.list _) = true
  simp [PyData.eqv, eqv_ws x n]
def spLaw (K : PySem.W.Frag) (P1 P2 : Addr) : Sp := fun vs H Q _ => ∃ (a : Addr) (ns : List Int), vs = [.ref a] ∧ SqL K H a (ns.map V.int) ∧ ns.length ≤ 63 ∧ GxR.TabG H P1 ∧ GxR.TabG H P2 ∧ ∀ H', Q (.bl true) H'
section
variable {P : Program} {w : World} {K : PySem.W.Frag} {mg : Str → Option Value} {base : Heap}
theorem ok_law {f P0 P2 : Addr} {fd : FuncData} (F : Fun K "law" "law" sLaw f fd) (T : Nm mg) (hsys : ∃ o, base.get? sysModules = some o)
    (CB : Cal P w K mg base 9 "_law_bag" ["script"] (spBag K)) (CO : Cal P w K mg base 9 "_law_order" ["bag", "most"] (spE spOrder)) (CN : Cal P w K mg base 9 "_law_no_orders" ["bag", "order"] (spE spNoO)) (CD : Cal P w K mg base 9 "_law_draw" ["bag", "many"] (spE spDraw))
    (CT : Cal P w K mg base 9 "_law_told" ["asked", "order", "thing"] (spTold P0 P2)) : FnG P w K mg base 10 f fd ["script"] (spLaw K P0 P2) := by
  refine fng_of F scLaw (fun vs H Q E ⟨a, ns, e, _⟩ => by rw [e]; rfl) (fun cdv A outer s H vs Q E hgd hr h => ?_)
  obtain ⟨a, ns, rfl, hS, h63, hG, hG2, q⟩ := h
  have nd := scLaw.nd
  refine ⟨_, (pss_cons (ps_set (i := 1) nd rfl (.inl rfl) (pe_cal CB hr (by rfl) (pa_cons (pv 0) pa_nil)))
      (pss_cons (ps_for PassesOwn.never rfl (pi_range1 (by rfl) T.range (pa_cons (pe_op op_add pe_int (pe_callB (call_min2 rfl) (by rfl) T.min (by decide +kernel) (pa_cons pe_int (pa_cons (pe_callB call_len_seq (by rfl) T.len PySem.boot_len (pa_cons (pv 0) pa_nil)) pa_nil)))) pa_nil)) (pg_name (i := 2) nd rfl (.inl rfl)) (pss_cons (ps_set (i := 3) nd rfl (.inr rfl) (pe_cal CO hr (by rfl) (pa_cons (pv 1) (pa_cons pe_int pa_nil))))
      (pss_cons (ps_set (i := 4) nd rfl (.inl rfl) (pe_cal CN hr (by rfl) (pa_cons (pv 1) (pa_cons (pv 3) pa_nil))))
      (pss_cons (ps_set (i := 5) nd rfl (.inl rfl) (pe_lst (pa_cons pe_non (pa_cons (pe_un un_neg pe_int) (pa_cons pe_bl (pa_cons pe_str (pa_cons (pe_lst (pa_cons pe_int pa_nil)) (pa_cons (pe_tup pa_nil) (pa_cons (pe_op op_add (pe_op op_pow pe_int pe_int) pe_int) (pa_cons (pe_op op_pow pe_int pe_int) pa_nil))))))))))
      (pss_cons (ps_set (i := 6) nd rfl (.inl rfl) (pe_callB (call_reprD hgd hr hsys) (by rfl) T.repr (by decide +kernel) (pa_cons (pe_lst (pa_cons (pv 3) (pa_cons (pv 4) (pa_cons (pv 5) pa_nil)))) pa_nil)))
      (pss_cons (ps_for PassesOwn.never rfl (pi_list (pv 4)) (pg_name (i := 7) nd rfl (.inr rfl)) (pss_cons (ps_set (i := 8) nd rfl (.inl rfl) (pe_op op_cat (pe_lc (own := [("asked", 9)]) (g := (gName 9)) (tt := tYes) rfl nd (pi_range1 (by rfl) T.range (pa_cons pe_int pa_nil)) (blkOk_by (own := [("asked", 9)]) (N := nLaw) (sc := (defScope sLaw)) (by decide +kernel)) (fun _ _ _ _ _ => (pg_name (i := 9) nd rfl (.inl rfl))) (fun _ _ _ _ _ => pts_nil) (fun _ _ _ _ _ => (pe_cal CT hr (by rfl) (pa_cons (pv 9) (pa_cons (pv 7) (pa_cons pe_int pa_nil)))))) (pe_lst (pa_cons (pe_cal CT hr (by rfl) (pa_cons pe_int (pa_cons (pv 7) (pa_cons (pe_ix ix_list (pv 5) (pe_cal CD hr (by rfl) (pa_cons (pv 1) (pa_cons pe_int pa_nil))) (fun _ _ => rfl)) pa_nil)))) pa_nil))))
      (pss_one (ps_if (PW.pt (pw_or (pt_cmpR (op_neD hr.units) (pv 8) (pe_op op_rep (pe_lst (pa_cons pe_str pa_nil)) pe_int) (nomark _)) (pw_or1 (pt_cmpR op_ne (pe_cal CT hr (by rfl) (pa_cons pe_int (pa_cons (pv 7) (pa_cons pe_non pa_nil)))) pe_str (nomark _))))) (pss_one (ps_ret pe_bl)) pss_nil))))
      (pss_cons (ps_if (pt_cmpR (op_neD hr.units) (pe_lc (own := [("one", 10)]) (g := (gName 10)) (tt := tYes) rfl nd (pi_list (pv 5)) (blkOk_by (own := [("one", 10)]) (N := nLaw) (sc := (defScope sLaw)) (by decide +kernel)) (fun _ _ _ _ _ => (pg_name (i := 10) nd rfl (.inl rfl))) (fun _ _ _ _ _ => pts_nil) (fun _ _ _ _ _ => (pe_cal CT hr (by rfl) (pa_cons pe_int (pa_cons (pv 3) (pa_cons (pv 10) pa_nil)))))) (pe_op op_rep (pe_lst (pa_cons pe_str pa_nil)) pe_int) (nomark _)) (pss_one (ps_ret pe_bl)) pss_nil)
      (pss_cons (ps_if (pt_cmpR (op_neD hr.units) (pe_lc (own := [("asked", 9)]) (g := (gName 9)) (tt := tYes) rfl nd (pi_range1 (by rfl) T.range (pa_cons pe_int pa_nil)) (blkOk_by (own := [("asked", 9)]) (N := nLaw) (sc := (defScope sLaw)) (by decide +kernel)) (fun _ _ _ _ _ => (pg_name (i := 9) nd rfl (.inl rfl))) (fun _ _ _ _ _ => pts_nil) (fun _ _ _ _ _ => (pe_cal CT hr (by rfl) (pa_cons (pv 9) (pa_cons (pv 3) (pa_cons (pe_op op_pow pe_int pe_int) pa_nil)))))) (pe_op op_rep (pe_lst (pa_cons pe_str pa_nil)) pe_int) (nomark _)) (pss_one (ps_ret pe_bl)) pss_nil)
      (pss_one (ps_if (pt_cmpR op_ne (pe_callB (call_reprD hgd hr hsys) (by rfl) T.repr (by decide +kernel) (pa_cons (pe_lst (pa_cons (pv 3) (pa_cons (pv 4) (pa_cons (pv 5) pa_nil)))) pa_nil)) (pv 6) (nomark _)) (pss_one (ps_ret pe_bl)) pss_nil))))))))))
      (pss_one (ps_ret pe_bl)))), ?_⟩
  have hM : M60 = 1000000000000000000 := rfl
  have t140 : (2 : Int) ^ 140 = 1393796574908163946345982392040522594123776 := by decide +kernel
  refine ⟨.ref a, rfl, a, ns, rfl, hS, fun r H1 s1 nr b1 => ?_⟩
  have W0 : Wk (fun b => b = r.a) H1 r := ⟨rfl, fun b hb => by rw [hb]; exact b1.some⟩
  have S1 : Se 0 r (fun b => b = r.a) [] H1 := ⟨b1, W0, fun p hp => nomatch hp⟩
  refine ⟨.ref a, rfl, a, ns.map V.int, rfl, .inl (s1.seq hS), 6, ((ns.map V.int).length : Int), rfl, 3, _, rfl, rfl, _, rfl, by split <;> omega, by split <;> omega, ?_⟩
  have lm : (ns.map V.int).length = ns.length := List.length_map ..
  have hn15 : ((3 : Int) + (if ((ns.map V.int).length : Int) < 6 then ((ns.map V.int).length : Int) else 6)).toNat ≤ 9 := by split <;> omega
  refine for_range (lo := 0) (n := ((3 : Int) + (if ((ns.map V.int).length : Int) < 6 then ((ns.map V.int).length : Int) else 6)).toNat) (fun i σ H3 => ∃ y2 y3 y4 y5 y6 y7 y8 y9 y10, σ = [some (.ref a), some (.ref r.a), y2, y3, y4, y5, y6, y7, y8, y9, y10] ∧ Se (1000 * i) r (fun b => b = r.a) [] H3 ∧ GxR.TabG H3 P0 ∧ GxR.TabG H3 P2)
    ⟨none, none, none, none, none, none, none, none, none, rfl, S1, tabG_same s1 hG, tabG_same s1 hG2⟩ (fun i σ H3 hi hP => ?_) (fun σ H3 hP => ?_)
  · obtain ⟨y2, y3, y4, y5, y6, y7, y8, y9, y10, rfl, S3, hT1, hT2⟩ := hP
    have hi15 : i < 9 := by omega
    refine ev_set (i := 3) (P := PO) (ev_order (k := 1) ((ev_int (i := 60)).ev fun j e => ⟨60, by rw [e]; rfl, by decide⟩) rfl) (by omega) S3 fun vU dU H4 S4 m4 hU => ?_
    obtain ⟨os, rfl, hI, hl⟩ := hU
    have hT1' := tabG_mv hT1 S3.re m4
    have hT2' := tabG_mv hT2 S3.re m4
    refine ev_set (i := 4) (ev_noO (k := 1) (ns := os) (ev_var (i := 3) rfl List.mem_cons_self rfl) hl rfl) (by omega) S4 fun v4 d4 H5 S5 m5 h4 => ?_
    obtain ⟨m, hm, rfl⟩ := h4
    have hT1'' := tabG_mv hT1' S4.re m5
    have hT2'' := tabG_mv hT2' S4.re m5
    refine ev_set (i := 5) (P := (· = .list oddL)) (evx_lst (evl_cons xn (evl_cons ((evi_neg (x := 1)).ev fun j e => by rw [e]) (evl_cons (xb true) (evl_cons (xs "1") (evl_cons (evx_lst (evl_cons (xi (1)) evl_nil) (by show 1 ≤ 1000; decide)) (evl_cons (evx_tup evl_nil (by show 0 ≤ 1000; decide)) (evl_cons ((evi_add (evi_pow (x := 10) (y := 18) ⟨by decide, by decide, by decide⟩) (ev_int (i := 1))).ev fun j e => by rw [e] <;> exact congrArg PyData.int (by decide +kernel)) (evl_cons ((evi_pow (x := 10) (y := 39) ⟨by decide, by decide, by decide⟩).ev fun j e => by rw [e] <;> exact congrArg PyData.int (by decide +kernel)) evl_nil)))))))) (by show 8 ≤ 1000; decide)) (by omega) S5 fun v5 d5 H6 S6 m6 h5 => ?_
    subst h5
    have t1 := tabG_mv hT1'' S5.re m6
    have t2 := tabG_mv hT2'' S5.re m6
    have S6 : Se (1000 * i + 502) r (fun b => b = r.a) [(v5, .list oddL), (v4, .list (noO m os)), (vU, .list (intsD os))] H6 := S6.to (by omega)
    obtain ⟨U, us, rfl, hU6, hus⟩ := rp_list (S6.ok (vU, .list (intsD os)) (List.mem_cons_of_mem _ (List.mem_cons_of_mem _ List.mem_cons_self)))
    obtain ⟨D, xs, rfl, hD6, hx6⟩ := rp_list (S6.ok (v4, .list (noO m os)) (List.mem_cons_of_mem _ List.mem_cons_self))
    obtain ⟨O, zs, rfl, hO6, hz6⟩ := rp_list (S6.ok (v5, .list oddL) List.mem_cons_self)
    have hDn : D ≠ r.a := Hw.ne (W := fun b => b = r.a) hD6
    have hOn : O ≠ r.a := Hw.ne (W := fun b => b = r.a) hO6
    have hD6 := Hw.sub _ H6 _ _ hD6
    have hO6 := Hw.sub _ H6 _ _ hO6
    have lz : zs.length = 8 := hz6.length
    have lx : xs.length = (noO m os).length := hx6.length
    have l21 : (noO m os).length = 21 := rfl
    have inU : (V.ref U, PyData.list (intsD os)) ∈ [(V.ref O, PyData.list oddL), (V.ref D, PyData.list (noO m os)), (V.ref U, PyData.list (intsD os))] := List.mem_cons_of_mem _ (List.mem_cons_of_mem _ List.mem_cons_self)
    have inD : (V.ref D, PyData.list (noO m os)) ∈ [(V.ref O, PyData.list oddL), (V.ref D, PyData.list (noO m os)), (V.ref U, PyData.list (intsD os))] := List.mem_cons_of_mem _ List.mem_cons_self
    have inO : (V.ref O, PyData.list oddL) ∈ [(V.ref O, PyData.list oddL), (V.ref D, PyData.list (noO m os)), (V.ref U, PyData.list (intsD os))] := List.mem_cons_self
    generalize hGG : [(V.ref O, PyData.list oddL), (V.ref D, PyData.list (noO m os)), (V.ref U, PyData.list (intsD os))] = GG at S6 inU inD inO
    have hF : Few os := ⟨hl, fun x hx => by
      obtain ⟨j, hj, rfl⟩ := up_mem.mp ((ord_perm hI).mem_iff.mp hx)
      omega⟩
    have shown : ∀ {H' : Hp} {p : Addr} {n : Nat}, Se n r (fun b => b = r.a) GG H' → H' p = none → Rp (upd H' p (.lst [.ref U, .ref D, .ref O])) (.ref p) (.list [.list (intsD os), .list (noO m os), .list oddL]) := fun {H' p n} S np =>
      .lst upd_same (.cons (Rp.sm (same_upd np) (Rp.sm (Hw.sub _ _) (S.ok _ inU))) (.cons (Rp.sm (same_upd np) (Rp.sm (Hw.sub _ _) (S.ok _ inD))) (.cons (Rp.sm (same_upd np) (Rp.sm (Hw.sub _ _) (S.ok _ inO))) .nil)))
    have hB : B 100 10000000 (.list [.list (intsD os), .list (noO m os), .list oddL]) := (B.list (k := 5) (u := 1000000) (n := 3) (fun x hx => by
      simp only [List.mem_cons, List.not_mem_nil, or_false] at hx
      rcases hx with rfl | rfl | rfl
      · exact (few_bq hF).mono (by decide) (by decide)
      · exact (B.list (n := 21) (noO_b hF) (Nat.le_of_eq l21)).mono (by decide) (by decide)
      · exact (B.list (n := 8) oddL_b (by decide)).mono (by decide) (by decide)) (by show 3 ≤ 3; decide)).mono (by decide) (by decide)
    generalize hshn : (PyData.list [.list (intsD os), .list (noO m os), .list oddL]).shown = shn
    refine ⟨.ref U, rfl, .ref D, rfl, .ref O, rfl, small_le (by show 3 ≤ 1000; decide), fun p np => ?_⟩
    refine ⟨.ref p, .list [.list (intsD os), .list (noO m os), .list oddL], p, rfl, rfl, shown S6 np, hB, ?_⟩
    rw [hshn]
    have S7 := S6.same (same_upd (o := HO.lst [V.ref U, V.ref D, V.ref O]) np)
    have t17 := tabG_same (same_upd (o := HO.lst [V.ref U, V.ref D, V.ref O]) np) t1
    have t27 := tabG_same (same_upd (o := HO.lst [V.ref U, V.ref D, V.ref O]) np) t2
    have hD7 := same_upd (o := HO.lst [V.ref U, V.ref D, V.ref O]) np _ _ hD6
    have hO7 := same_upd (o := HO.lst [V.ref U, V.ref D, V.ref O]) np _ _ hO6
    generalize upd H6 p (HO.lst [V.ref U, V.ref D, V.ref O]) = H7 at S7 t17 t27 hD7 hO7
    show tSeq _ _ _ [some (.ref a), some (.ref r.a), some (.int (0 + (i : Int))), some (.ref U), some (.ref D), some (.ref O), some (.str shn), y7, y8, y9, y10] H7
    refine ⟨.ref D, rfl, D, rfl, ⟨_, SqL.of hD7⟩, for_list (xs := xs) (fun j σ H8 => ∃ y7 y8, σ = [some (.ref a), some (.ref r.a), some (.int (0 + (i : Int))), some (.ref U), some (.ref D), some (.ref O), some (.str shn), y7, y8, y9, y10] ∧ Se (1000 * i + 502 + j) r (fun b => b = r.a) GG H8 ∧ H8 D = some (.lst xs) ∧ H8 O = some (.lst zs) ∧ GxR.TabG H8 P0 ∧ GxR.TabG H8 P2)
      ⟨y7, y8, rfl, S7, hD7, hO7, t17, t27⟩ (fun j σ H8 _ ⟨_, _, _, _, e8, _⟩ => SqL.of e8) (fun j x σ H8 hxj hP => ?_) (fun σ H8 hP => ?_)⟩
    · obtain ⟨y7, y8, rfl, S8, e8, o8, u1, u2⟩ := hP
      have jl : j < xs.length := (List.getElem?_eq_some_iff.mp hxj).1
      obtain ⟨dx, hdx, hRx⟩ := se_item S8 inD e8 hxj
      have hbad : isOrder dx = false := noO_bad hm hl dx (List.mem_of_getElem? hdx)
      show tSeq _ _ _ [some (.ref a), some (.ref r.a), some (.int (0 + (i : Int))), some (.ref U), some (.ref D), some (.ref O), some (.str shn), some x, y8, y9, y10] H8
      -- by each of the four
      refine ⟨4, rfl, by decide, by decide, fun L nL => ?_⟩
      have offL := S8.re.new nL
      refine lc_range (lo := 0) (n := ((4 : Int)).toNat) (fun k H9 => Ex H8 H9 ∧ H9 L = some (.lst (wsV k "NoOrder")) ∧ GxR.TabG H9 P0 ∧ GxR.TabG H9 P2)
        ⟨Ex.new nL, upd_same, tabG_same (same_upd nL) u1, tabG_same (same_upd nL) u2⟩ (fun k H9 hk ⟨x9, l9, w1, w2⟩ => ?_) (fun H9 ⟨x9, l9, w1, w2⟩ => ?_)
      · have hk4 : k < 4 := hk
        refine ⟨rfl, yesT ⟨_, rfl, x, rfl, 0 + (k : Int), x, .int 1, rfl, by omega, w1, w2, .inl ⟨dx, Rp.ex x9 _ _ hRx, hbad, fun H10 x10 => ?_⟩⟩⟩
        have l10 := x10.lst l9
        refine ⟨_, l10, small1000 (by show (List.replicate k _).length < 1000; rw [List.length_replicate]; omega), ex_updN (x9.trans x10) nL, ?_, tabG_upd (tabG_ex w1 x10) (fun ps z => by rw [l10] at z; cases z), tabG_upd (tabG_ex w2 x10) (fun ps z => by rw [l10] at z; cases z)⟩
        rw [upd_same]
        show some (HO.lst (List.replicate k _ ++ [_])) = some (HO.lst (List.replicate (k + 1) _))
        rw [List.replicate_succ']
      · have l9 : H9 L = some (.lst (wsV 4 "NoOrder")) := l9
        have S9 := S8.ex x9
        have e9 := x9.lst e8
        have o9 := x9.lst o8
        refine ⟨x, rfl, .ref O, rfl, .ref r.a, rfl, r, 8, 1000 * i + 502 + j, rfl, S9.re, by omega, by decide, by rw [t140]; decide, fun z10 H10 b10 v10 a10 c10 => ?_⟩
        have S10 := S9.mv b10 v10
        have l10 := v10.keep L _ offL.a l9
        have e10 := v10.keep D _ hDn e9
        have o10 := v10.keep O _ hOn o9
        obtain ⟨zi, rfl⟩ : ∃ zi : Nat, z10 = (zi : Int) := ⟨z10.toNat, by omega⟩
        have hzi : zi < zs.length := by omega
        obtain ⟨dx', hdx', hRx'⟩ := se_item S10 inD e10 hxj
        rw [hdx] at hdx'
        cases hdx'
        refine ⟨O, zs, zi, zs[zi], rfl, rfl, SqL.of o10, atI_nat (List.getElem?_eq_getElem hzi), 3, x, zs[zi], rfl, by decide, tabG_mv w1 S9.re v10, tabG_mv w2 S9.re v10, .inl ⟨dx, hRx', hbad, fun H11 x11 => ?_⟩⟩
        have g1 := tabG_ex (tabG_mv w1 S9.re v10) x11
        have g2 := tabG_ex (tabG_mv w2 S9.re v10) x11
        have S11 := S10.ex x11
        have l11 := x11.lst l10
        have e11 := x11.lst e10
        have o11 := x11.lst o10
        refine ⟨small_le (by show 1 ≤ 1000; decide), fun M nM => ?_⟩
        have sM : Same H11 (upd H11 M (.lst [.str "NoOrder"])) := same_upd nM
        have eM : (upd H11 M (.lst [.str "NoOrder"])) M = some (.lst [.str "NoOrder"]) := upd_same
        generalize upd H11 M (.lst [.str "NoOrder"]) = H12 at sM eM
        refine ⟨L, M, _, _, rfl, rfl, sM _ _ l11, eM, small_add (by show 4 ≤ 1000; decide) (by show 1 ≤ 1000; decide), fun N nN => ?_⟩
        have sN : Same H12 (upd H12 N (.lst (wsV 4 "NoOrder" ++ [.str "NoOrder"]))) := same_upd nN
        have eN : (upd H12 N (.lst (wsV 4 "NoOrder" ++ [.str "NoOrder"]))) N = some (.lst (wsV 5 "NoOrder")) := by rw [upd_same]; rfl
        have s13 := sM.trans sN
        dsimp only [gName]
        show tIfS _ _ _ _ [some (.ref a), some (.ref r.a), some (.int (0 + (i : Int))), some (.ref U), some (.ref D), some (.ref O), some (.str shn), some x, some (.ref N), y9, y10] (upd H12 N (.lst (wsV 4 "NoOrder" ++ [.str "NoOrder"])))
        generalize upd H12 N (.lst (wsV 4 "NoOrder" ++ [.str "NoOrder"])) = H13 at sN eN s13
        refine ⟨.ref N, rfl, small_le (by show 1 ≤ 1000; decide), fun p1 n1 => ⟨p1, 5, _, rfl, rfl, upd_same, by decide, by decide, by show 1 * 5 ≤ sizeLine; exact small_le (by decide), fun p2 n2 => ?_⟩⟩
        have s14 := s13.trans ((same_upd (o := HO.lst [V.str "NoOrder"]) n1).trans (same_upd (o := HO.lst ((List.replicate (Int.toNat 5) [V.str "NoOrder"]).flatten)) n2))
        have eN2 := ((same_upd (o := HO.lst [V.str "NoOrder"]) n1).trans (same_upd (o := HO.lst ((List.replicate (Int.toNat 5) [V.str "NoOrder"]).flatten)) n2)) _ _ eN
        have e14 : (upd (upd H13 p1 (.lst [.str "NoOrder"])) p2 (.lst ((List.replicate (Int.toNat 5) [V.str "NoOrder"]).flatten))) p2 = some (.lst (wsV 5 "NoOrder")) := upd_same
        show ∃ _ _, _
        refine ⟨wsD 5 "NoOrder", wsD 5 "NoOrder", .lst (SqL.of eN2) (ws_dp _ 5), .lst (SqL.of e14) (ws_dp _ 5), by decide +kernel, by decide +kernel, _, rfl, ite2 (fun y => absurd y (by rw [eqv_wsD]; decide)) (fun _ => ?_)⟩
        generalize upd (upd H13 p1 (.lst [.str "NoOrder"])) p2 (.lst ((List.replicate (Int.toNat 5) [V.str "NoOrder"]).flatten)) = H14 at s14
        have S14 := S11.same s14
        have e14 := s14 _ _ e11
        have o14 := s14 _ _ o11
        obtain ⟨dx', hdx', hRx''⟩ := se_item S14 inD e14 hxj
        rw [hdx] at hdx'
        cases hdx'
        refine ⟨x, rfl, 2, x, .non, rfl, by decide, tabG_same s14 g1, tabG_same s14 g2, .inl ⟨dx, hRx'', hbad, fun H15 x15 => ⟨rfl, _, rfl, ite2 (fun y => absurd y (by simp)) (fun _ => ?_)⟩⟩⟩
        exact ⟨_, _, rfl, (S14.ex x15).to (by omega), x15.lst e14, x15.lst o14, tabG_ex (tabG_same s14 g1) x15, tabG_ex (tabG_same s14 g2) x15⟩
    · obtain ⟨y7, y8, rfl, S8, e8, o8, u1, u2⟩ := hP
      dsimp only []
      -- mosts that are none
      refine ⟨.ref O, rfl, O, rfl, ⟨_, SqL.of o8⟩, fun L nL => ?_⟩
      refine lc_list (xs := zs) (fun k H9 => Ex H8 H9 ∧ H9 L = some (.lst (wsV k "NoNumber")) ∧ GxR.TabG H9 P0 ∧ GxR.TabG H9 P2)
        ⟨Ex.new nL, upd_same, tabG_same (same_upd nL) u1, tabG_same (same_upd nL) u2⟩ (fun k H9 _ ⟨x9, _⟩ => SqL.of (x9.lst o8)) (fun k x H9 hxk ⟨x9, l9, w1, w2⟩ => ?_) (fun H9 ⟨x9, l9, w1, w2⟩ => ?_)
      · have hk8 : k < zs.length := (List.getElem?_eq_some_iff.mp hxk).1
        obtain ⟨dx, hdx, hRx⟩ := se_item (S8.ex x9) inO (x9.lst o8) hxk
        refine ⟨rfl, yesT ⟨.ref U, rfl, x, rfl, 3, .ref U, x, rfl, by decide, w1, w2, .inr (.inl ⟨rfl, os, dx, se_ord (S8.ex x9) inU, hI, hl, hRx, oddL_bad dx (List.mem_of_getElem? hdx), fun H10 x10 => ?_⟩)⟩⟩
        have l10 := x10.lst l9
        refine ⟨_, l10, small1000 (by show (List.replicate k _).length < 1000; rw [List.length_replicate]; omega), ex_updN (x9.trans x10) nL, ?_, tabG_upd (tabG_ex w1 x10) (fun ps z => by rw [l10] at z; cases z), tabG_upd (tabG_ex w2 x10) (fun ps z => by rw [l10] at z; cases z)⟩
        rw [upd_same]
        show some (HO.lst (List.replicate k _ ++ [_])) = some (HO.lst (List.replicate (k + 1) _))
        rw [List.replicate_succ']
      · rw [lz] at l9
        refine ⟨small_le (by show 1 ≤ 1000; decide), fun p1 n1 => ⟨p1, 8, _, rfl, rfl, upd_same, by decide, by decide, by show 1 * 8 ≤ sizeLine; exact small_le (by decide), fun p2 n2 => ?_⟩⟩
        have s10 := (same_upd (o := HO.lst [V.str "NoNumber"]) n1).trans (same_upd (o := HO.lst ((List.replicate (Int.toNat 8) [V.str "NoNumber"]).flatten)) n2)
        have l10 := s10 _ _ l9
        have e10 : (upd (upd H9 p1 (.lst [.str "NoNumber"])) p2 (.lst ((List.replicate (Int.toNat 8) [V.str "NoNumber"]).flatten))) p2 = some (.lst (wsV 8 "NoNumber")) := upd_same
        show ∃ _ _, _
        refine ⟨wsD 8 "NoNumber", wsD 8 "NoNumber", .lst (SqL.of l10) (ws_dp _ 8), .lst (SqL.of e10) (ws_dp _ 8), by decide +kernel, by decide +kernel, _, rfl, ite2 (fun y => absurd y (by rw [eqv_wsD]; decide)) (fun _ => ?_)⟩
        have S10 := (S8.ex x9).same s10
        have v1 := tabG_same s10 w1
        have v2 := tabG_same s10 w2
        have hxx : Ex H8 (upd (upd H9 p1 (.lst [.str "NoNumber"])) p2 (.lst ((List.replicate (Int.toNat 8) [V.str "NoNumber"]).flatten))) := x9.trans (Ex.of s10)
        show tSeq _ _ _ _ (upd (upd H9 p1 (.lst [.str "NoNumber"])) p2 (.lst ((List.replicate (Int.toNat 8) [V.str "NoNumber"]).flatten)))
        generalize upd (upd H9 p1 (.lst [.str "NoNumber"])) p2 (.lst ((List.replicate (Int.toNat 8) [V.str "NoNumber"]).flatten)) = H10 at S10 v1 v2 hxx
        clear s10 l10 e10
        -- the good ones
        refine ⟨4, rfl, by decide, by decide, fun L nL => ?_⟩
        refine lc_range (lo := 0) (n := ((4 : Int)).toNat) (fun k H9 => Ex H10 H9 ∧ H9 L = some (.lst (wsV k "told")) ∧ GxR.TabG H9 P0 ∧ GxR.TabG H9 P2)
          ⟨Ex.new nL, upd_same, tabG_same (same_upd nL) v1, tabG_same (same_upd nL) v2⟩ (fun k H9 hk ⟨x9, l9, w1, w2⟩ => ?_) (fun H9 ⟨x9, l9, w1, w2⟩ => ?_)
        · have hk4 : k < 4 := hk
          refine ⟨rfl, yesT ⟨_, rfl, .ref U, rfl, 10, 18, rfl, rfl, ⟨by decide, by decide, by decide⟩, 0 + (k : Int), .ref U, _, rfl, by omega, w1, w2, .inr (.inr ⟨congrArg V.int (by decide +kernel), os, se_ord (S10.ex x9) inU, hI, hl, fun H11 x11 => ?_⟩)⟩⟩
          have l11 := x11.lst l9
          refine ⟨_, l11, small1000 (by show (List.replicate k _).length < 1000; rw [List.length_replicate]; omega), ex_updN (x9.trans x11) nL, ?_, tabG_upd (tabG_ex w1 x11) (fun ps z => by rw [l11] at z; cases z), tabG_upd (tabG_ex w2 x11) (fun ps z => by rw [l11] at z; cases z)⟩
          rw [upd_same]
          show some (HO.lst (List.replicate k _ ++ [_])) = some (HO.lst (List.replicate (k + 1) _))
          rw [List.replicate_succ']
        · have l9 : H9 L = some (.lst (wsV 4 "told")) := l9
          refine ⟨small_le (by show 1 ≤ 1000; decide), fun p1 n1 => ⟨p1, 4, _, rfl, rfl, upd_same, by decide, by decide, by show 1 * 4 ≤ sizeLine; exact small_le (by decide), fun p2 n2 => ?_⟩⟩
          have s11 := (same_upd (o := HO.lst [V.str "told"]) n1).trans (same_upd (o := HO.lst ((List.replicate (Int.toNat 4) [V.str "told"]).flatten)) n2)
          have l11 := s11 _ _ l9
          have e11 : (upd (upd H9 p1 (.lst [.str "told"])) p2 (.lst ((List.replicate (Int.toNat 4) [V.str "told"]).flatten))) p2 = some (.lst (wsV 4 "told")) := upd_same
          show ∃ _ _, _
          refine ⟨wsD 4 "told", wsD 4 "told", .lst (SqL.of l11) (ws_dp _ 4), .lst (SqL.of e11) (ws_dp _ 4), by decide +kernel, by decide +kernel, _, rfl, ite2 (fun y => absurd y (by rw [eqv_wsD]; decide)) (fun _ => ?_)⟩
          have S11 := (S10.ex x9).same s11
          have v11 := tabG_same s11 w1
          have v21 := tabG_same s11 w2
          dsimp only [tNext]
          show tIfS _ _ _ _ _ (upd (upd H9 p1 (.lst [.str "told"])) p2 (.lst ((List.replicate (Int.toNat 4) [V.str "told"]).flatten)))
          generalize upd (upd H9 p1 (.lst [.str "told"])) p2 (.lst ((List.replicate (Int.toNat 4) [V.str "told"]).flatten)) = H11 at S11 v11 v21
          refine ⟨.ref U, rfl, .ref D, rfl, .ref O, rfl, small_le (by show 3 ≤ 1000; decide), fun p np => ?_⟩
          refine ⟨.ref p, .list [.list (intsD os), .list (noO m os), .list oddL], p, rfl, rfl, shown S11 np, hB, .str shn, rfl, rfl, _, rfl, ite2 (fun y => absurd y (by rw [hshn]; simp)) (fun _ => ?_)⟩
          have S12 := S11.same (same_upd (o := HO.lst [V.ref U, V.ref D, V.ref O]) np)
          exact ⟨_, _, _, _, _, _, _, _, _, rfl, ⟨S12.re.mono (by rw [lx, l21]; omega), S12.wk, fun p hp => nomatch hp⟩, tabG_same (same_upd np) v11, tabG_same (same_upd np) v21⟩
  · obtain ⟨y2, y3, y4, y5, y6, y7, y8, y9, y10, rfl, S3, hT1, hT2⟩ := hP
    exact q H3
end
end CL
set_option Elab.async false
set_option linter.all false
set_option maxRecDepth 100000
set_option maxHeartbeats 4000000
namespace CL
open PySem PySem.Spec PyProof.Rows L2 GE
/-! ### the end: what is tracked when the law is called, and that the run leaves the heap as it was but for the tables -/
def H0 (ts : List Addr) (K : PySem.W.Frag) (a : Addr) (vs : List Value) (ns : List Int) : Hp := fun b =>
  if b ∈ ts then some (.tbl #[]) else if b = a ∧ (K.lookup a).isNone = true then some (.frz { cls := .type "list", data := .seq vs.toArray } (.lst (ns.map V.int))) else none
section
variable {ts : List Addr} {K : PySem.W.Frag} {a : Addr} {vs : List Value} {ns : List Int} {h : Heap}
theorem H0.tab {b : Addr} (m : b ∈ ts) : H0 ts K a vs ns b = some (.tbl #[]) := if_pos m
theorem H0.cases {b : Addr} {u : HO} (e : H0 ts K a vs ns b = some u) : (b ∈ ts ∧ u = .tbl #[]) ∨ (b = a ∧ K.lookup a = none ∧ u = .frz { cls := .type "list", data := .seq vs.toArray } (.lst (ns.map V.int))) := by
  unfold H0 at e
  split at e
  · rename_i m
    exact .inl ⟨m, (Option.some.inj e).symm⟩
  · split at e
    · rename_i z
      exact .inr ⟨z.1, Option.isNone_iff_eq_none.mp z.2, (Option.some.inj e).symm⟩
    · cases e
/-- an object that is no list and no empty table is not tracked -/
theorem H0.other (hT : ∀ b ∈ ts, h.get? b = some { cls := .none, data := .fields #[] }) (ha : h.get? a = some { cls := .type "list", data := .seq vs.toArray }) {b : Addr} {o : Obj} (e : h.get? b = some o) (h1 : o.data ≠ .seq vs.toArray) (h2 : o.data ≠ .fields #[]) :
    H0 ts K a vs ns b = none := by
  cases q : H0 ts K a vs ns b with
  | none => rfl
  | some u =>
    rcases H0.cases q with ⟨m, _⟩ | ⟨rfl, _, _⟩
    · rw [hT b m] at e
      cases e
      exact absurd rfl h2
    · rw [ha] at e
      cases e
      exact absurd rfl h1
end
theorem end_own {P : Program} {w : World} {K : PySem.W.Frag} {mg mb : Str → Option Value} {q : Program} {loose : List Str} {mean : ExcName → Option Value} {k : Nat} {fa a : Addr} {fd : FuncData} {x : Str} {sp : Sp} {s₁ : Shared} {vs : List Value} {ns : List Int} (ts : List Addr)
    (KX : K.In s₁.heap) (T : Top q loose mean mg mb s₁.heap) (hi0 : importsNone q = true) (hg : s₁.gens = #[])
    (hT : ∀ b ∈ ts, s₁.heap.get? b = some { cls := .none, data := .fields #[] }) (hC : ∀ b ∈ ts, ∃ c, PySem.W.codeHdIn K c b = true) (nT : ∀ b ∈ ts, K.lookup b = none)
    (ha : s₁.heap.get? a = some { cls := .type "list", data := .seq vs.toArray }) (hi : IntsAre vs ns) (hl : ns.length ≤ sizeLine) (hr : Room k callerA)
    (F : ∀ base : Heap, K.In base → base.Ns mainGlobals mg → (∃ o, base.get? sysModules = some o) → (∀ b ∈ ts, base.BuiltinsAt mg b ∧ mainGlobals ≠ b) → FnG P w K mg base k fa fd [x] sp)
    (hbind : ∀ (s : Shared) (u : Value), BindsTo s fd ⟨[u], []⟩ [(x, u)])
    (hsp : ∀ H : Hp, (∀ b ∈ ts, H b = some (.tbl #[])) → SqL K H a (ns.map V.int) → sp [.ref a] H (fun v _ => v = .bl true) fun _ _ _ => False) :
    codeAny (model P w) callerA (.call (.ref fa) ⟨[.ref a], []⟩) (fun r s' => r = .ok (.ret (.bool true)) ∧ OldK s₁.heap s'.heap ∧ s'.os = s₁.os ∧ AllBare s'.gens) s₁ := by
  have rv := vals_ints hi
  have aT : a ∉ ts := fun m => by
    have z := hT a m
    rw [ha] at z
    cases z
  generalize hH : H0 ts K a vs ns = H
  have tabs : ∀ b ∈ ts, H b = some (.tbl #[]) := fun b m => by rw [← hH]; exact H0.tab m
  have cs : ∀ {b : Addr} {u : HO}, H b = some u → (b ∈ ts ∧ u = .tbl #[]) ∨ (b = a ∧ K.lookup a = none ∧ u = .frz { cls := .type "list", data := .seq vs.toArray } (.lst (ns.map V.int))) := fun e => by
    rw [← hH] at e
    exact H0.cases e
  have oth : ∀ {b : Addr} {o : Obj}, s₁.heap.get? b = some o → o.data ≠ .seq vs.toArray → o.data ≠ .fields #[] → H b = none := fun e h1 h2 => by
    rw [← hH]
    exact H0.other hT ha e h1 h2
  have inB : ∀ {b : Addr} {o : Obj}, s₁.heap.get? b = some o → H b = none → (hidT s₁.heap H).get? b = some o := fun e n => hidT_get e n
  have nsB : ∀ {b : Addr} {m : Str → Option Value}, s₁.heap.Ns b m → (hidT s₁.heap H).Ns b m := fun ⟨o, es, ep, e, d, r⟩ => ⟨o, es, ep, inB e (oth e (by rw [d]; exact nofun) (by rw [d]; exact nofun)), d, r⟩
  have hok : HOk P w H s₁.heap := fun b u e => by
    rcases cs e with ⟨m, rfl⟩ | ⟨rfl, _, rfl⟩
    · exact hT b m
    · exact ⟨ha, by rw [List.length_map]; exact hl, vs, _, rv, ha⟩
  have hS : SqL K H a (ns.map V.int) := by
    cases hk : K.lookup a with
    | some o =>
      have e := KX a o hk
      rw [ha] at e
      cases e
      exact .inr ⟨_, vs.toArray, _, hk, rfl, rfl, rfl, by rw [List.size_toArray, hi.length]; exact hl, by simpa using rv⟩
    | none =>
      have e : H a = some (.frz { cls := .type "list", data := .seq vs.toArray } (.lst (ns.map V.int))) := by
        rw [← hH]
        unfold H0
        rw [if_neg aT, if_pos ⟨rfl, by rw [hk]; rfl⟩]
      exact .inl (.inr ⟨_, e⟩)
  have KB : K.In (hidT s₁.heap H) := fun b o e => inB (KX b o e) (by
    cases z : H b with
    | none => rfl
    | some u =>
      rcases cs z with ⟨m, _⟩ | ⟨rfl, n, _⟩
      · rw [nT b m] at e; cases e
      · rw [n] at e; cases e)
  have hM : L2.Mod K mg (hidT s₁.heap H) := ⟨KB, nsB T.g, ⟨mb, nsB T.b, T.builtins⟩, let ⟨mc, h1, h2⟩ := T.nolimit; ⟨mc, nsB h1, h2⟩⟩
  have sysB : ∃ o, (hidT s₁.heap H).get? sysModules = some o := by
    obtain ⟨mm, ⟨o, es, ep, e, d, _⟩, _⟩ := (T.seer hi0).mods
    exact ⟨o, inB e (oth e (by rw [d]; exact nofun) (by rw [d]; exact nofun))⟩
  have gB : ∀ b ∈ ts, mainGlobals ≠ b := fun b m z => by
    obtain ⟨o, es, ep, e, d, _⟩ := T.g
    rw [z, hT b m] at e
    cases e
    cases d
  have bB : ∀ b ∈ ts, (hidT s₁.heap H).BuiltinsAt mg b := fun b m => by
    obtain ⟨bm, ob, b1, b2, b3, b4, b5, b6⟩ := T.bmain
    refine ⟨bm, ob, b1, b2, fun z => ?_, fun z => ?_, inB b3 (oth b3 (by rw [b6]; exact nofun) (by rw [b6]; exact nofun)), b4, b5, b6⟩
    · obtain ⟨o, es, ep, e, d, _⟩ := T.g
      rw [z, e] at b3
      cases b3
      rw [d] at b6
      cases b6
    · rw [z, hT b m] at b3
      cases b3
      cases b6
  have e0 : Env0 P w K mg (hidT s₁.heap H) callerA [] s₁ H := ⟨rfl, hM, fun b o e => of_hidT e, Nat.le_of_eq (hidT_size _ _), trivial, fun b hb => absurd (show b ∈ ([] : List Addr) from hb) (by simp), hok, .of_eq hg⟩
  have G := F _ KB (nsB T.g) sysB fun b m => ⟨bB b m, gB b m⟩
  refine codeAny_mono (G.run callerA [] s₁ H ⟨[.ref a], []⟩ [.ref a] [.ref a] _ _ rfl hr e0 (hbind s₁ (.ref a)) (.cons rfl .nil) (hsp H tabs hS)) fun r s' z => ?_
  cases r with
  | error e => exact False.elim z
  | ok fl =>
    cases fl with
    | next => exact False.elim z
    | brk => exact False.elim z
    | cont => exact False.elim z
    | ret u =>
      obtain ⟨v, H', os, bare, un, hok', r', e'⟩ := z
      obtain rfl : v = .bl true := e'
      obtain rfl : u = Value.bool true := r'
      have stays : ∀ b o, b ∉ ts → s₁.heap.get? b = some o → s'.heap.get? b = some o := fun b o nb e => by
        cases z : H b with
        | none => exact un.keep b o e z (fun y => absurd (show b ∈ ([] : List Addr) from y) (by simp)) (by simp)
        | some u =>
          rcases cs z with ⟨m, _⟩ | ⟨rfl, _, rfl⟩
          · exact absurd m nb
          · rw [ha] at e
            cases e
            exact (hok' _ _ (un.frzs _ _ _ z)).1
      have grow : ∀ b ∈ ts, ∃ more : Array Value, s'.heap.get? b = some { cls := .none, data := .fields more } := fun b m => by
        obtain ⟨more, e⟩ := un.tbls b #[] (tabs b m)
        exact ⟨_, hok' b _ e⟩
      refine ⟨rfl, ⟨fun b o e => ?_, fun b o e => ?_⟩, os, bare⟩
      · by_cases m : b ∈ ts
        · obtain ⟨c, hc⟩ := hC b m
          obtain ⟨more, hm⟩ := grow b m
          rw [hT b m] at e
          cases e
          exact .inr (.inl ⟨((PySem.W.codeHd_of_K KX hc).tab (hT b m)).isCodeTable, rfl, #[], more, rfl, by rw [Array.empty_append]; exact hm⟩)
        · exact .inl (stays b o m e)
      · by_cases m : b ∈ ts
        · obtain ⟨more, hm⟩ := grow b m
          exact ⟨_, hm⟩
        · exact ⟨o, stays b o m e⟩
end CL
set_option Elab.async false
set_option pp.maxSteps 300
set_option linter.all false
set_option maxRecDepth 100000
set_option maxHeartbeats 4000000
namespace CL
open PySem PySem.Spec PyProof.Rows L2 GE
theorem fnE {P : Program} {w : World} {K : PySem.W.Frag} {mg : Str → Option Value} {base : Heap} {k : Nat} {f : Addr} {fd : FuncData} {ps : List Str} {sp : Bg → Sp} (F : ∀ r, FnOk P w K mg base CX0 k f fd ps (sp r)) : FnOk P w K mg base CX0 k f fd ps (spE sp) :=
  ⟨fun vs H Q E ⟨r, h⟩ => (F r).len vs H Q E h, fun A outer s H args us vs Q E hr e0 hb rv ⟨r, h⟩ => (F r).run A outer s H args us vs Q E hr e0 hb rv h⟩
/-- the table of a def of the program is empty when the law is called -/
theorem tab_of {q : Program} {loose : List Str} {mean : ExcName → Option Value} {mg mb : Str → Option Value} {h : Heap} {K : PySem.W.Frag} {n : Str} {f c P : Addr} {o : Obj} {fd : FuncData} (T : Top q loose mean mg mb h) (KX : K.In h) (hr : ((recsOf q).any fun e => e.name == n) = true)
    (hm : mg n = some (.ref f)) (k1 : K.lookup f = some o) (k2 : o.data = .func fd) (k3 : fd.code = .ref c) (hh : PySem.W.codeHdIn K c P = true) : h.get? P = some { cls := .none, data := .fields #[] } := by
  obtain ⟨d, hd, e⟩ := List.any_eq_true.mp hr
  have e' : d.name = n := beq_iff_eq.mp e
  obtain ⟨a', o', fd', c', P', t1, t2, t3, t4, t5, t6⟩ := T.tab d hd
  rw [e', hm] at t1
  cases t1
  rw [KX _ _ k1] at t2
  cases t2
  rw [k2] at t3
  cases t3
  rw [k3] at t4
  cases t4
  obtain ⟨⟨oc, vc, g1, _, g3, g4⟩, g5⟩ := t6
  obtain ⟨oh, uh, _, _, _, _, _, _, _, i1, _, i2, i3, _⟩ := PySem.W.codeHd_of_K KX hh
  rw [g1] at i1
  cases i1
  rw [g3] at i2
  cases i2
  rw [g4] at i3
  cases i3
  exact g5
/-- what the head must know of the law's def -/
def AtLaw (l : PySem.W.OpenLaw) (w : World) (K : PySem.W.Frag) (mg : Str → Option Value) (fa : Addr) (h : Heap) : Prop :=
  ∃ (fd : FuncData) (Q1 Q2 : Addr), (∀ b ∈ ([Q1, Q2] : List Addr), h.get? b = some { cls := .none, data := .fields #[] }) ∧ (∀ b ∈ ([Q1, Q2] : List Addr), ∃ c, PySem.W.codeHdIn K c b = true) ∧ (∀ b ∈ ([Q1, Q2] : List Addr), K.lookup b = none) ∧ (∀ (s : Shared) (u : Value), BindsTo s fd ⟨[u], []⟩ [("script", u)]) ∧
    ∀ base : Heap, K.In base → base.Ns mainGlobals mg → (∃ o, base.get? sysModules = some o) → (∀ b ∈ ([Q1, Q2] : List Addr), base.BuiltinsAt mg b ∧ mainGlobals ≠ b) → FnG l.prog w K mg base 10 fa fd ["script"] (spLaw K Q1 Q2)
theorem walk {l : PySem.W.OpenLaw} {q : Program} {loose : List Str} {XP : (Str → Option Value) → Heap → Prop} {YP : World → Heap → Prop} {d : DefRec} {K : Params → PySem.W.Frag} (hn : l.most = some 63) (hdf : d.params.defaults = []) (hi0 : importsNone q = true)
    (hY : ∀ (w : World) (h : Heap), YP w h → (K w.params).In h)
    (F : ∀ (w : World) (mg mb : Str → Option Value) (mean : ExcName → Option Value) (lo : List Str) (fa : Addr) (h : Heap), (K w.params).In h → Top q lo mean mg mb h → mg d.name = some (.ref fa) → AtLaw l w (K w.params) mg fa h) :
    PySem.W.WalkO q loose XP YP l.row.toRowW d [] (fun f vs => PySem.call f vs) := by
  refine Att.attach_callB hn hdf fun w s₀ s₁ mg mb fa o pm cd doc a vs ns G Y ho hd hcd hmg hobj hints hlen _ hg => ?_
  obtain ⟨fd, Q1, Q2, h1, h2, h3, h4, h5⟩ := F w mg mb _ _ fa s₁.heap (hY w _ Y) G.T hmg
  exact end_own [Q1, Q2] (hY w _ Y) G.T hi0 hg h1 h2 h3 hobj hints (Nat.le_trans hlen (by decide)) ⟨rfl, by decide, by decide⟩ h5 h4 fun H t hS => ⟨a, ns, rfl, hS, hlen, ⟨#[], t Q1 (by simp), trivial⟩, ⟨#[], t Q2 (by simp), trivial⟩, fun _ => rfl⟩
theorem all_mk {l : PySem.W.OpenLaw} {w : World} {K : PySem.W.Frag} {q : Program} {lo : List Str} {mean : ExcName → Option Value} {h : Heap} {mg mb : Str → Option Value} {fa fW fR fIO fPE fPL fBI fBR fBA fLE fRF fRC fBG fSR fDR fCA fQU fPA fMO fOR fCL fTO fNO fZ cIO cBA PIO PBA  X0 X1 XE Y_NoPlan Y_NoPerson Y_NoMoment Y_TooMany Y_NoOther Y_NoPlace Y_NoEnd Y_NoPatience Y_Nobody Y_Nothing Y_NoHistory Y_NoText Y_NoForm Y_NoneYet : Addr} (X : K.In h) (G : Top q lo mean mg mb h) (hfa : mg "law" = some (.ref fa))
    {odW anW : Option Addr} {slW : Array (Option Value)} {ocW kVW dcW pmW cdW ctW : Value}
    {odR anR : Option Addr} {slR : Array (Option Value)} {ocR kVR dcR pmR cdR ctR : Value}
    {odIO anIO : Option Addr} {slIO : Array (Option Value)} {ocIO kVIO dcIO pmIO ctIO : Value}
    {odPE anPE : Option Addr} {slPE : Array (Option Value)} {ocPE kVPE dcPE pmPE cdPE ctPE : Value}
    {odPL anPL : Option Addr} {slPL : Array (Option Value)} {ocPL kVPL dcPL pmPL cdPL ctPL : Value}
    {odBI anBI : Option Addr} {slBI : Array (Option Value)} {ocBI kVBI dcBI pmBI cdBI ctBI : Value}
    {odBR anBR : Option Addr} {slBR : Array (Option Value)} {ocBR kVBR dcBR pmBR cdBR ctBR : Value}
    {odBA anBA : Option Addr} {slBA : Array (Option Value)} {ocBA kVBA dcBA pmBA ctBA : Value}
    {odLE anLE : Option Addr} {slLE : Array (Option Value)} {ocLE kVLE dcLE pmLE cdLE ctLE : Value}
    {odRF anRF : Option Addr} {slRF : Array (Option Value)} {ocRF kVRF dcRF pmRF cdRF ctRF : Value}
    {odRC anRC : Option Addr} {slRC : Array (Option Value)} {ocRC kVRC dcRC pmRC cdRC ctRC : Value}
    {odBG anBG : Option Addr} {slBG : Array (Option Value)} {ocBG kVBG dcBG pmBG cdBG ctBG : Value}
    {odSR anSR : Option Addr} {slSR : Array (Option Value)} {ocSR kVSR dcSR pmSR cdSR ctSR : Value}
    {odDR anDR : Option Addr} {slDR : Array (Option Value)} {ocDR kVDR dcDR pmDR cdDR ctDR : Value}
    {odCA anCA : Option Addr} {slCA : Array (Option Value)} {ocCA kVCA dcCA pmCA cdCA ctCA : Value}
    {odQU anQU : Option Addr} {slQU : Array (Option Value)} {ocQU kVQU dcQU pmQU cdQU ctQU : Value}
    {odPA anPA : Option Addr} {slPA : Array (Option Value)} {ocPA kVPA dcPA pmPA cdPA ctPA : Value}
    {odMO anMO : Option Addr} {slMO : Array (Option Value)} {ocMO kVMO dcMO pmMO cdMO ctMO : Value}
    {odOR anOR : Option Addr} {slOR : Array (Option Value)} {ocOR kVOR dcOR pmOR cdOR ctOR : Value}
    {odCL anCL : Option Addr} {slCL : Array (Option Value)} {ocCL kVCL dcCL pmCL cdCL ctCL : Value}
    {odTO anTO : Option Addr} {slTO : Array (Option Value)} {ocTO kVTO dcTO pmTO cdTO ctTO : Value}
    {odNO anNO : Option Addr} {slNO : Array (Option Value)} {ocNO kVNO dcNO pmNO cdNO ctNO : Value}
    {odZ anZ : Option Addr} {slZ : Array (Option Value)} {ocZ kVZ dcZ pmZ cdZ ctZ : Value} {eIO : Value} {dIO : Option Addr} {usIO : Array Value} {wIO : Array (Option Value)} {eBA : Value} {dBA : Option Addr} {usBA : Array Value} {wBA : Array (Option Value)} {tgM : Tok} {tgGM : Tok}
    (aW : PySem.W.nsIn K mainGlobals "is_whole" = some (some (.ref fW))) (lW : K.lookup fW = some ⟨ocW, odW, .func (PySem.W.fnOf "is_whole" "is_whole" (defArgs sWhole) (defBody sWhole) (defScope sWhole) .none kVW dcW pmW anW cdW ctW), slW⟩) (Wc : PySem.W.codeIn K cdW "is_whole" = true) (kW : PySem.W.keepIn K (.ref fW) = true)
    (aR : PySem.W.nsIn K mainGlobals "is_row" = some (some (.ref fR))) (lR : K.lookup fR = some ⟨ocR, odR, .func (PySem.W.fnOf "is_row" "is_row" (defArgs sRow) (defBody sRow) (defScope sRow) .none kVR dcR pmR anR cdR ctR), slR⟩) (Rc : PySem.W.codeIn K cdR "is_row" = true) (kR : PySem.W.keepIn K (.ref fR) = true)
    (aIO : PySem.W.nsIn K mainGlobals "is_order" = some (some (.ref fIO))) (lIO : K.lookup fIO = some ⟨ocIO, odIO, .func (PySem.W.fnOf "is_order" "is_order" (defArgs sIsO) (defBody sIsO) (defScope sIsO) .none kVIO dcIO pmIO anIO (.ref cIO) ctIO), slIO⟩) (IOc : PySem.W.codeIn K (.ref cIO) "is_order" = true) (kIO : PySem.W.keepIn K (.ref fIO) = true)
    (aPE : PySem.W.nsIn K mainGlobals "people_of" = some (some (.ref fPE))) (lPE : K.lookup fPE = some ⟨ocPE, odPE, .func (PySem.W.fnOf "people_of" "people_of" (defArgs sPeople) (defBody sPeople) (defScope sPeople) .none kVPE dcPE pmPE anPE cdPE ctPE), slPE⟩) (PEc : PySem.W.codeIn K cdPE "people_of" = true) (kPE : PySem.W.keepIn K (.ref fPE) = true)
    (aPL : PySem.W.nsIn K mainGlobals "places_of" = some (some (.ref fPL))) (lPL : K.lookup fPL = some ⟨ocPL, odPL, .func (PySem.W.fnOf "places_of" "places_of" (defArgs sPlaces) (defBody sPlaces) (defScope sPlaces) .none kVPL dcPL pmPL anPL cdPL ctPL), slPL⟩) (PLc : PySem.W.codeIn K cdPL "places_of" = true) (kPL : PySem.W.keepIn K (.ref fPL) = true)
    (aBI : PySem.W.nsIn K mainGlobals "bar_it" = some (some (.ref fBI))) (lBI : K.lookup fBI = some ⟨ocBI, odBI, .func (PySem.W.fnOf "bar_it" "bar_it" (defArgs sBarIt) (defBody sBarIt) (defScope sBarIt) .none kVBI dcBI pmBI anBI cdBI ctBI), slBI⟩) (BIc : PySem.W.codeIn K cdBI "bar_it" = true) (kBI : PySem.W.keepIn K (.ref fBI) = true)
    (aBR : PySem.W.nsIn K mainGlobals "barring" = some (some (.ref fBR))) (lBR : K.lookup fBR = some ⟨ocBR, odBR, .func (PySem.W.fnOf "barring" "barring" (defArgs sBarring) (defBody sBarring) (defScope sBarring) .none kVBR dcBR pmBR anBR cdBR ctBR), slBR⟩) (BRc : PySem.W.codeIn K cdBR "barring" = true) (kBR : PySem.W.keepIn K (.ref fBR) = true)
    (aBA : PySem.W.nsIn K mainGlobals "bars" = some (some (.ref fBA))) (lBA : K.lookup fBA = some ⟨ocBA, odBA, .func (PySem.W.fnOf "bars" "bars" (defArgs sBars) (defBody sBars) (defScope sBars) .none kVBA dcBA pmBA anBA (.ref cBA) ctBA), slBA⟩) (BAc : PySem.W.codeIn K (.ref cBA) "bars" = true) (kBA : PySem.W.keepIn K (.ref fBA) = true)
    (aLE : PySem.W.nsIn K mainGlobals "least_patiences" = some (some (.ref fLE))) (lLE : K.lookup fLE = some ⟨ocLE, odLE, .func (PySem.W.fnOf "least_patiences" "least_patiences" (defArgs sLeast) (defBody sLeast) (defScope sLeast) .none kVLE dcLE pmLE anLE cdLE ctLE), slLE⟩) (LEc : PySem.W.codeIn K cdLE "least_patiences" = true) (kLE : PySem.W.keepIn K (.ref fLE) = true)
    (aRF : PySem.W.nsIn K mainGlobals "refuser_of" = some (some (.ref fRF))) (lRF : K.lookup fRF = some ⟨ocRF, odRF, .func (PySem.W.fnOf "refuser_of" "refuser_of" (defArgs sRefus) (defBody sRefus) (defScope sRefus) .none kVRF dcRF pmRF anRF cdRF ctRF), slRF⟩) (RFc : PySem.W.codeIn K cdRF "refuser_of" = true) (kRF : PySem.W.keepIn K (.ref fRF) = true)
    (aRC : PySem.W.nsIn K mainGlobals "rows_counted" = some (some (.ref fRC))) (lRC : K.lookup fRC = some ⟨ocRC, odRC, .func (PySem.W.fnOf "rows_counted" "rows_counted" (defArgs sRowsC) (defBody sRowsC) (defScope sRowsC) .none kVRC dcRC pmRC anRC cdRC ctRC), slRC⟩) (RCc : PySem.W.codeIn K cdRC "rows_counted" = true) (kRC : PySem.W.keepIn K (.ref fRC) = true)
    (aBG : PySem.W.nsIn K mainGlobals "_law_bag" = some (some (.ref fBG))) (lBG : K.lookup fBG = some ⟨ocBG, odBG, .func (PySem.W.fnOf "_law_bag" "_law_bag" (defArgs sBag) (defBody sBag) (defScope sBag) .none kVBG dcBG pmBG anBG cdBG ctBG), slBG⟩) (BGc : PySem.W.codeIn K cdBG "_law_bag" = true) (kBG : PySem.W.keepIn K (.ref fBG) = true)
    (aSR : PySem.W.nsIn K mainGlobals "_law_stir" = some (some (.ref fSR))) (lSR : K.lookup fSR = some ⟨ocSR, odSR, .func (PySem.W.fnOf "_law_stir" "_law_stir" (defArgs sStir) (defBody sStir) (defScope sStir) .none kVSR dcSR pmSR anSR cdSR ctSR), slSR⟩) (SRc : PySem.W.codeIn K cdSR "_law_stir" = true) (kSR : PySem.W.keepIn K (.ref fSR) = true)
    (aDR : PySem.W.nsIn K mainGlobals "_law_draw" = some (some (.ref fDR))) (lDR : K.lookup fDR = some ⟨ocDR, odDR, .func (PySem.W.fnOf "_law_draw" "_law_draw" (defArgs sDraw) (defBody sDraw) (defScope sDraw) .none kVDR dcDR pmDR anDR cdDR ctDR), slDR⟩) (DRc : PySem.W.codeIn K cdDR "_law_draw" = true) (kDR : PySem.W.keepIn K (.ref fDR) = true)
    (aCA : PySem.W.nsIn K mainGlobals "_law_came" = some (some (.ref fCA))) (lCA : K.lookup fCA = some ⟨ocCA, odCA, .func (PySem.W.fnOf "_law_came" "_law_came" (defArgs sCame) (defBody sCame) (defScope sCame) .none kVCA dcCA pmCA anCA cdCA ctCA), slCA⟩) (CAc : PySem.W.codeIn K cdCA "_law_came" = true) (kCA : PySem.W.keepIn K (.ref fCA) = true)
    (aQU : PySem.W.nsIn K mainGlobals "_law_queue" = some (some (.ref fQU))) (lQU : K.lookup fQU = some ⟨ocQU, odQU, .func (PySem.W.fnOf "_law_queue" "_law_queue" (defArgs sQueue) (defBody sQueue) (defScope sQueue) .none kVQU dcQU pmQU anQU cdQU ctQU), slQU⟩) (QUc : PySem.W.codeIn K cdQU "_law_queue" = true) (kQU : PySem.W.keepIn K (.ref fQU) = true)
    (aPA : PySem.W.nsIn K mainGlobals "_law_patience" = some (some (.ref fPA))) (lPA : K.lookup fPA = some ⟨ocPA, odPA, .func (PySem.W.fnOf "_law_patience" "_law_patience" (defArgs sPatL) (defBody sPatL) (defScope sPatL) .none kVPA dcPA pmPA anPA cdPA ctPA), slPA⟩) (PAc : PySem.W.codeIn K cdPA "_law_patience" = true) (kPA : PySem.W.keepIn K (.ref fPA) = true)
    (aMO : PySem.W.nsIn K mainGlobals "_law_mixed_order" = some (some (.ref fMO))) (lMO : K.lookup fMO = some ⟨ocMO, odMO, .func (PySem.W.fnOf "_law_mixed_order" "_law_mixed_order" (defArgs sMixO) (defBody sMixO) (defScope sMixO) .none kVMO dcMO pmMO anMO cdMO ctMO), slMO⟩) (MOc : PySem.W.codeIn K cdMO "_law_mixed_order" = true) (kMO : PySem.W.keepIn K (.ref fMO) = true)
    (aOR : PySem.W.nsIn K mainGlobals "_law_order" = some (some (.ref fOR))) (lOR : K.lookup fOR = some ⟨ocOR, odOR, .func (PySem.W.fnOf "_law_order" "_law_order" (defArgs sOrder) (defBody sOrder) (defScope sOrder) .none kVOR dcOR pmOR anOR cdOR ctOR), slOR⟩) (ORc : PySem.W.codeIn K cdOR "_law_order" = true) (kOR : PySem.W.keepIn K (.ref fOR) = true)
    (aCL : PySem.W.nsIn K mainGlobals "_law_class" = some (some (.ref fCL))) (lCL : K.lookup fCL = some ⟨ocCL, odCL, .func (PySem.W.fnOf "_law_class" "_law_class" (defArgs sClass) (defBody sClass) (defScope sClass) .none kVCL dcCL pmCL anCL cdCL ctCL), slCL⟩) (CLc : PySem.W.codeIn K cdCL "_law_class" = true) (kCL : PySem.W.keepIn K (.ref fCL) = true)
    (aTO : PySem.W.nsIn K mainGlobals "_law_told" = some (some (.ref fTO))) (lTO : K.lookup fTO = some ⟨ocTO, odTO, .func (PySem.W.fnOf "_law_told" "_law_told" (defArgs sTold) (defBody sTold) (defScope sTold) .none kVTO dcTO pmTO anTO cdTO ctTO), slTO⟩) (TOc : PySem.W.codeIn K cdTO "_law_told" = true) (kTO : PySem.W.keepIn K (.ref fTO) = true)
    (aNO : PySem.W.nsIn K mainGlobals "_law_no_orders" = some (some (.ref fNO))) (lNO : K.lookup fNO = some ⟨ocNO, odNO, .func (PySem.W.fnOf "_law_no_orders" "_law_no_orders" (defArgs sNoO) (defBody sNoO) (defScope sNoO) .none kVNO dcNO pmNO anNO cdNO ctNO), slNO⟩) (NOc : PySem.W.codeIn K cdNO "_law_no_orders" = true) (kNO : PySem.W.keepIn K (.ref fNO) = true)
    (aZ : PySem.W.nsIn K mainGlobals "law" = some (some (.ref fZ))) (lZ : K.lookup fZ = some ⟨ocZ, odZ, .func (PySem.W.fnOf "law" "law" (defArgs sLaw) (defBody sLaw) (defScope sLaw) .none kVZ dcZ pmZ anZ cdZ ctZ), slZ⟩) (Zc : PySem.W.codeIn K cdZ "law" = true) (kZ : PySem.W.keepIn K (.ref fZ) = true)
    (z_isinstance : PySem.W.nsIn K mainGlobals "isinstance" = some none) (z_len : PySem.W.nsIn K mainGlobals "len" = some none) (z_all : PySem.W.nsIn K mainGlobals "all" = some none) (z_int : PySem.W.nsIn K mainGlobals "int" = some none) (z_bool : PySem.W.nsIn K mainGlobals "bool" = some none) (z_list : PySem.W.nsIn K mainGlobals "list" = some none) (z_tuple : PySem.W.nsIn K mainGlobals "tuple" = some none) (z_range : PySem.W.nsIn K mainGlobals "range" = some none) (z_sorted : PySem.W.nsIn K mainGlobals "sorted" = some none) (z_enumerate : PySem.W.nsIn K mainGlobals "enumerate" = some none) (z_repr : PySem.W.nsIn K mainGlobals "repr" = some none) (z_min : PySem.W.nsIn K mainGlobals "min" = some none) (z_max : PySem.W.nsIn K mainGlobals "max" = some none) (z_ValueError : PySem.W.nsIn K mainGlobals "ValueError" = some none)
    (mIO : K.lookup cIO = some ⟨eIO, dIO, .fields usIO, wIO⟩) (pIO : usIO[11]? = some (.ref PIO)) (qIO : PySem.W.codeHdIn K cIO PIO = true) (nIO : (K.lookup PIO).isNone = true) (rIO : ((recsOf q).any fun e => e.name == "is_order") = true)
    (mBA : K.lookup cBA = some ⟨eBA, dBA, .fields usBA, wBA⟩) (pBA : usBA[11]? = some (.ref PBA)) (qBA : PySem.W.codeHdIn K cBA PBA = true) (nBA : (K.lookup PBA).isNone = true) (rBA : ((recsOf q).any fun e => e.name == "bars") = true)
    (xg0 : PySem.W.nsIn K mainGlobals "NoOrder" = some (some (.ref X0)))
    (xx0 : PySem.W.excIn K X0 [.type "ValueError", .type "Exception", .type "BaseException", .type "object"] "ValueError.__new__" = true)
    (xk0 : PySem.W.keepIn K (.ref X0) = true)
    (xb0 : PySem.W.subIn K (.ref X0) (.type "BaseException") = some true)
    (xt0 : PySem.W.typeIn K (.ref X0) = some (.type "type"))
    (ea0 : PySem.W.findIn K (.ref X0) "__getattribute__" = some (some (.builtin "BaseException.__getattribute__")))
    (eb0 : PySem.W.findIn K (.ref X0) "__getattr__" = some none)
    (ed0 : PySem.W.hasDictIn K X0 = true)
    (ec0 : PySem.W.findIn K (.ref X0) "__class__" = some (some (.builtin "object.__class__")))
    (em0 : PySem.W.mroIn K X0 (.type "object") = some true)
    (t0_0 : PySem.W.kitOne K (.ref X0) (.ref X0) = some true)
    (t1_0 : PySem.W.kitOne K (.ref X0) (.ref X1) = some false)
    (u0_0 : PySem.W.kitAny K (.ref X0) [.ref Y_NoPlan, .ref Y_NoPerson, .ref Y_NoMoment, .ref Y_TooMany, .ref Y_NoOther, .ref Y_NoPlace] = some false)
    (u1_0 : PySem.W.kitAny K (.ref X0) [.ref Y_NoEnd, .ref Y_NoPatience, .ref Y_Nobody, .ref Y_Nothing, .ref Y_NoHistory, .ref Y_NoText] = some false)
    (u2_0 : PySem.W.kitAny K (.ref X0) [.ref Y_NoForm, .ref Y_NoneYet] = some false)
    (v70 : PySem.W.kitOne K (.ref X0) (.type "ValueError") = some true)
    (v80 : PySem.W.exmOne K (.ref X0) (.ref XE) = some true)
    (xg1 : PySem.W.nsIn K mainGlobals "NoNumber" = some (some (.ref X1)))
    (xx1 : PySem.W.excIn K X1 [.type "ValueError", .type "Exception", .type "BaseException", .type "object"] "ValueError.__new__" = true)
    (xk1 : PySem.W.keepIn K (.ref X1) = true)
    (xb1 : PySem.W.subIn K (.ref X1) (.type "BaseException") = some true)
    (xt1 : PySem.W.typeIn K (.ref X1) = some (.type "type"))
    (ea1 : PySem.W.findIn K (.ref X1) "__getattribute__" = some (some (.builtin "BaseException.__getattribute__")))
    (eb1 : PySem.W.findIn K (.ref X1) "__getattr__" = some none)
    (ed1 : PySem.W.hasDictIn K X1 = true)
    (ec1 : PySem.W.findIn K (.ref X1) "__class__" = some (some (.builtin "object.__class__")))
    (em1 : PySem.W.mroIn K X1 (.type "object") = some true)
    (t0_1 : PySem.W.kitOne K (.ref X1) (.ref X0) = some false)
    (t1_1 : PySem.W.kitOne K (.ref X1) (.ref X1) = some true)
    (u0_1 : PySem.W.kitAny K (.ref X1) [.ref Y_NoPlan, .ref Y_NoPerson, .ref Y_NoMoment, .ref Y_TooMany, .ref Y_NoOther, .ref Y_NoPlace] = some false)
    (u1_1 : PySem.W.kitAny K (.ref X1) [.ref Y_NoEnd, .ref Y_NoPatience, .ref Y_Nobody, .ref Y_Nothing, .ref Y_NoHistory, .ref Y_NoText] = some false)
    (u2_1 : PySem.W.kitAny K (.ref X1) [.ref Y_NoForm, .ref Y_NoneYet] = some false)
    (v71 : PySem.W.kitOne K (.ref X1) (.type "ValueError") = some true)
    (v81 : PySem.W.exmOne K (.ref X1) (.ref XE) = some true)
    (ogNoPlan : PySem.W.nsIn K mainGlobals "NoPlan" = some (some (.ref Y_NoPlan)))
    (ogNoPerson : PySem.W.nsIn K mainGlobals "NoPerson" = some (some (.ref Y_NoPerson)))
    (ogNoMoment : PySem.W.nsIn K mainGlobals "NoMoment" = some (some (.ref Y_NoMoment)))
    (ogTooMany : PySem.W.nsIn K mainGlobals "TooMany" = some (some (.ref Y_TooMany)))
    (ogNoOther : PySem.W.nsIn K mainGlobals "NoOther" = some (some (.ref Y_NoOther)))
    (ogNoPlace : PySem.W.nsIn K mainGlobals "NoPlace" = some (some (.ref Y_NoPlace)))
    (ogNoEnd : PySem.W.nsIn K mainGlobals "NoEnd" = some (some (.ref Y_NoEnd)))
    (ogNoPatience : PySem.W.nsIn K mainGlobals "NoPatience" = some (some (.ref Y_NoPatience)))
    (ogNobody : PySem.W.nsIn K mainGlobals "Nobody" = some (some (.ref Y_Nobody)))
    (ogNothing : PySem.W.nsIn K mainGlobals "Nothing" = some (some (.ref Y_Nothing)))
    (ogNoHistory : PySem.W.nsIn K mainGlobals "NoHistory" = some (some (.ref Y_NoHistory)))
    (ogNoText : PySem.W.nsIn K mainGlobals "NoText" = some (some (.ref Y_NoText)))
    (ogNoForm : PySem.W.nsIn K mainGlobals "NoForm" = some (some (.ref Y_NoForm)))
    (ogNoneYet : PySem.W.nsIn K mainGlobals "NoneYet" = some (some (.ref Y_NoneYet)))
    (gE : PySem.W.nsIn K mainGlobals "LineError" = some (some (.ref XE)))
    (hn : PySem.W.specialIn K (.builtin "object.__class__") "__get__" = some (some (.builtin "getset_descriptor.__get__"))) (ht : PySem.W.takesIn K (.builtin "object.__class__") = some true)
    
    (gM : PySem.W.nsIn K mainGlobals "MOST_PEOPLE" = some (some (.int 60 tgM))) (gGM : PySem.W.nsIn K mainGlobals "GREATEST_MOST" = some (some (.int 1000000000000000000 tgGM))) : AtLaw l w K mg fa h := by
  have e := hfa.symm.trans (PySem.W.mg_of X G.g aZ)
  cases e
  have FW := fun_mk (st := sWhole) lW Wc kW
  have FR := fun_mk (st := sRow) lR Rc kR
  have FIO := fun_mk (st := sIsO) lIO IOc kIO
  have FPE := fun_mk (st := sPeople) lPE PEc kPE
  have FPL := fun_mk (st := sPlaces) lPL PLc kPL
  have FBI := fun_mk (st := sBarIt) lBI BIc kBI
  have FBR := fun_mk (st := sBarring) lBR BRc kBR
  have FBA := fun_mk (st := sBars) lBA BAc kBA
  have FLE := fun_mk (st := sLeast) lLE LEc kLE
  have FRF := fun_mk (st := sRefus) lRF RFc kRF
  have FRC := fun_mk (st := sRowsC) lRC RCc kRC
  have FBG := fun_mk (st := sBag) lBG BGc kBG
  have FSR := fun_mk (st := sStir) lSR SRc kSR
  have FDR := fun_mk (st := sDraw) lDR DRc kDR
  have FCA := fun_mk (st := sCame) lCA CAc kCA
  have FQU := fun_mk (st := sQueue) lQU QUc kQU
  have FPA := fun_mk (st := sPatL) lPA PAc kPA
  have FMO := fun_mk (st := sMixO) lMO MOc kMO
  have FOR := fun_mk (st := sOrder) lOR ORc kOR
  have FCL := fun_mk (st := sClass) lCL CLc kCL
  have FTO := fun_mk (st := sTold) lTO TOc kTO
  have FNO := fun_mk (st := sNoO) lNO NOc kNO
  have FZ := fun_mk (st := sLaw) lZ Zc kZ
  have bW := FW.binds (ps := ["thing"]) fun _ _ _ _ _ _ us hl => match us, hl with | [_], _ => rfl
  have bR := FR.binds (ps := ["thing"]) fun _ _ _ _ _ _ us hl => match us, hl with | [_], _ => rfl
  have bIO := FIO.binds (ps := ["thing"]) fun _ _ _ _ _ _ us hl => match us, hl with | [_], _ => rfl
  have bPE := FPE.binds (ps := ["order"]) fun _ _ _ _ _ _ us hl => match us, hl with | [_], _ => rfl
  have bPL := FPL.binds (ps := ["people"]) fun _ _ _ _ _ _ us hl => match us, hl with | [_], _ => rfl
  have bBI := FBI.binds (ps := ["places", "youngest", "oldest", "between"]) fun _ _ _ _ _ _ us hl => match us, hl with | [_, _, _, _], _ => rfl
  have bBR := FBR.binds (ps := ["order"]) fun _ _ _ _ _ _ us hl => match us, hl with | [_], _ => rfl
  have bBA := FBA.binds (ps := ["order", "thing"]) fun _ _ _ _ _ _ us hl => match us, hl with | [_, _], _ => rfl
  have bLE := FLE.binds (ps := ["order"]) fun _ _ _ _ _ _ us hl => match us, hl with | [_], _ => rfl
  have bRF := FRF.binds (ps := ["people", "newcomer"]) fun _ _ _ _ _ _ us hl => match us, hl with | [_, _], _ => rfl
  have bRC := FRC.binds (ps := ["order", "most"]) fun _ _ _ _ _ _ us hl => match us, hl with | [_, _], _ => rfl
  have bBG := FBG.binds (ps := ["script"]) fun _ _ _ _ _ _ us hl => match us, hl with | [_], _ => rfl
  have bSR := FSR.binds (ps := ["number", "place"]) fun _ _ _ _ _ _ us hl => match us, hl with | [_, _], _ => rfl
  have bDR := FDR.binds (ps := ["bag", "many"]) fun _ _ _ _ _ _ us hl => match us, hl with | [_, _], _ => rfl
  have bCA := FCA.binds (ps := ["stand", "rest", "number", "patience"]) fun _ _ _ _ _ _ us hl => match us, hl with | [_, _, _, _], _ => rfl
  have bQU := FQU.binds (ps := ["patiences"]) fun _ _ _ _ _ _ us hl => match us, hl with | [_], _ => rfl
  have bPA := FPA.binds (ps := ["bag", "most"]) fun _ _ _ _ _ _ us hl => match us, hl with | [_, _], _ => rfl
  have bMO := FMO.binds (ps := ["bag", "many"]) fun _ _ _ _ _ _ us hl => match us, hl with | [_, _], _ => rfl
  have bOR := FOR.binds (ps := ["bag", "most"]) fun _ _ _ _ _ _ us hl => match us, hl with | [_, _], _ => rfl
  have bCL := FCL.binds (ps := ["caught"]) fun _ _ _ _ _ _ us hl => match us, hl with | [_], _ => rfl
  have bTO := FTO.binds (ps := ["asked", "order", "thing"]) fun _ _ _ _ _ _ us hl => match us, hl with | [_, _, _], _ => rfl
  have bNO := FNO.binds (ps := ["bag", "order"]) fun _ _ _ _ _ _ us hl => match us, hl with | [_, _], _ => rfl
  have bZ := FZ.binds (ps := ["script"]) fun _ _ _ _ _ _ us hl => match us, hl with | [_], _ => rfl
  have CIO : FunC K "is_order" "is_order" sIsO fIO _ cIO := ⟨⟨ocIO, odIO, kVIO, dcIO, pmIO, anIO, ctIO, slIO, rfl, lIO, IOc⟩, kIO⟩
  have CBA : FunC K "bars" "bars" sBars fBA _ cBA := ⟨⟨ocBA, odBA, kVBA, dcBA, pmBA, anBA, ctBA, slBA, rfl, lBA, BAc⟩, kBA⟩
  have m := fun {n : Str} (e : PySem.W.nsIn K mainGlobals n = some none) => PySem.W.mg_none_of X G.g e
  have g := fun {n : Str} {v : Value} (e : PySem.W.nsIn K mainGlobals n = some (some v)) => PySem.W.mg_of X G.g e
  have T : Nm mg := ⟨m z_isinstance, m z_len, m z_all, m z_int, m z_bool, m z_list, m z_tuple, m z_range, m z_sorted, m z_enumerate, m z_repr, m z_min, ⟨_, g gM⟩⟩
  let GCl : ClsG K mg := ⟨X0, g xg0, X1, g xg1, Y_NoPlan, g ogNoPlan, Y_NoPerson, g ogNoPerson, Y_NoMoment, g ogNoMoment, Y_TooMany, g ogTooMany, Y_NoOther, g ogNoOther, Y_NoPlace, g ogNoPlace, Y_NoEnd, g ogNoEnd, Y_NoPatience, g ogNoPatience, Y_Nobody, g ogNobody, Y_Nothing, g ogNothing, Y_NoHistory, g ogNoHistory, Y_NoText, g ogNoText, Y_NoForm, g ogNoForm, Y_NoneYet, g ogNoneYet, m z_ValueError⟩
  have XMNoOrder : ExcM K mg "NoOrder" GCl.aNoOrder := ⟨g xg0, xx0, xk0, xb0, xt0⟩
  have XWNoOrder : ClsW K mg GCl GCl.aNoOrder "NoOrder" := ⟨true, false, ⟨⟨ea0, eb0, xb0, ed0, ec0, hn, ht, em0⟩, v70, u0_0, u1_0, u2_0, t0_0, t1_0⟩, by decide +kernel⟩
  have XMNoNumber : ExcM K mg "NoNumber" GCl.aNoNumber := ⟨g xg1, xx1, xk1, xb1, xt1⟩
  have XWNoNumber : ClsW K mg GCl GCl.aNoNumber "NoNumber" := ⟨false, true, ⟨⟨ea1, eb1, xb1, ed1, ec1, hn, ht, em1⟩, v71, u0_1, u1_1, u2_1, t0_1, t1_1⟩, by decide +kernel⟩
  have RF : Refs K mg GCl XE := ⟨g gE, XMNoOrder, v80, XWNoOrder, XMNoNumber, v81, XWNoNumber⟩
  refine ⟨PySem.W.fnOf "law" "law" (defArgs sLaw) (defBody sLaw) (defScope sLaw) .none kVZ dcZ pmZ anZ cdZ ctZ, PIO, PBA, fun b hb => ?_, fun b hb => ?_, fun b hb => ?_, fun s v => .of_eq rfl, fun base _ _ hsys hB => ?_⟩
  · simp only [List.mem_cons, List.not_mem_nil, or_false] at hb
    rcases hb with rfl | rfl
    · exact tab_of G X rIO (PySem.W.mg_of X G.g aIO) lIO rfl rfl qIO
    · exact tab_of G X rBA (PySem.W.mg_of X G.g aBA) lBA rfl rfl qBA
  · simp only [List.mem_cons, List.not_mem_nil, or_false] at hb
    rcases hb with rfl | rfl
    · exact ⟨_, qIO⟩
    · exact ⟨_, qBA⟩
  · simp only [List.mem_cons, List.not_mem_nil, or_false] at hb
    rcases hb with rfl | rfl
    · exact Option.isNone_iff_eq_none.mp nIO
    · exact Option.isNone_iff_eq_none.mp nBA
  · have XB : K.In base := ‹K.In base›
    have TBIO : GxR.TabB base mg cIO PIO := ⟨PySem.W.codeHd_of_K XB qIO, (hB PIO (by simp)).1, (hB PIO (by simp)).2⟩
    have TBBA : GxR.TabB base mg cBA PBA := ⟨PySem.W.codeHd_of_K XB qBA, (hB PBA (by simp)).1, (hB PBA (by simp)).2⟩
    have KW : Cal l.prog w K mg base 1 "is_whole" ["thing"] (spOne isWhole) := ⟨fW, _, g aW, kW, bW, ok_whole FW T⟩
    have KR : Cal l.prog w K mg base 1 "is_row" ["thing"] (spOne isRow) := ⟨fR, _, g aR, kR, bR, ok_row FR T⟩
    have KIO : Cal l.prog w K mg base 4 "is_order" ["thing"] (spIsO PIO) := ⟨fIO, _, g aIO, kIO, bIO, ok_isO CIO T TBIO KR KW⟩
    have KPE : Cal l.prog w K mg base 5 "people_of" ["order"] (spPeople PIO) := ⟨fPE, _, g aPE, kPE, bPE, ok_people FPE T KIO⟩
    have KPL : Cal l.prog w K mg base 1 "places_of" ["people"] (spPlaces) := ⟨fPL, _, g aPL, kPL, bPL, ok_places FPL T⟩
    have KBI : Cal l.prog w K mg base 1 "bar_it" ["places", "youngest", "oldest", "between"] (spBarIt) := ⟨fBI, _, g aBI, kBI, bBI, ok_barIt FBI⟩
    have KBR : Cal l.prog w K mg base 6 "barring" ["order"] (spBarring PIO) := ⟨fBR, _, g aBR, kBR, bBR, ok_barring FBR T KPE KPL KBI⟩
    have KLE : Cal l.prog w K mg base 7 "least_patiences" ["order"] (spLeast PIO) := ⟨fLE, _, g aLE, kLE, bLE, ok_least FLE T KPE KPL KBR⟩
    have KRF : Cal l.prog w K mg base 1 "refuser_of" ["people", "newcomer"] (spRefus) := ⟨fRF, _, g aRF, kRF, bRF, ok_refus FRF T⟩
    have BPE := FnOk.both (ok_people (P := l.prog) (w := w) (base := base) FPE T KIO) (bad_people (P := l.prog) (w := w) (base := base) FPE XMNoOrder KIO)
    have BBR := FnOk.both (ok_barring (P := l.prog) (w := w) (base := base) FBR T KPE KPL KBI) (bad_barring (P := l.prog) (w := w) (base := base) FBR KPL (g aPE) kPE BPE bPE)
    have BBA := FnOk.both (ok_bars (P := l.prog) (w := w) (base := base) CBA T TBBA KR KW KPE KPL KBI) (bad_bars (P := l.prog) (w := w) (base := base) FBA KPL (g aPE) kPE BPE bPE)
    have BLE := FnOk.both (ok_least (P := l.prog) (w := w) (base := base) FLE T KPE KPL KBR) (bad_least (P := l.prog) (w := w) (base := base) FLE (g aPE) kPE BPE bPE)
    have BRC := FnOk.both (ok_rowsC (P := l.prog) (w := w) (base := base) FRC T (m z_max) ⟨_, g gGM⟩ KW KPE KLE KRF) (bad_rows (P := l.prog) (w := w) (base := base) FRC XMNoNumber KW ⟨_, g gGM⟩ (g aPE) kPE BPE bPE)
    have KBG : Cal l.prog w K mg base 1 "_law_bag" ["script"] (spBag K) := ⟨fBG, _, g aBG, kBG, bBG, ok_bag FBG T.list⟩
    have KSR : Cal l.prog w K mg base 1 "_law_stir" ["number", "place"] (spStir) := ⟨fSR, _, g aSR, kSR, bSR, ok_stir FSR⟩
    have KDR : ∀ r, Cal l.prog w K mg base 2 "_law_draw" ["bag", "many"] (spDraw r) := fun r => ⟨fDR, _, g aDR, kDR, bDR, ok_draw FDR T.len KSR⟩
    have KDE : Cal l.prog w K mg base 2 "_law_draw" ["bag", "many"] (spE spDraw) := ⟨fDR, _, g aDR, kDR, bDR, fnE fun r => ok_draw FDR T.len KSR⟩
    have KCA : Cal l.prog w K mg base 1 "_law_came" ["stand", "rest", "number", "patience"] (spCame) := ⟨fCA, _, g aCA, kCA, bCA, ok_came FCA T.len⟩
    have KQU : Cal l.prog w K mg base 2 "_law_queue" ["patiences"] (spQueue) := ⟨fQU, _, g aQU, kQU, bQU, ok_queue FQU T.enum KCA⟩
    have KPA : ∀ r, Cal l.prog w K mg base 3 "_law_patience" ["bag", "most"] (spPatL r) := fun r => ⟨fPA, _, g aPA, kPA, bPA, ok_patL FPA (KDR r)⟩
    have KMO : ∀ r, Cal l.prog w K mg base 3 "_law_mixed_order" ["bag", "many"] (spMixO r) := fun r => ⟨fMO, _, g aMO, kMO, bMO, ok_mixO FMO T (KDR r)⟩
    have KOR : Cal l.prog w K mg base 4 "_law_order" ["bag", "most"] (spE spOrder) := ⟨fOR, _, g aOR, kOR, bOR, fnE fun r => ok_order FOR T (KDR r) (KPA r) (KMO r) KQU⟩
    have KCL : CalP l.prog w K mg base 1 "_law_class" ["caught"] (spClass K mg GCl) := ⟨fCL, _, g aCL, kCL, bCL, ok_class FCL T GCl⟩
    have KTO : Cal l.prog w K mg base 9 "_law_told" ["asked", "order", "thing"] (spTold PIO PBA) := ⟨fTO, _, g aTO, kTO, bTO, ok_told FTO GCl RF KCL (g aLE) kLE BLE bLE (g aBR) kBR BBR bBR (g aBA) kBA BBA bBA (g aRC) kRC BRC bRC⟩
    have KNO : Cal l.prog w K mg base 3 "_law_no_orders" ["bag", "order"] (spE spNoO) := ⟨fNO, _, g aNO, kNO, bNO, fnE fun r => ok_noO FNO T (KDR r)⟩
    exact ok_law FZ T hsys (KBG.mono (by decide)) (KOR.mono (by decide)) (KNO.mono (by decide)) (KDE.mono (by decide)) (KTO.mono (by decide))
end CL
open PySem PySem.W PyProof.Rows
set_option maxRecDepth 100000 in
set_option maxHeartbeats 0 in
theorem PySem.Challenge.cw_comersline_k37_orders_refused_holds : PySem.Challenge.rw_comersline_k37_orders_refused.Holds := by
  w_on; o_law; k_head; (case hw => w_witness2)
  k_fill
  refine CL.walk (l := PySem.Challenge.rw_comersline_k37_orders_refused) rfl rfl (by decide +kernel) (fun w h Y => PySem.W.kIn_of Y) ?F
  case F =>
    intro w mg mb mean lo fa h KX G hmg
    refine' CL.all_mk KX G hmg ?aW ?lW ?Wc ?kW ?aR ?lR ?Rc ?kR ?aIO ?lIO ?IOc ?kIO ?aPE ?lPE ?PEc ?kPE ?aPL ?lPL ?PLc ?kPL ?aBI ?lBI ?BIc ?kBI ?aBR ?lBR ?BRc ?kBR ?aBA ?lBA ?BAc ?kBA ?aLE ?lLE ?LEc ?kLE ?aRF ?lRF ?RFc ?kRF ?aRC ?lRC ?RCc ?kRC ?aBG ?lBG ?BGc ?kBG ?aSR ?lSR ?SRc ?kSR ?aDR ?lDR ?DRc ?kDR ?aCA ?lCA ?CAc ?kCA ?aQU ?lQU ?QUc ?kQU ?aPA ?lPA ?PAc ?kPA ?aMO ?lMO ?MOc ?kMO ?aOR ?lOR ?ORc ?kOR ?aCL ?lCL ?CLc ?kCL ?aTO ?lTO ?TOc ?kTO ?aNO ?lNO ?NOc ?kNO ?aZ ?lZ ?Zc ?kZ ?z_isinstance ?z_len ?z_all ?z_int ?z_bool ?z_list ?z_tuple ?z_range ?z_sorted ?z_enumerate ?z_repr ?z_min ?z_max ?z_ValueError ?mIO ?pIO ?qIO ?nIO ?rIO ?mBA ?pBA ?qBA ?nBA ?rBA ?xg0 ?xx0 ?xk0 ?xb0 ?xt0 ?ea0 ?eb0 ?ed0 ?ec0 ?em0 ?t0_0 ?t1_0 ?u0_0 ?u1_0 ?u2_0 ?v70 ?v80 ?xg1 ?xx1 ?xk1 ?xb1 ?xt1 ?ea1 ?eb1 ?ed1 ?ec1 ?em1 ?t0_1 ?t1_1 ?u0_1 ?u1_1 ?u2_1 ?v71 ?v81 ?ogNoPlan ?ogNoPerson ?ogNoMoment ?ogTooMany ?ogNoOther ?ogNoPlace ?ogNoEnd ?ogNoPatience ?ogNobody ?ogNothing ?ogNoHistory ?ogNoText ?ogNoForm ?ogNoneYet ?gE ?hn ?ht ?gM ?gGM
    (case xg0 => k_is)
    (case xg1 => k_is)
    (case ogNoPlan => k_is)
    (case ogNoPerson => k_is)
    (case ogNoMoment => k_is)
    (case ogTooMany => k_is)
    (case ogNoOther => k_is)
    (case ogNoPlace => k_is)
    (case ogNoEnd => k_is)
    (case ogNoPatience => k_is)
    (case ogNobody => k_is)
    (case ogNothing => k_is)
    (case ogNoHistory => k_is)
    (case ogNoText => k_is)
    (case ogNoForm => k_is)
    (case ogNoneYet => k_is)
    (case gE => k_is)
    (case aW => k_is)
    (case lW => k_is)
    (case Wc => k_is)
    (case kW => k_is)
    (case aR => k_is)
    (case lR => k_is)
    (case Rc => k_is)
    (case kR => k_is)
    (case aIO => k_is)
    (case lIO => k_is)
    (case IOc => k_is)
    (case kIO => k_is)
    (case aPE => k_is)
    (case lPE => k_is)
    (case PEc => k_is)
    (case kPE => k_is)
    (case aPL => k_is)
    (case lPL => k_is)
    (case PLc => k_is)
    (case kPL => k_is)
    (case aBI => k_is)
    (case lBI => k_is)
    (case BIc => k_is)
    (case kBI => k_is)
    (case aBR => k_is)
    (case lBR => k_is)
    (case BRc => k_is)
    (case kBR => k_is)
    (case aBA => k_is)
    (case lBA => k_is)
    (case BAc => k_is)
    (case kBA => k_is)
    (case aLE => k_is)
    (case lLE => k_is)
    (case LEc => k_is)
    (case kLE => k_is)
    (case aRF => k_is)
    (case lRF => k_is)
    (case RFc => k_is)
    (case kRF => k_is)
    (case aRC => k_is)
    (case lRC => k_is)
    (case RCc => k_is)
    (case kRC => k_is)
    (case aBG => k_is)
    (case lBG => k_is)
    (case BGc => k_is)
    (case kBG => k_is)
    (case aSR => k_is)
    (case lSR => k_is)
    (case SRc => k_is)
    (case kSR => k_is)
    (case aDR => k_is)
    (case lDR => k_is)
    (case DRc => k_is)
    (case kDR => k_is)
    (case aCA => k_is)
    (case lCA => k_is)
    (case CAc => k_is)
    (case kCA => k_is)
    (case aQU => k_is)
    (case lQU => k_is)
    (case QUc => k_is)
    (case kQU => k_is)
    (case aPA => k_is)
    (case lPA => k_is)
    (case PAc => k_is)
    (case kPA => k_is)
    (case aMO => k_is)
    (case lMO => k_is)
    (case MOc => k_is)
    (case kMO => k_is)
    (case aOR => k_is)
    (case lOR => k_is)
    (case ORc => k_is)
    (case kOR => k_is)
    (case aCL => k_is)
    (case lCL => k_is)
    (case CLc => k_is)
    (case kCL => k_is)
    (case aTO => k_is)
    (case lTO => k_is)
    (case TOc => k_is)
    (case kTO => k_is)
    (case aNO => k_is)
    (case lNO => k_is)
    (case NOc => k_is)
    (case kNO => k_is)
    (case aZ => k_is)
    (case lZ => k_is)
    (case Zc => k_is)
    (case kZ => k_is)
    (case z_isinstance => k_is)
    (case z_len => k_is)
    (case z_all => k_is)
    (case z_int => k_is)
    (case z_bool => k_is)
    (case z_list => k_is)
    (case z_tuple => k_is)
    (case z_range => k_is)
    (case z_sorted => k_is)
    (case z_enumerate => k_is)
    (case z_repr => k_is)
    (case z_min => k_is)
    (case z_max => k_is)
    (case z_ValueError => k_is)
    (case mIO => k_is)
    (case pIO => rfl)
    (case qIO => kernel_rfl)
    (case nIO => kernel_rfl)
    (case rIO => kernel_rfl)
    (case mBA => k_is)
    (case pBA => rfl)
    (case qBA => kernel_rfl)
    (case nBA => kernel_rfl)
    (case rBA => kernel_rfl)
    (case xx0 => k_exc)
    (case xk0 => k_is)
    (case xb0 => k_is)
    (case xt0 => k_is)
    (case ea0 => k_is)
    (case eb0 => k_is)
    (case ed0 => k_is)
    (case ec0 => k_is)
    (case em0 => k_is)
    (case t0_0 => first | rfl | kernel_rfl)
    (case t1_0 => first | rfl | kernel_rfl)
    (case u0_0 => kernel_rfl)
    (case u1_0 => kernel_rfl)
    (case u2_0 => kernel_rfl)
    (case v70 => kernel_rfl)
    (case v80 => kernel_rfl)
    (case xx1 => k_exc)
    (case xk1 => k_is)
    (case xb1 => k_is)
    (case xt1 => k_is)
    (case ea1 => k_is)
    (case eb1 => k_is)
    (case ed1 => k_is)
    (case ec1 => k_is)
    (case em1 => k_is)
    (case t0_1 => first | rfl | kernel_rfl)
    (case t1_1 => first | rfl | kernel_rfl)
    (case u0_1 => kernel_rfl)
    (case u1_1 => kernel_rfl)
    (case u2_1 => kernel_rfl)
    (case v71 => kernel_rfl)
    (case v81 => kernel_rfl)
    (case hn => k_is)
    (case ht => k_is)
    (case gM => k_is)
    (case gGM => k_is)
