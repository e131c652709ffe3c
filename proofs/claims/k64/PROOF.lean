import PyProof.Rows.All
import Wide.All
import OpenK.AllK
import Wide.FinOn
import HandS.ForMost
import HandS.ForExc
import HandS.AnyAll
import HandS.GenBody
import HandS.IsInst
import HandS.TupAny
import HandS.Wide
import HandS.Codes
import HandS.More
import PyProof.Rows.FactsN_abs
import HandS.Flow
import HandS.Walk
import HandS.Conv
import HandS.Text
import HandS.SortInts
import HandS.SortKw
import HandS.Style
import HandS.TryOnly
import HandS.EndTab
import HandS.NestedK
import PySem.Challenge.RW_comersline_k64_whole_orders_and_lines
set_option Elab.async false
set_option linter.all false
set_option maxRecDepth 100000
set_option maxHeartbeats 1000000
namespace GE
open PySem PySem.Spec PyProof.Rows L2 GenW
open Sem (wp)

/-- what a consumer holds between two turns of a generator -/
structure Con (α : Type) where
  fp : List Addr
  at_ : α → Heap → Prop
structure ConOk {α : Type} (C : Con α) : Prop where
  obj : ∀ a h, C.at_ a h → ∀ b ∈ C.fp, ∃ o, h.get? b = some o ∧ ∀ v, o.data ≠ .cell v
  keep : ∀ a h h', C.at_ a h → (∀ b ∈ C.fp, ∀ o, h.get? b = some o → h'.get? b = some o) → C.at_ a h'
  inj : ∀ a b h, C.at_ a h → C.at_ b h → a = b
def conU : Con Unit := ⟨[], fun _ _ => True⟩
theorem conU_ok : ConOk conU := ⟨(fun _ _ _ b hb => nomatch hb), (fun _ _ _ _ _ => trivial), (fun _ _ _ _ _ => rfl)⟩

abbrev nones (n : Nat) : L2.St := List.replicate n none
theorem nones_some {n i : Nat} {v : V} (h : (nones n)[i]? = some (some v)) : False := by
  rw [List.getElem?_replicate] at h
  split at h <;> cases h

section
variable {α : Type}
def GI (Y : Cx) (C : Con α) (fpI : List Addr) (tn : Nat → Heap → Prop) (a : α) (i : Nat) (H : Hp) (s : Shared) : Prop :=
  Inv Y (pinsAt C.fp s.heap) (nones Y.N.length) H s ∧ C.at_ a s.heap ∧ tn i s.heap ∧ ∀ b ∈ fpI, H b = none
def GP (Y : Cx) (C : Con α) (fpI : List Addr) (tn : Nat → Heap → Prop) (Out : α → V → Hp → (α → Hp → Prop) → Prop) : Protocol := fun _ s₀ v s kap =>
  ∃ a i H y Nx, RelV y v ∧ GI Y C fpI tn a i H s ∧ Out a y H Nx ∧ (∀ b ∈ C.fp, ∀ o, s₀.heap.get? b = some o → s.heap.get? b = some o) ∧ ∀ a' s'', GI Y C fpI tn a' i H s'' → Nx a' H → kap (.send .none) s''
def GF (Y : Cx) (C : Con α) (Fin : α → Hp → Prop) : Nat → Shared → Shared → Prop := fun _ s₀ s₁ =>
  ∃ a H, Inv Y (pinsAt C.fp s₁.heap) (nones Y.N.length) H s₁ ∧ C.at_ a s₁.heap ∧ (∀ b ∈ C.fp, ∀ o, s₀.heap.get? b = some o → s₁.heap.get? b = some o) ∧ Fin a H
abbrev GRr (Y : Cx) (C : Con α) (Fin : α → Hp → Prop) : GenEnd := fun n s₀ r s₁ => r = .ok .next ∧ GF Y C Fin n s₀ s₁
def TurnOf (J : It) (n0 : Nat) (g : TG) (tt : TT) (te : TE) (Out : α → V → Hp → (α → Hp → Prop) → Prop) (Fin : α → Hp → Prop) (W : α → Nat → Nat → Hp → Prop) : Prop :=
  ∀ a i m H, W a i m H → (J.stop i H ∧ Fin a H) ∨ (J.go i H ∧ ∃ Nx : α → Hp → Prop, (∀ a' H', Nx a' H' → ∃ m', m' < m ∧ W a' (i + 1) m' H') ∧
    ∀ x H', J.yld i H x H' → g x (nones n0) H' fun σ2 H2 => tt σ2 H2 fun b H3 => if b = true then te σ2 H3 fun y H4 => Out a y H4 Nx else Nx a H3)

def GoOn (M : Model) (A : Around) (R : GenEnd) (P : Protocol) (gi : α → Shared → Prop) (nx : α → Prop) (gs1 : GenState) : Nat → Prop
  | 0 => ∀ a' s'', gi a' s'' → nx a' → False
  | n1 + 1 => ∀ a' s'', gi a' s'' → nx a' → gs1.Goes M A R P n1 (.send .none) s''
theorem over_loopG {A : Around} {elt tg iter : Expr} {ifs : List Expr} {scope : Scope} {pos : Pos} {it acc : Value} {env : Env} :
    A.over (.compLoop (.GeneratorExp elt [⟨tg, iter, ifs, 0⟩] scope pos) 0 it acc env) [] = A.deeper env := by
  first
    | rfl
    | (obtain ⟨hd, d, fr, gs, u⟩ := A; simp [Around.over, Around.deeper, marksOver, frameCount, unitsOf, envsOf, guardsOf, pushEnvs, pushGuards, Code.envs, Code.env?, Code.isFrame, Code.guards, Code.isGuard, Code.weight, Code.frames, Code.isCreation, Code.isCaller, Code.cUnits])
theorem over_startG {A : Around} {elt tg iter : Expr} {ifs : List Expr} {scope : Scope} {pos : Pos} {it acc : Value} {env : Env} :
    A.over (.compStart (.GeneratorExp elt [⟨tg, iter, ifs, 0⟩] scope pos) 0 it acc env) [] = A.deeper env := by
  first
    | rfl
    | (obtain ⟨hd, d, fr, gs, u⟩ := A; simp [Around.over, Around.deeper, marksOver, frameCount, unitsOf, envsOf, guardsOf, pushEnvs, pushGuards, Code.envs, Code.env?, Code.isFrame, Code.guards, Code.isGuard, Code.weight, Code.frames, Code.isCreation, Code.isCaller, Code.cUnits])

theorem Inv.gensG {X : Cx} {pins : List (Addr × Obj)} {σ : L2.St} {H : Hp} {s : Shared} (I : Inv X pins σ H s) {G : Array GenState} (h : AllBare G) : Inv X pins σ H { s with gens := G } :=
  ⟨I.ok, I.os, h, I.base, I.loc, I.cell, I.free, I.freeC, I.pin, I.hok, I.len⟩
theorem bare_setGen {s : Shared} {g : Nat} {x : GenState} (h : AllBare s.gens) (hx : x.bare = true) : AllBare (s.setGen g x).gens := by
  intro y hy
  show y.bare = true
  have hy : y ∈ s.gens.setIfInBounds g x := hy
  rcases Array.mem_or_eq_of_mem_setIfInBounds hy with h1 | h1
  · exact h y h1
  · rw [h1]; exact hx

section
variable {Y : Cx} {C : Con α} {tg elt iter : Expr} {ifs : List Expr} {scope : Scope} {pos : Pos} {J : It} {fpI : List Addr} {it : Addr} {tn : Nat → Heap → Prop} {g : TG} {tt : TT} {te : TE}
  {Out : α → V → Hp → (α → Hp → Prop) → Prop} {Fin : α → Hp → Prop} {W : α → Nat → Nat → Hp → Prop} {A : Around}
/-- the loop of a generator expression -/
theorem seg_loop (CO : ConOk C) (hcalm : Y.calm = true) (T : Turn Y.prog Y.w Y.K tg J fpI it tn) (hg : PG Y tg g) (ht : PTs Y ifs tt) (he : PE Y elt te) (hA : A.deeper Y.env = Y.A)
    (hex : ∀ b ∈ fpI, b ∈ Y.ex) (hdis : ∀ b ∈ C.fp, b ∉ fpI) (hpn : ∀ p ∈ Y.pn, p.1 ∉ fpI) (hxe : Y.xe = fun _ _ => False) (hco : Y.env.scope.isCoroutine = false) (turn : TurnOf J Y.N.length g tt te Out Fin W) :
    ∀ (m : Nat) (a : α) (i n : Nat) (H : Hp) (s₀ s : Shared), m < n → W a i m H → GI Y C fpI tn a i H s → (∀ b ∈ C.fp, ∀ o, s₀.heap.get? b = some o → s.heap.get? b = some o) →
      Seg (model Y.prog Y.w) A (GRr Y C Fin) (GP Y C fpI tn Out) n s₀ (.compLoop (.GeneratorExp elt [⟨tg, iter, ifs, 0⟩] scope pos) 0 (.ref it) .none Y.env)
        ((model Y.prog Y.w).den (.compLoop (.GeneratorExp elt [⟨tg, iter, ifs, 0⟩] scope pos) 0 (.ref it) .none Y.env)) [] s := by
  have ov : A.over (.compLoop (.GeneratorExp elt [⟨tg, iter, ifs, 0⟩] scope pos) 0 (.ref it) .none Y.env) [] = Y.A := over_loopG.trans hA
  have stat : ∀ {pins : List (Addr × Obj)} {σ' : L2.St} {H' : Hp} {s' : Shared}, Inv Y pins σ' H' s' → (∀ p ∈ pins, p.1 ∉ fpI) → (∀ b ∈ fpI, H' b = none) → ∀ b ∈ fpI, FpOk Y pins H' b := fun {pins σ' H' s'} I' hp hn b hb =>
    ⟨hn b hb, (I'.ok.exf b (hex b hb)).1, I'.ok.exfs b (hex b hb), .inl (hex b hb), fun x c e => (I'.ok.exf b (hex b hb)).2 x c e, fun p hp' z => (List.mem_append.mp hp').elim (fun q => hpn p q (z ▸ hb)) fun q => hp p q (z ▸ hb)⟩
  have pinN : ∀ h : Heap, ∀ p ∈ pinsAt C.fp h, p.1 ∉ fpI := fun h p hp => hdis p.1 (of_pinsAt hp).1
  intro m
  induction m using Nat.strongRecOn with
  | ind m ih =>
    intro a i n H s₀ s hmn hw hGI since
    obtain ⟨I, hat, st, hn0⟩ := hGI
    show Seg _ A _ _ n s₀ _ ((compTurn (.GeneratorExp elt [⟨tg, iter, ifs, 0⟩] scope pos) 0 (.ref it) .none Y.env).onRaise (leaving Y.env)) [] s
    rw [compTurn_gen, Sem.onRaise_eq_wrap]
    refine seg_bind_wrap (wpAny_standAt ?_)
    have sf := stat I (pinN s.heap) hn0
    rcases turn a i m H hw with ⟨stop, fin⟩ | ⟨go, Nx, hNx, step⟩
    · refine seg_bind_wrap ?_
      rw [ov]
      refine thnF (T.done Y rfl rfl rfl hcalm i _ s _ H (fun _ _ => False) I sf st stop) fun r s1 ⟨hr, I1⟩ => ?_
      subst hr
      have hk : ∀ b ∈ C.fp, ∀ o, s.heap.get? b = some o → s1.heap.get? b = some o := fun b hb o e => (I1.pin (b, o) (List.mem_append_right _ (mem_pinsAt hb e))).1
      refine seg_end (.ok .next) ⟨rfl, a, H, I1.pins_of fun p hp => ?_, CO.keep _ _ _ hat hk, fun b hb o e => hk b hb o (since b hb o e), fin⟩
      obtain ⟨hb, e⟩ := of_pinsAt hp
      obtain ⟨o, e2, _⟩ := CO.obj _ _ hat p.1 hb
      have e3 := hk p.1 hb o e2
      rw [e] at e3
      cases e3
      exact I1.pin (p.1, p.2) (List.mem_append_right _ (mem_pinsAt hb e2))
    · refine seg_bind_wrap ?_
      rw [ov]
      refine thnF (T.item Y rfl rfl rfl hcalm i _ s _ H (fun _ _ => False) I sf st go) fun r s1 ⟨u, hr, h1⟩ => ?_
      subst hr
      refine seg_bind_wrap ?_
      rw [ov]
      refine thnF h1 fun _ s2 ⟨x, H2, I2, r2, y2, st2, n2⟩ => ?_
      have I2' := I2.pinned (stat I2 (pinN s.heap) n2) (T.obj _ _ st2)
      refine seg_bind_wrap ?_
      rw [ov]
      have xf : ∀ {β : Type} {t : Sem β} {P P' : β → Shared → Prop} {E' : Value → Shared → Prop} {z : Shared}, wpAny (model Y.prog Y.w) Y.A t P Y.xe z → (∀ a s, P a s → P' a s) → wpAny (model Y.prog Y.w) Y.A t P' E' z := fun {β t P P' E' z} q hq => by
        rw [hxe] at q
        exact thnF q hq
      refine xf (hg.run _ s2 _ H2 x u _ I2' r2 (step x H2 y2)) fun _ s3 ⟨σ3, H3, I3, q3⟩ => ?_
      refine seg_bind_wrap ?_
      rw [ov]
      refine xf (ht.run _ s3 σ3 H3 _ I3 q3) fun ok s4 ⟨H4, I4, q4⟩ => ?_
      -- what stands at a turn's end
      have fin : ∀ {s' : Shared} {H' : Hp} {σ' : L2.St}, Inv Y (pinsAt C.fp s.heap ++ pinsAt fpI s2.heap) σ' H' s' →
          GI Y C fpI tn a (i + 1) H' s' ∧ ∀ b ∈ C.fp, ∀ o, s₀.heap.get? b = some o → s'.heap.get? b = some o := fun {s' H' σ'} I' => by
        have hk : ∀ b ∈ C.fp, ∀ o, s.heap.get? b = some o → s'.heap.get? b = some o := fun b hb o e => (I'.pin (b, o) (List.mem_append_right _ (List.mem_append_left _ (mem_pinsAt hb e)))).1
        have pin' : ∀ b ∈ fpI, ∀ o, s2.heap.get? b = some o → s'.heap.get? b = some o ∧ H' b = none := fun b hb o e =>
          let z := I'.pin (b, o) (List.mem_append_right _ (List.mem_append_right _ (mem_pinsAt hb e)))
          ⟨z.1, z.2.1⟩
        have I1 : Inv Y (pinsAt C.fp s'.heap) σ' H' s' := I'.pins_of fun p hp => by
          obtain ⟨hb, e⟩ := of_pinsAt hp
          obtain ⟨o, e2, _⟩ := CO.obj _ _ hat p.1 hb
          have e3 := hk p.1 hb o e2
          rw [e] at e3
          cases e3
          exact I'.pin (p.1, p.2) (List.mem_append_right _ (List.mem_append_left _ (mem_pinsAt hb e2)))
        refine ⟨⟨I1.weak (by rw [I1.len, List.length_replicate]) fun j v e => (nones_some e).elim, CO.keep _ _ _ hat hk, T.keep _ _ _ st2 fun b hb o e => (pin' b hb o e).1, fun b hb => ?_⟩, fun b hb o e => hk b hb o (since b hb o e)⟩
        obtain ⟨o, e, _⟩ := T.obj _ _ st2 b hb
        exact (pin' b hb o e).2
      cases ok with
      | false =>
        simp only [Bool.false_eq_true, if_false] at q4 ⊢
        obtain ⟨f1, f2⟩ := fin I4
        obtain ⟨m', hm', w'⟩ := hNx a H4 q4
        exact seg_again rfl (ih m' hm' a (i + 1) n H4 s₀ s4 (by omega) w' f1 f2)
      | true =>
        simp only [if_true] at q4 ⊢
        obtain ⟨n', rfl⟩ : ∃ n', n = n' + 1 := ⟨n - 1, by omega⟩
        have hy : ∀ v, yieldOut Y.env v = yieldValue v := fun v => by simp only [yieldOut, hco, Bool.false_eq_true, if_false]
        simp only [hy]
        rw [Sem.bind_eq_wrap', Sem.bind_eq_wrap', Sem.wrap_wrap, Sem.wrap_wrap]
        refine seg_wrap ?_
        rw [ov]
        refine xf (he.run _ s4 σ3 H4 _ I4 q4) fun y s5 ⟨yv, H5, I5, r5, o5⟩ => ?_
        obtain ⟨f1, f2⟩ := fin I5
        refine seg_at (seg_yield rfl rfl rfl ⟨a, i + 1, H5, yv, Nx, r5, f1, o5, f2, fun a' s'' hGI' hN' => ?_⟩)
        obtain ⟨m', hm', w'⟩ := hNx a' H5 hN'
        exact seg_again rfl (ih m' hm' a' (i + 1) n' H5 s'' s'' (by omega) w' hGI' fun _ _ _ e => e)

/-- .. and its start -/
theorem seg_start (CO : ConOk C) (hcalm : Y.calm = true) (T : Turn Y.prog Y.w Y.K tg J fpI it tn) (hg : PG Y tg g) (ht : PTs Y ifs tt) (he : PE Y elt te) (hA : A.deeper Y.env = Y.A)
    (hex : ∀ b ∈ fpI, b ∈ Y.ex) (hdis : ∀ b ∈ C.fp, b ∉ fpI) (hpn : ∀ p ∈ Y.pn, p.1 ∉ fpI) (hxe : Y.xe = fun _ _ => False) (hco : Y.env.scope.isCoroutine = false) (turn : TurnOf J Y.N.length g tt te Out Fin W)
    (m : Nat) (a : α) (n : Nat) (H : Hp) (s : Shared) (hm : m < n) (hw : W a 0 m H) (hGI : GI Y C fpI tn a 0 H s) :
      Seg (model Y.prog Y.w) A (GRr Y C Fin) (GP Y C fpI tn Out) n s (.compStart (.GeneratorExp elt [⟨tg, iter, ifs, 0⟩] scope pos) 0 (.ref it) .none Y.env)
        ((model Y.prog Y.w).den (.compStart (.GeneratorExp elt [⟨tg, iter, ifs, 0⟩] scope pos) 0 (.ref it) .none Y.env)) [] s := by
  have loop := seg_loop (iter := iter) (scope := scope) (pos := pos) CO hcalm T hg ht he hA hex hdis hpn hxe hco turn m a 0 n H s s hm hw hGI fun _ _ _ e => e
  show Seg _ A _ _ _ s _ ((compStart (.GeneratorExp elt [⟨tg, iter, ifs, 0⟩] scope pos) 0 (.ref it) .none Y.env).onRaise (leaving Y.env)) [] s
  unfold compStart
  rw [Sem.onRaise_eq_wrap]
  show Seg _ A _ _ _ s _ ((ask >>= _).wrap _ _ _ _) [] s
  refine seg_bind_wrap (wpAny_askSetting ?_)
  split
  · exact seg_again rfl loop
  · first
      | exact seg_bind_wrap (wpAny_rule (seg_bind_wrap (wpAny_standAt (seg_bind_wrap (T.self _ 0 s _ _ hGI.2.2.1 (seg_again rfl loop))))))
      | (refine seg_bind_wrap (wpAny_rule ?_); show Seg _ A _ _ _ s _ ((standAt iter.pos >>= _).wrap _ _ _ _) [] s; exact seg_bind_wrap (wpAny_standAt (seg_bind_wrap (T.self _ 0 s _ _ hGI.2.2.1 (seg_again rfl loop)))))

theorem repin {a : α} {h : Heap} {σ : L2.St} {H : Hp} {s' : Shared} (CO : ConOk C) (hat : C.at_ a h) (I : Inv Y (pinsAt C.fp h) σ H s') (hk : ∀ b ∈ C.fp, ∀ o, h.get? b = some o → s'.heap.get? b = some o) :
    Inv Y (pinsAt C.fp s'.heap) σ H s' := I.pins_of fun p hp => by
  obtain ⟨hb, e⟩ := of_pinsAt hp
  obtain ⟨o, e2, _⟩ := CO.obj _ _ hat p.1 hb
  have e3 := hk p.1 hb o e2
  rw [e] at e3
  cases e3
  exact I.pin (p.1, p.2) (List.mem_append_right _ (mem_pinsAt hb e2))

/-- one item of such a generator -/
theorem next_ge {A : Around} {ga : Addr} {go : Obj} {g i n : Nat} {gs : GenState} {a : α} {H : Hp} {Nx : α → Hp → Prop} {s : Shared} {Q : Option Value → Shared → Prop} {E : Value → Shared → Prop}
    (CO : ConOk C) (hh : A.handled = none) (hd : A.depth < recursionLimit) (hpn : (ga, go) ∈ Y.pn) (hgo : ∀ h : Heap, h.get? ga = some go → h.IsGen ga g) (hgs : s.gens[g]? = some gs)
    (gi : GI Y C fpI tn a i H s) (hN : Nx a H)
    (goes : ∀ a' s'', GI Y C fpI tn a' i H s'' → Nx a' H → gs.Goes (model Y.prog Y.w) A.in1 (GRr Y C Fin) (GP Y C fpI tn Out) n (.send .none) s'')
    (hsome : ∀ i1 H1 y v Nx1 s1 gs1, RelV y v → GI Y C fpI tn a i1 H1 s1 → Out a y H1 Nx1 → s1.gens[g]? = some gs1 →
      GoOn (model Y.prog Y.w) A.in1 (GRr Y C Fin) (GP Y C fpI tn Out) (fun a' s'' => GI Y C fpI tn a' i1 H1 s'') (fun a' => Nx1 a' H1) gs1 n → Q (some v) s1)
    (hnone : ∀ H1 s1, Inv Y (pinsAt C.fp s1.heap) (nones Y.N.length) H1 s1 → C.at_ a s1.heap → Fin a H1 → Q none s1) :
    wpAny (model Y.prog Y.w) A (pyNext (.ref ga)) Q E s := by
  obtain ⟨I, hat, st, hn0⟩ := id gi
  have hlt : g < s.gens.size := by
    rcases Nat.lt_or_ge g s.gens.size with h' | h'
    · exact h'
    · rw [Array.getElem?_eq_none h'] at hgs; cases hgs
  refine wpAny_gsz (n := g + 1) hlt ?_
  have gi' : GI Y C fpI tn a i H (s.setGen g .running) := ⟨Inv.gensG I (bare_setGen I.bare rfl), hat, st, hn0⟩
  have hig : s.heap.IsGen ga g := hgo _ (I.pin (ga, go) (List.mem_append_left _ hpn)).1
  refine wpAny_pyNext_genexpQ (P := GF Y C Fin) (Y := GP Y C fpI tn Out) hh I.nolimit hd hig hgs (goes a _ gi' hN) (fun v s1 gs1 hb hv => ?_) (fun s1 hp h' hk => ?_)
  · obtain ⟨a1, i1, H1, y, Nx1, rv, gi1, o1, since, kap⟩ := hv
    have hat1 : C.at_ a s1.heap := CO.keep _ _ _ hat since
    have ea : a1 = a := CO.inj _ _ _ gi1.2.1 hat1
    subst ea
    intro hsz
    have hlt1 : g < s1.gens.size := by
      rw [setGen_size] at hsz
      exact hsz
    have gi2 : GI Y C fpI tn a1 i1 H1 (s1.setGen g gs1) := ⟨Inv.gensG gi1.1 (bare_setGen gi1.1.bare hb), gi1.2.1, gi1.2.2.1, gi1.2.2.2⟩
    refine hsome i1 H1 y v Nx1 _ gs1 rv gi2 o1 (by simp [Shared.setGen, hlt1]) ?_
    cases n with
    | zero => exact fun a' s'' q1 q2 => kap a' s'' q1 q2
    | succ n1 => exact fun a' s'' q1 q2 => kap a' s'' q1 q2
  · obtain ⟨a1, H1, I1, hat1, since, fin⟩ := hp
    have ea : a1 = a := CO.inj _ _ _ hat1 (CO.keep _ _ _ hat since)
    subst ea
    intro _
    have I2 : Inv Y (pinsAt C.fp s1.heap) (nones Y.N.length) H1 { s1.setGen g .finished with heap := h' } := (Inv.gensG I1 (bare_setGen (x := .finished) (g := g) I1.bare rfl)).kept (t' := s1.toks) hk
    exact hnone H1 _ (repin CO hat1 I2 fun b _ o e => hk b o e) (CO.keep _ _ _ hat1 fun b _ o e => hk b o e) fin
end
end

section
variable {Y : Cx} {fpI : List Addr} {tn : Nat → Heap → Prop}
def outAll (QB : Bool → Hp → Prop) : Unit → V → Hp → (Unit → Hp → Prop) → Prop := fun _ y H Nx => ∃ c, y = .bl c ∧ if c = true then Nx () H else QB false H
def outAny (QB : Bool → Hp → Prop) : Unit → V → Hp → (Unit → Hp → Prop) → Prop := fun _ y H Nx => ∃ c, y = .bl c ∧ if c = true then QB true H else Nx () H
theorem all_loop {A : Around} {ga : Addr} {go : Obj} {g : Nat} {QB : Bool → Hp → Prop} {R : Result → Shared → Prop} (hh : A.handled = none) (hd : A.depth < recursionLimit) (hpn : (ga, go) ∈ Y.pn) (hgo : ∀ h : Heap, h.get? ga = some go → h.IsGen ga g)
    (hR : ∀ b s' H', Inv Y [] (nones Y.N.length) H' s' → QB b H' → R (.ok (.ret (.bool b))) s') :
    ∀ (n i : Nat) (H : Hp) (Nx : Unit → Hp → Prop) (s : Shared) (gs : GenState), s.gens[g]? = some gs → GI Y conU fpI tn () i H s → Nx () H →
      (∀ a' s'', GI Y conU fpI tn a' i H s'' → Nx a' H → gs.Goes (model Y.prog Y.w) A.in1.in1 (GRr Y conU fun _ H => QB true H) (GP Y conU fpI tn (outAll QB)) n (.send .none) s'') →
      codeAny (model Y.prog Y.w) A (.builtin "all.loop" ⟨[.ref ga], []⟩) R s := by
  intro n
  induction n with
  | zero =>
    intro i H Nx s gs hgs gi hN goes
    refine codeAny_builtin F.entry_all_loop ?_
    rw [Around.under_plainId F.plain_all_loop _]
    show wpAny _ A.in1 (pyNext (.ref ga) >>= _) _ _ s
    refine wpAny_bind (next_ge (A := A.in1) conU_ok hh hd hpn hgo hgs gi hN goes (fun i1 H1 y v Nx1 s1 gs1 rv gi1 o1 hg1 go1 => ?_) (fun H1 s1 I1 _ fin => ?_))
    · obtain ⟨c, rfl, hc⟩ := o1
      cases (show v = Value.bool c from rv)
      refine wpAny_bind (wpAny_holding (wpAny_truthy_bool ?_))
      refine wpAny_bind (wpAny_letGo ?_)
      cases c with
      | true => exact (go1 () s1 gi1 hc).elim
      | false =>
        simp only [Bool.false_eq_true, if_false]
        exact wpAny_bind (wpAny_rule (wpAny_pure (hR false s1 H1 gi1.1 hc)))
    · exact wpAny_bind (wpAny_rule (wpAny_pure (hR true s1 H1 I1 fin)))
  | succ n ih =>
    intro i H Nx s gs hgs gi hN goes
    refine codeAny_builtin F.entry_all_loop ?_
    rw [Around.under_plainId F.plain_all_loop _]
    show wpAny _ A.in1 (pyNext (.ref ga) >>= _) _ _ s
    refine wpAny_bind (next_ge (A := A.in1) conU_ok hh hd hpn hgo hgs gi hN goes (fun i1 H1 y v Nx1 s1 gs1 rv gi1 o1 hg1 go1 => ?_) (fun H1 s1 I1 _ fin => ?_))
    · obtain ⟨c, rfl, hc⟩ := o1
      cases (show v = Value.bool c from rv)
      refine wpAny_bind (wpAny_holding (wpAny_truthy_bool ?_))
      refine wpAny_bind (wpAny_letGo ?_)
      cases c with
      | true =>
        simp only [if_true]
        exact wpAny_pure ⟨plainId_quiet F.plain_all_loop _, ih i1 H1 Nx1 s1 gs1 hg1 gi1 hc go1⟩
      | false =>
        simp only [Bool.false_eq_true, if_false]
        exact wpAny_bind (wpAny_rule (wpAny_pure (hR false s1 H1 gi1.1 hc)))
    · exact wpAny_bind (wpAny_rule (wpAny_pure (hR true s1 H1 I1 fin)))
theorem any_loop {A : Around} {ga : Addr} {go : Obj} {g : Nat} {QB : Bool → Hp → Prop} {R : Result → Shared → Prop} (hh : A.handled = none) (hd : A.depth < recursionLimit) (hpn : (ga, go) ∈ Y.pn) (hgo : ∀ h : Heap, h.get? ga = some go → h.IsGen ga g)
    (hR : ∀ b s' H', Inv Y [] (nones Y.N.length) H' s' → QB b H' → R (.ok (.ret (.bool b))) s') :
    ∀ (n i : Nat) (H : Hp) (Nx : Unit → Hp → Prop) (s : Shared) (gs : GenState), s.gens[g]? = some gs → GI Y conU fpI tn () i H s → Nx () H →
      (∀ a' s'', GI Y conU fpI tn a' i H s'' → Nx a' H → gs.Goes (model Y.prog Y.w) A.in1.in1 (GRr Y conU fun _ H => QB false H) (GP Y conU fpI tn (outAny QB)) n (.send .none) s'') →
      codeAny (model Y.prog Y.w) A (.builtin "any.loop" ⟨[.ref ga], []⟩) R s := by
  intro n
  induction n with
  | zero =>
    intro i H Nx s gs hgs gi hN goes
    refine codeAny_builtin F.entry_any_loop ?_
    rw [Around.under_plainId F.plain_any_loop _]
    show wpAny _ A.in1 (pyNext (.ref ga) >>= _) _ _ s
    refine wpAny_bind (next_ge (A := A.in1) conU_ok hh hd hpn hgo hgs gi hN goes (fun i1 H1 y v Nx1 s1 gs1 rv gi1 o1 hg1 go1 => ?_) (fun H1 s1 I1 _ fin => ?_))
    · obtain ⟨c, rfl, hc⟩ := o1
      cases (show v = Value.bool c from rv)
      refine wpAny_bind (wpAny_holding (wpAny_truthy_bool ?_))
      refine wpAny_bind (wpAny_letGo ?_)
      cases c with
      | false => exact (go1 () s1 gi1 hc).elim
      | true =>
        simp only [if_true]
        exact wpAny_bind (wpAny_rule (wpAny_pure (hR true s1 H1 gi1.1 hc)))
    · exact wpAny_bind (wpAny_rule (wpAny_pure (hR false s1 H1 I1 fin)))
  | succ n ih =>
    intro i H Nx s gs hgs gi hN goes
    refine codeAny_builtin F.entry_any_loop ?_
    rw [Around.under_plainId F.plain_any_loop _]
    show wpAny _ A.in1 (pyNext (.ref ga) >>= _) _ _ s
    refine wpAny_bind (next_ge (A := A.in1) conU_ok hh hd hpn hgo hgs gi hN goes (fun i1 H1 y v Nx1 s1 gs1 rv gi1 o1 hg1 go1 => ?_) (fun H1 s1 I1 _ fin => ?_))
    · obtain ⟨c, rfl, hc⟩ := o1
      cases (show v = Value.bool c from rv)
      refine wpAny_bind (wpAny_holding (wpAny_truthy_bool ?_))
      refine wpAny_bind (wpAny_letGo ?_)
      cases c with
      | false =>
        simp only [Bool.false_eq_true, if_false]
        exact wpAny_pure ⟨plainId_quiet F.plain_any_loop _, ih i1 H1 Nx1 s1 gs1 hg1 gi1 hc go1⟩
      | true =>
        simp only [if_true]
        exact wpAny_bind (wpAny_rule (wpAny_pure (hR true s1 H1 gi1.1 hc)))
    · exact wpAny_bind (wpAny_rule (wpAny_pure (hR false s1 H1 I1 fin)))
end

/-! ### a generator expression is made -/
abbrev ce (X : Cx) (scope : Scope) (C : Addr) (code : Value) : Env := genEnv scope [] C code builtinsNs X.env
abbrev gx (X : Cx) (A : Around) (N : List Str) (s : Shared) (H : Hp) (cenv : Env) (fp : List Addr) (pn : List (Addr × Obj)) : Cx :=
  { X with A := A.deeper cenv, N := N, s_0 := s, H_0 := H, env := cenv, outer := X.stack, stack := cenv :: X.stack, ex := fp, fn := fun _ => false, calm := true, pn := pn, xe := fun _ _ => False }
structure GSc (scope : Scope) : Prop where
  kind : scope.kind = .function
  co : scope.isCoroutine = false
  own : ∀ y ∈ scope.names, y.2 ≠ .cell ∧ y.2 ≠ .free
  dot : scope.names.lookup (".0" : Str) = some NameKind.local
theorem cloFrom_nil {cells : List (Str × Addr)} : ∀ {names : List (Str × NameKind)} {acc : List (Str × Addr)}, (∀ y ∈ names, y.2 ≠ .free) → cloFrom cells names acc = acc
  | [], _, _ => rfl
  | (n, k) :: r, acc, h => by
    unfold cloFrom
    rw [if_neg (by simpa using h (n, k) List.mem_cons_self)]
    exact cloFrom_nil fun y hy => h y (List.mem_cons_of_mem _ hy)
theorem GSc.nocell {scope : Scope} (S : GSc scope) {x : Str} (h : scope.names.lookup x = some .cell ∨ scope.names.lookup x = some .free) : False := by
  rcases h with h | h
  · exact (S.own _ (PySem.mem_of_lookup h)).1 rfl
  · exact (S.own _ (PySem.mem_of_lookup h)).2 rfl
section
variable {X : Cx} {pins : List (Addr × Obj)} {σ : L2.St} {H : Hp} {s : Shared}
theorem ge_start {A : Around} {N : List Str} {scope : Scope} {code : Value} {fp : List Addr} {go : Obj} {G : Array GenState} {tk : Nat} {h5 : Heap} {m0 : Str → Option Value} (I : Inv X pins σ H s) (S : GSc scope) (hA : A.handled = none) (hf : A.frames = some X.stack)
    (hfp : ∀ b ∈ fp, FpOk X pins H b ∧ b < s.heap.objs.size) (hG : AllBare G) (hns : h5.Ns s.heap.objs.size m0) (hk : ∀ b o, s.heap.get? b = some o → h5.get? b = some o) (hgo : h5.get? (s.heap.objs.size + 1) = some go) (hgd : ∀ v, go.data ≠ .cell v) :
    Inv (gx X A N s H (ce X scope s.heap.objs.size code) fp [(s.heap.objs.size + 1, go)]) [] (nones N.length) H { s with gens := G, toks := tk, heap := h5 } := by
  have noc : ∀ x c, (ce X scope s.heap.objs.size code).cells.lookup x = some c → False := fun x c e => by simp [genEnv] at e
  have stkne : ∀ b, s.heap.objs.size ≤ b → b ∉ frs X.stack := fun b hb z => by
    rcases List.mem_cons.mp (I.stkSub b z) with e | e
    · exact absurd (Nat.lt_of_lt_of_le I.lt (by rw [← e]; exact hb)) (Nat.lt_irrefl _)
    · exact I.nofs hb e
  refine ⟨⟨I.ok.mod, S.kind, I.ok.glob, rfl, Nat.le_refl _, fun x y c h1 _ => (noc x c h1).elim, fun x hx => (S.nocell hx).elim, fun x c h _ => (by cases h), fun _ => hA, Around.frames_deeper hf, .inr ⟨rfl, rfl⟩, fun b hb => ⟨Nat.ne_of_lt (hfp b hb).2, fun x c e => (noc x c e).elim⟩,
    I.bs, Nat.le_trans I.ok.bsz I.sz, fun b o e hb => ?_, fun b hb z => ?_, I.stack, I.stkFree⟩, rfl, hG, Un.kept hk, ⟨m0, hns, fun i x v _ h2 _ => (nones_some h2).elim⟩, fun x c e => (noc x c e).elim, I.hok.fresh (Nat.le_refl _), fun x c e => (noc x c e).elim, fun p hp => ?_, I.hok.kept hk, List.length_replicate⟩
  · rcases (hfp b hb).1.2.2.2.1 with z | z
    · exact I.ok.noex b o e z
    · exact absurd (Nat.lt_of_lt_of_le (Heap.lt_size e) (Nat.le_trans I.ok.bsz z)) (Nat.lt_irrefl _)
  · rcases List.mem_cons.mp (I.stkSub b z) with e | e
    · exact (hfp b hb).1.2.1 e
    · exact (hfp b hb).1.2.2.1 e
  · have hp' : p ∈ [(s.heap.objs.size + 1, go)] := by simpa using hp
    rw [List.mem_singleton.mp hp']
    exact ⟨hgo, I.hok.fresh (Nat.le_succ _), Nat.succ_ne_self _, stkne _ (Nat.le_succ _), hgd⟩
/-- back in the def that asked -/
theorem ge_back {A : Around} {N : List Str} {cenv : Env} {fp : List Addr} {pn pins' : List (Addr × Obj)} {σ' : L2.St} {H' : Hp} {s' : Shared} (I : Inv X pins σ H s) (hfp : ∀ b ∈ fp, FpOk X pins H b ∧ b < s.heap.objs.size)
    (J : Inv (gx X A N s H cenv fp pn) pins' σ' H' s') : Inv X pins σ H' s' :=
  I.call' (ch := fp) J.os J.base J.hok J.bare fun b hb => ⟨(hfp b hb).1.2.2.2.1, (hfp b hb).1.2.1, (hfp b hb).1.2.2.2.2.1, (hfp b hb).1.2.2.2.2.2⟩
theorem room3 {k : Nat} {A : Around} (r : Room (k + 1) A) (env : Env) : Room k (A.in1.in1.deeper env) :=
  ⟨r.hd, by have := r.dp; show A.depth + 1 + 3 * k + 5 < _; omega, by have := r.un; show A.units + 1 + 1 + 3 + 16 * k + 200 < _; omega⟩

theorem gen_make {c P : Addr} {elt tg iter : Expr} {ifs : List Expr} {gpos : Pos} {scope : Scope} {wi : TI} {k : Nat} {Q' : Value → Shared → Prop} {R : It → Hp → Prop}
    (hr : Room k X.A) (TB : GxR.TabB X.base X.mg c P) (hcode : X.env.code = .ref c) (S : GSc scope) (hi : PI X tg iter wi) (hs : ∀ v, genFold iter X.env v = pure v) (I : Inv X pins σ H s) (h : wi σ H fun J H1 => GxR.TabG H1 P ∧ R J H1)
    (hQ : ∀ J H1 H2 s4 s5 code fp it tn go g, R J H1 → GxR.Tabbed P H1 H2 → Inv X pins σ H2 s4 → (∀ b ∈ fp, FpOk X pins H2 b ∧ b < s4.heap.objs.size) → Turn X.prog X.w X.K tg J fp it tn → tn 0 s5.heap →
      (∀ A N, A.handled = none → A.frames = some X.stack → Inv (gx X A N s4 H2 (ce X scope s4.heap.objs.size code) fp [(s4.heap.objs.size + 1, go)]) [] (nones N.length) H2 s5) →
      (∀ h : Heap, h.get? (s4.heap.objs.size + 1) = some go → h.IsGen (s4.heap.objs.size + 1) g) →
      s5.gens[g]? = some (.fresh (.compStart (.GeneratorExp elt [⟨tg, iter, ifs, 0⟩] scope gpos) 0 (.ref it) .none (ce X scope s4.heap.objs.size code))) → Q' (.ref (s4.heap.objs.size + 1)) s5) :
    wpAny (model X.prog X.w) X.A (eval (.GeneratorExp elt [⟨tg, iter, ifs, 0⟩] scope gpos) X.env) Q' X.xe s := by
  have hcl : closureFor scope X.env = pure [] := by
    rw [closure_ok fun y hy e => absurd e (S.own y hy).2, cloFrom_nil fun y hy => (S.own y hy).2]
  refine wpAny_GeneratorExp_make S.co hcl (fun y hy => (S.own y hy).1) S.dot S.kind (by have := hr.dp; omega) (thn (hi.run pins s σ H _ I h) fun xv s1 hx => thn hx fun itv s2 h2 => ?_) hs
  obtain ⟨it, fp, tn, J, H1, e, I2, T, st2, f2, ⟨ps, hP, ht⟩, q1⟩ := h2
  subst e
  have hPs : s2.heap.get? P = some { cls := .none, data := .fields ps } := I2.hok P _ hP
  have cd : PySem.W.CodeHd s2.heap c P := TB.code.keeps fun b u e => I2.bk b u e
  have nfp : ∀ b ∈ fp, b ≠ P := fun b hb z => by
    have := (f2 b hb).1
    rw [z, hP] at this
    cases this
  have szf : ∀ b ∈ fp, b < s2.heap.objs.size := fun b hb => by
    obtain ⟨o, e, _⟩ := T.obj _ _ st2 b hb
    exact Heap.lt_size e
  have cont : ∀ (code : Value) (h3 : Heap) (tk : Nat) (ps' : Array Value), Heap.ExtBut P s2.heap h3 → s2.heap.objs.size ≤ h3.objs.size → h3.get? P = some { cls := .none, data := .fields ps' } → (∃ more, ps' = ps ++ more) → TriplesOk ps'.toList →
      wpAny (model X.prog X.w) X.A (builtinsFor X.env.globals X.env.builtins) (fun bi s4 =>
        ∀ h', h'.Ns s4.heap.objs.size (fun y => if y = ".0" then some (.ref it) else none) → Heap.SameBut s4.heap.objs.size (s4.heap.push { cls := .type "frame", data := .dict #[] }) h' →
          Q' (.ref h'.objs.size) { s4 with
            gens := s4.gens.push (.fresh (.compStart (.GeneratorExp elt [⟨tg, iter, ifs, 0⟩] scope gpos) 0 (.ref it) .none (genEnv scope [] s4.heap.objs.size code bi X.env))),
            toks := s4.toks + 1 + 1 + 1,
            heap := h'.push { cls := .type "generator", data := .fields #[.int s4.gens.size 0, .str "<genexpr>" (s4.toks + 1), .str (X.env.qual ++ "<genexpr>") (s4.toks + 1 + 1)] } }) X.xe { s2 with heap := h3, toks := tk } := by
    intro code h3 tk ps' hx hsz hP3 hmore ht3
    obtain ⟨bm, ob, e1, e2, e3, e4, e5, e6, e7, e8⟩ := TB.bm
    obtain ⟨more, rfl⟩ := hmore
    have I3 : Inv X pins σ (upd H1 P (.tbl (ps ++ more))) { s2 with heap := h3, toks := tk } := GxR.inv_tab (more := more) (g' := s2.gens) (d' := s2.drawn) I2 hP (fun b u hb e => hx b u hb e) hP3 I2.bare
    have tab : GxR.Tabbed P H1 (upd H1 P (.tbl (ps ++ more))) := ⟨⟨_, upd_same, ht3⟩, fun b hb => upd_ne hb⟩
    have st3 : tn 0 h3 := T.keep _ _ _ st2 fun b hb o e => hx b o (nfp b hb) e
    have f3 : ∀ b ∈ fp, FpOk X pins (upd H1 P (.tbl (ps ++ more))) b ∧ b < h3.objs.size := fun b hb =>
      ⟨⟨by rw [upd_ne (nfp b hb)]; exact (f2 b hb).1, (f2 b hb).2⟩, Nat.lt_of_lt_of_le (szf b hb) hsz⟩
    refine wpAny_builtinsFor (m := X.mg) (by rw [I3.ok.glob]; exact I3.mod.glob.keeps I3.bk) e1 e2 (I3.bk _ _ e5) e6 e7 e8 ?_
    intro h' hns hsb
    have hsz' : h'.objs.size = h3.objs.size + 1 := by rw [hsb.1, Heap.size_push]
    have keep' : ∀ b o, h3.get? b = some o → h'.get? b = some o := fun b o e => hsb.extBut b o (Nat.ne_of_lt (Heap.lt_size e)) (Heap.get?_push_of_some _ e)
    have main : ∀ (go : Obj), go.cls = .type "generator" → (∃ nm qn, go.data = .fields #[.int s2.gens.size 0, nm, qn]) → go.slots = #[] → (∀ h : Heap, (h.push go).get? h.objs.size = some go) → ∀ t',
        Q' (.ref h'.objs.size) { s2 with heap := h'.push go, toks := t', gens := s2.gens.push (.fresh (.compStart (.GeneratorExp elt [⟨tg, iter, ifs, 0⟩] scope gpos) 0 (.ref it) .none (genEnv scope [] h3.objs.size code builtinsNs X.env))) } := by
      intro go gc ⟨nm, qn, gd⟩ gsl gp t'
      have hgp := gp h'
      rw [hsz'] at hgp ⊢
      have keep5 : ∀ b o, h3.get? b = some o → (h'.push go).get? b = some o := fun b o e => Heap.get?_push_of_some _ (keep' b o e)
      refine hQ J H1 (upd H1 P (.tbl (ps ++ more))) { s2 with heap := h3, toks := tk } _ code fp it tn go s2.gens.size q1 tab I3 f3 T (T.keep _ _ _ st3 fun b _ o e => keep5 b o e) (fun A N hA hf => ?_) (fun h e => ⟨go, nm, qn, e, gc, gd, gsl⟩) (Array.getElem?_push_size ..)
      exact ge_start (s := { s2 with heap := h3, toks := tk }) I3 S hA hf f3 (I2.bare.push rfl) (hns.push _) keep5 hgp (fun v z => by rw [gd] at z; cases z)
    exact main _ rfl ⟨_, _, rfl⟩ rfl (fun h => Heap.get?_push_size _ rfl) _
  refine ⟨I2.nolimit, ?_⟩
  cases hf : codeAmong gpos ps.toList with
  | none =>
    refine wpAny_genexprCodeX hcode (cd.code hPs ht) (cd.tab hPs) hf fun c' h' tk hx hge hlt hco' _ htab' _ => ?_
    obtain ⟨o1, vs, f1, tf, fl, tg', inF, tx, tt, op, _, _, _, _, _, _, _, _, _, htr, _⟩ := hco'
    exact cont _ h' tk _ hx (Nat.le_trans hge (Nat.le_of_lt hlt)) htab'.2 ⟨_, rfl⟩ htr
  | some cv =>
    refine wpAny_genexprCode_hit hcode (cd.code hPs ht) hf ?_
    exact cont cv s2.heap s2.toks ps (Heap.ExtBut.refl _ _) (Nat.le_refl _) hPs ⟨#[], by simp⟩ ht

/-! ### all and any of one -/
def tGen (P : Addr) (n0 : Nat) (wi : TI) (g : TG) (tt : TT) (te : TE) (Out : (Bool → Hp → Prop) → Unit → V → Hp → (Unit → Hp → Prop) → Prop) (fin : Bool) : TE := fun σ H Q => wi σ H fun J H1 => GxR.TabG H1 P ∧ ∀ H2, GxR.Tabbed P H1 H2 →
  ∃ W : Unit → Nat → Nat → Hp → Prop, (∃ m, W () 0 m H2) ∧ TurnOf J n0 g tt te (Out fun b H => Q (.bl b) H) (fun _ H => Q (.bl fin) H) W
theorem pe_allG {N : List Str} {c P : Addr} {elt tg iter : Expr} {ifs : List Expr} {p pos gpos : Pos} {scope : Scope} {wi : TI} {g : TG} {tt : TT} {te : TE} {k : Nat}
    (hr : Room (k + 1) X.A) (hgl : Gl X "all") (hm : X.mg "all" = none) (TB : GxR.TabB X.base X.mg c P) (hcode : X.env.code = .ref c) (S : GSc scope) (hi : PI X tg iter wi)
    (hg : ∀ (A : Around) (s : Shared) (H : Hp) (C : Addr) (code : Value) (fp : List Addr) (pn : List (Addr × Obj)), Room k (A.deeper (ce X scope C code)) → PG (gx X A N s H (ce X scope C code) fp pn) tg g)
    (ht : ∀ (A : Around) (s : Shared) (H : Hp) (C : Addr) (code : Value) (fp : List Addr) (pn : List (Addr × Obj)), Room k (A.deeper (ce X scope C code)) → PTs (gx X A N s H (ce X scope C code) fp pn) ifs tt)
    (he : ∀ (A : Around) (s : Shared) (H : Hp) (C : Addr) (code : Value) (fp : List Addr) (pn : List (Addr × Obj)), Room k (A.deeper (ce X scope C code)) → PE (gx X A N s H (ce X scope C code) fp pn) elt te)
    (hs : ∀ v, genFold iter X.env v = pure v := by intro _; rfl)
    (hb : bootBuiltins "all" = some (.builtin "all") := by decide +kernel)
    (hst : starEach [.GeneratorExp elt [⟨tg, iter, ifs, 0⟩] scope gpos] X.env = (false, eval (.GeneratorExp elt [⟨tg, iter, ifs, 0⟩] scope gpos) X.env) :: starEach [] X.env := by rfl) :
    PE X (.Call (.Name "all" p) [.GeneratorExp elt [⟨tg, iter, ifs, 0⟩] scope gpos] [] pos) (tGen P N.length wi g tt te outAll true) := by
  refine ⟨fun pins s σ H Q I h => ?_⟩
  refine wpAny_Call_Name_kw (ld_blt I hgl hm hb ?_)
  refine PyProof.Rows.callWith_builtin1 ?_ hst (by rfl)
  rw [hst]
  show wpAny _ _ (spliced ((false, eval (.GeneratorExp elt [⟨tg, iter, ifs, 0⟩] scope gpos) X.env) :: backTo pos (starEach [] X.env))) _ _ s
  refine Calls.spliced_cons (gen_make hr TB hcode S hi hs I h fun J H1 H2 s4 s5 code fp it tn go gn hR tab I4 f4 T st5 mk hgo hgs => ?_)
  refine Calls.spliced_nil ?_
  obtain ⟨W, ⟨m0, w0⟩, turn⟩ := hR H2 tab
  have rY := room3 hr (ce X scope s4.heap.objs.size code)
  have I5 := mk X.A.in1.in1 N hr.hd I.ok.frames
  generalize hpn : [(s4.heap.objs.size + 1, go)] = pn at I5
  have hpm : (s4.heap.objs.size + 1, go) ∈ pn := by rw [← hpn]; exact List.mem_singleton.mpr rfl
  have hpf : ∀ p ∈ pn, p.1 ∉ fp := fun p hp z => by
    rw [← hpn] at hp
    rw [List.mem_singleton.mp hp] at z
    exact absurd (f4 _ z).2 (Nat.not_lt.mpr (Nat.le_succ _))
  have gi0 : GI (gx X X.A.in1.in1 N s4 H2 (ce X scope s4.heap.objs.size code) fp pn) conU fp tn () 0 H2 s5 := ⟨I5, trivial, st5, fun b hb => (f4 b hb).1.1⟩
  have isg := hgo _ (I5.pin _ (List.mem_append_left _ hpm)).1
  refine call_function_tree F.kind_all F.plain_all F.entry_all (F.args_all1 _) ?_
  unfold Builtin.«all»
  refine wpAny_bind (m := oneArg "all" _) (wpAny_pure ?_)
  refine wpAny_bind (wpAny_pyIter_gen isg ?_)
  refine wpAny_pure ⟨plainId_quiet F.plain_all_loop _, ?_⟩
  refine all_loop (Y := gx X X.A.in1.in1 N s4 H2 (ce X scope s4.heap.objs.size code) fp pn) (A := X.A) (g := gn) (QB := fun b H => Q (.bl b) H) hr.hd hr.depth hpm hgo (fun b s' H' I' q => ?_) (m0 + 1) 0 H2 (fun a H => W a 0 m0 H) s5 _ hgs gi0 w0 (fun a' s'' gi' w' => ?_)
  · exact ⟨.bl b, H', ge_back I4 f4 I', rfl, q⟩
  · exact ⟨rfl, seg_start (Y := gx X X.A.in1.in1 N s4 H2 (ce X scope s4.heap.objs.size code) fp pn) conU_ok rfl T (hg _ _ _ _ _ _ _ rY) (ht _ _ _ _ _ _ _ rY) (he _ _ _ _ _ _ _ rY) rfl (fun b hb => hb) (fun b hb => nomatch hb) hpf rfl S.co turn m0 a' (m0 + 1) H2 s'' (Nat.lt_succ_self _) w' gi'⟩
theorem pe_anyG {N : List Str} {c P : Addr} {elt tg iter : Expr} {ifs : List Expr} {p pos gpos : Pos} {scope : Scope} {wi : TI} {g : TG} {tt : TT} {te : TE} {k : Nat}
    (hr : Room (k + 1) X.A) (hgl : Gl X "any") (hm : X.mg "any" = none) (TB : GxR.TabB X.base X.mg c P) (hcode : X.env.code = .ref c) (S : GSc scope) (hi : PI X tg iter wi)
    (hg : ∀ (A : Around) (s : Shared) (H : Hp) (C : Addr) (code : Value) (fp : List Addr) (pn : List (Addr × Obj)), Room k (A.deeper (ce X scope C code)) → PG (gx X A N s H (ce X scope C code) fp pn) tg g)
    (ht : ∀ (A : Around) (s : Shared) (H : Hp) (C : Addr) (code : Value) (fp : List Addr) (pn : List (Addr × Obj)), Room k (A.deeper (ce X scope C code)) → PTs (gx X A N s H (ce X scope C code) fp pn) ifs tt)
    (he : ∀ (A : Around) (s : Shared) (H : Hp) (C : Addr) (code : Value) (fp : List Addr) (pn : List (Addr × Obj)), Room k (A.deeper (ce X scope C code)) → PE (gx X A N s H (ce X scope C code) fp pn) elt te)
    (hs : ∀ v, genFold iter X.env v = pure v := by intro _; rfl)
    (hst : starEach [.GeneratorExp elt [⟨tg, iter, ifs, 0⟩] scope gpos] X.env = (false, eval (.GeneratorExp elt [⟨tg, iter, ifs, 0⟩] scope gpos) X.env) :: starEach [] X.env := by rfl) :
    PE X (.Call (.Name "any" p) [.GeneratorExp elt [⟨tg, iter, ifs, 0⟩] scope gpos] [] pos) (tGen P N.length wi g tt te outAny false) := by
  refine ⟨fun pins s σ H Q I h => ?_⟩
  refine wpAny_Call_Name_kw (ld_blt I hgl hm boot_any ?_)
  refine PyProof.Rows.callWith_builtin1 ?_ hst (by rfl)
  rw [hst]
  show wpAny _ _ (spliced ((false, eval (.GeneratorExp elt [⟨tg, iter, ifs, 0⟩] scope gpos) X.env) :: backTo pos (starEach [] X.env))) _ _ s
  refine Calls.spliced_cons (gen_make hr TB hcode S hi hs I h fun J H1 H2 s4 s5 code fp it tn go gn hR tab I4 f4 T st5 mk hgo hgs => ?_)
  refine Calls.spliced_nil ?_
  obtain ⟨W, ⟨m0, w0⟩, turn⟩ := hR H2 tab
  have rY := room3 hr (ce X scope s4.heap.objs.size code)
  have I5 := mk X.A.in1.in1 N hr.hd I.ok.frames
  generalize hpn : [(s4.heap.objs.size + 1, go)] = pn at I5
  have hpm : (s4.heap.objs.size + 1, go) ∈ pn := by rw [← hpn]; exact List.mem_singleton.mpr rfl
  have hpf : ∀ p ∈ pn, p.1 ∉ fp := fun p hp z => by
    rw [← hpn] at hp
    rw [List.mem_singleton.mp hp] at z
    exact absurd (f4 _ z).2 (Nat.not_lt.mpr (Nat.le_succ _))
  have gi0 : GI (gx X X.A.in1.in1 N s4 H2 (ce X scope s4.heap.objs.size code) fp pn) conU fp tn () 0 H2 s5 := ⟨I5, trivial, st5, fun b hb => (f4 b hb).1.1⟩
  have isg := hgo _ (I5.pin _ (List.mem_append_left _ hpm)).1
  refine call_function_tree F.kind_any F.plain_any F.entry_any (F.args_any1 _) ?_
  unfold Builtin.«any»
  refine wpAny_bind (m := oneArg "any" _) (wpAny_pure ?_)
  refine wpAny_bind (wpAny_pyIter_gen isg ?_)
  refine wpAny_pure ⟨plainId_quiet F.plain_any_loop _, ?_⟩
  refine any_loop (Y := gx X X.A.in1.in1 N s4 H2 (ce X scope s4.heap.objs.size code) fp pn) (A := X.A) (g := gn) (QB := fun b H => Q (.bl b) H) hr.hd hr.depth hpm hgo (fun b s' H' I' q => ?_) (m0 + 1) 0 H2 (fun a H => W a 0 m0 H) s5 _ hgs gi0 w0 (fun a' s'' gi' w' => ?_)
  · exact ⟨.bl b, H', ge_back I4 f4 I', rfl, q⟩
  · exact ⟨rfl, seg_start (Y := gx X X.A.in1.in1 N s4 H2 (ce X scope s4.heap.objs.size code) fp pn) conU_ok rfl T (hg _ _ _ _ _ _ _ rY) (ht _ _ _ _ _ _ _ rY) (he _ _ _ _ _ _ _ rY) rfl (fun b hb => hb) (fun b hb => nomatch hb) hpf rfl S.co turn m0 a' (m0 + 1) H2 s'' (Nat.lt_succ_self _) w' gi'⟩

/-! ### sum of one -/
def sumObj (a : Int) (t : Tok) (c : Nat) : Obj := { cls := .type "list", dict := none, data := .seq #[.int a t] c, slots := #[] }
def conS (S : Addr) : Con Int := ⟨[S], fun a h => ∃ t c, h.get? S = some (sumObj a t c)⟩
theorem conS_ok (S : Addr) : ConOk (conS S) :=
  ⟨(fun a h ⟨t, c, e⟩ b hb => by
      rw [List.mem_singleton.mp hb]
      exact ⟨_, e, fun v z => by cases z⟩),
   (fun a h h' ⟨t, c, e⟩ k => ⟨t, c, k S (List.mem_singleton.mpr rfl) _ e⟩),
   (fun a b h ⟨t, c, e⟩ ⟨t', c', e'⟩ => by
      rw [e] at e'
      have z : Data.seq #[Value.int a t] c = Data.seq #[Value.int b t'] c' := congrArg Obj.data (Option.some.inj e')
      injection z with z1 _
      have z2 : [Value.int a t] = [Value.int b t'] := congrArg Array.toList z1
      injection z2 with z3 _
      injection z3)⟩
def outSum : Int → V → Hp → (Int → Hp → Prop) → Prop := fun a y H Nx => ∃ v, y = .int v ∧ Nx (a + v) H
structure ApS (Y : Cx) (S : Addr) : Prop where
  young : Y.s_0.heap.objs.size ≤ S
  loc : S ≠ Y.env.locals
  cell : ∀ x c, Y.env.cells.lookup x = some c → c ≠ S
  pn : ∀ p ∈ Y.pn, p.1 ≠ S
theorem gi_upd {Y : Cx} {fpI : List Addr} {tn : Nat → Heap → Prop} {S : Addr} {a v : Int} {i : Nat} {H : Hp} {s : Shared} {tk : Nat} {h' : Heap} {t : Tok} {c : Nat} (hSf : S ∉ fpI) (ap : ApS Y S) (keepT : ∀ i h h', tn i h → (∀ b ∈ fpI, ∀ o, h.get? b = some o → h'.get? b = some o) → tn i h')
    (gi : GI Y (conS S) fpI tn a i H s) (hk : ∀ b o, b ≠ S → s.heap.get? b = some o → h'.get? b = some o) (hS : h'.get? S = some (sumObj v t c)) : GI Y (conS S) fpI tn v i H { s with heap := h', toks := tk } := by
  obtain ⟨I, ⟨t0, c0, e0⟩, st, hn⟩ := gi
  obtain ⟨_, p2, p3, p4, _⟩ := I.pin (S, sumObj a t0 c0) (List.mem_append_right _ (mem_pinsAt (List.mem_singleton.mpr rfl) e0))
  have I0 : Inv Y [] (nones Y.N.length) H s := I.pins_of fun p hp => by cases hp
  have I1 : Inv Y [] (nones Y.N.length) H { s with heap := h', toks := tk } := I0.turned (it := S) (fun b o hb e => hk b o hb e) p2 p3 (.inr ap.young) ap.cell fun p hp => (List.mem_append.mp hp).elim (fun z => ap.pn p z) fun z => by cases z
  refine ⟨I1.pins_of fun p hp => ?_, ⟨t, c, hS⟩, keepT _ _ _ st fun b hb o e => hk b o (fun z => hSf (z ▸ hb)) e, hn⟩
  obtain ⟨hb, e⟩ := of_pinsAt hp
  have eS : p.1 = S := List.mem_singleton.mp hb
  rw [eS] at e ⊢
  have e' : h'.get? S = some p.2 := e
  rw [hS] at e'
  refine ⟨e, p2, p3, p4, fun v z => ?_⟩
  rw [← Option.some.inj e'] at z
  cases z
theorem sum_loop {Y : Cx} {fpI : List Addr} {tn : Nat → Heap → Prop} {A : Around} {ga : Addr} {go : Obj} {g : Nat} {S : Addr} {QI : Int → Hp → Prop} {R : Result → Shared → Prop} (hSf : S ∉ fpI) (ap : ApS Y S) (keepT : ∀ i h h', tn i h → (∀ b ∈ fpI, ∀ o, h.get? b = some o → h'.get? b = some o) → tn i h')
    (hh : A.handled = none) (hd : A.depth < recursionLimit) (hpn : (ga, go) ∈ Y.pn) (hgo : ∀ h : Heap, h.get? ga = some go → h.IsGen ga g)
    (hR : ∀ a t' s' H', Inv Y [] (nones Y.N.length) H' s' → QI a H' → R (.ok (.ret (.int a t'))) s') :
    ∀ (n i : Nat) (H : Hp) (Nx : Int → Hp → Prop) (s : Shared) (gs : GenState) (a : Int) (t : Tok) (c : Nat) (st : Int), (st = 0 ∨ st = 2) → s.gens[g]? = some gs → GI Y (conS S) fpI tn a i H s → s.heap.get? S = some (sumObj a t c) → Nx a H →
      (∀ a' s'', GI Y (conS S) fpI tn a' i H s'' → Nx a' H → gs.Goes (model Y.prog Y.w) A.in1.in1 (GRr Y (conS S) QI) (GP Y (conS S) fpI tn outSum) n (.send .none) s'') →
      codeAny (model Y.prog Y.w) A (.builtin "sum.loop" ⟨[.ref ga, .ref S, rawInt st, rawInt 0], []⟩) R s := by
  -- what a turn comes to, the loop going on or not
  have turn : ∀ (n i : Nat) (H : Hp) (Nx : Int → Hp → Prop) (s : Shared) (gs : GenState) (a : Int) (t : Tok) (c : Nat) (st : Int), (st = 0 ∨ st = 2) → s.gens[g]? = some gs → GI Y (conS S) fpI tn a i H s → s.heap.get? S = some (sumObj a t c) → Nx a H →
      (∀ a' s'', GI Y (conS S) fpI tn a' i H s'' → Nx a' H → gs.Goes (model Y.prog Y.w) A.in1.in1 (GRr Y (conS S) QI) (GP Y (conS S) fpI tn outSum) n (.send .none) s'') →
      (∀ (i1 : Nat) (H1 : Hp) (Nx1 : Int → Hp → Prop) (s1 : Shared) (gs1 : GenState) (b : Int) (t1 : Tok) (c1 : Nat) (st1 : Int), (st1 = 0 ∨ st1 = 2) → s1.gens[g]? = some gs1 → GI Y (conS S) fpI tn b i1 H1 s1 → s1.heap.get? S = some (sumObj b t1 c1) → Nx1 b H1 →
        GoOn (model Y.prog Y.w) A.in1.in1 (GRr Y (conS S) QI) (GP Y (conS S) fpI tn outSum) (fun a' s'' => GI Y (conS S) fpI tn a' i1 H1 s'') (fun a' => Nx1 a' H1) gs1 n →
        codeAny (model Y.prog Y.w) A (.builtin "sum.loop" ⟨[.ref ga, .ref S, rawInt st1, rawInt 0], []⟩) R s1) →
      codeAny (model Y.prog Y.w) A (.builtin "sum.loop" ⟨[.ref ga, .ref S, rawInt st, rawInt 0], []⟩) R s := by
    intro n i H Nx s gs a t c st hst2 hgs gi hS hN goes again
    refine codeAny_builtin F.entry_sum_loop ?_
    rw [Around.under_plainId F.plain_sum_loop _]
    show wpAny _ A.in1 (seqItems? (.ref S) >>= _) _ _ s
    refine wpAny_bind (wpAny_seqItems hS rfl ?_)
    show wpAny _ A.in1 (tryCatch (pyNext (.ref ga)) _ >>= _) _ _ s
    refine wpAny_bind (wpAny_tryCatch (next_ge (A := A.in1) (conS_ok S) hh hd hpn hgo hgs gi hN goes (fun i1 H1 y v Nx1 s1 gs1 rv gi1 o1 hg1 go1 => ?_) (fun H1 s1 I1 _ fin => ?_)))
    · obtain ⟨v', rfl, hc⟩ := o1
      obtain ⟨t', rfl⟩ := (show ∃ t', v = Value.int v' t' from rv)
      obtain ⟨tS, cS, hS'⟩ := gi1.2.1
      rcases hst2 with rfl | rfl
      · show wpAny _ A.in1 (if (_ : Bool) = true then (mkInt (a + v') >>= _) else _) _ _ _
        split
        · refine wpAny_bind (wpAny_mkInt ?_)
          show wpAny _ A.in1 (updateSeq S (fun _ => #[.int (a + v') s1.toks]) >>= _) _ _ _
          refine wpAny_bind ?_
          refine wpAny_updateSeq hS' rfl (wpAny_pure ⟨plainId_quiet F.plain_sum_loop _, ?_⟩)
          refine again i1 H1 Nx1 _ gs1 (a + v') s1.toks _ 0 (.inl rfl) hg1 (gi_upd (t := s1.toks) (s := s1) hSf ap keepT gi1 (fun b o hb e => (Heap.get?_update_other _ _ (Ne.symm hb)).trans e) (Heap.get?_update_self _ hS' rfl)) (Heap.get?_update_self _ hS' rfl) hc go1
        · refine wpAny_bind (wpAny_rule ?_)
          refine wpAny_bind (wpAny_attempt (wpAny_holding (wpAny_add_int ?_)))
          show wpAny _ A.in1 (updateSeq S (fun _ => #[.int (a + v') s1.toks]) >>= _) _ _ _
          refine wpAny_bind (wpAny_updateSeq hS' rfl ?_)
          have hS₂ := Heap.get?_update_self (Obj.mapSeq fun _ => #[Value.int (a + v') s1.toks]) hS' rfl
          refine wpAny_bind (wpAny_letGo ?_)
          refine wpAny_bind (wpAny_updateSeq hS₂ rfl (wpAny_pure ⟨plainId_quiet F.plain_sum_loop _, ?_⟩))
          refine again i1 H1 Nx1 _ gs1 (a + v') s1.toks _ 2 (.inr rfl) hg1 (gi_upd (t := s1.toks) (s := s1) hSf ap keepT gi1 (fun b o hb e => (Heap.get?_update_other _ _ (Ne.symm hb)).trans ((Heap.get?_update_other _ _ (Ne.symm hb)).trans e)) (Heap.get?_update_self _ hS₂ rfl)) (Heap.get?_update_self _ hS₂ rfl) hc go1
      · show wpAny _ A.in1 ((holding [Value.int v' t'] (binaryOp .Add (.int a t) (.int v' t'))).attempt >>= _) _ _ _
        refine wpAny_bind (wpAny_attempt (wpAny_holding (wpAny_add_int ?_)))
        show wpAny _ A.in1 (updateSeq S (fun _ => #[.int (a + v') s1.toks]) >>= _) _ _ _
        refine wpAny_bind (wpAny_updateSeq hS' rfl ?_)
        have hS₂ := Heap.get?_update_self (Obj.mapSeq fun _ => #[Value.int (a + v') s1.toks]) hS' rfl
        refine wpAny_bind (wpAny_letGo ?_)
        refine wpAny_bind (wpAny_updateSeq hS₂ rfl (wpAny_pure ⟨plainId_quiet F.plain_sum_loop _, ?_⟩))
        refine again i1 H1 Nx1 _ gs1 (a + v') s1.toks _ 2 (.inr rfl) hg1 (gi_upd (t := s1.toks) (s := s1) hSf ap keepT gi1 (fun b o hb e => (Heap.get?_update_other _ _ (Ne.symm hb)).trans ((Heap.get?_update_other _ _ (Ne.symm hb)).trans e)) (Heap.get?_update_self _ hS₂ rfl)) (Heap.get?_update_self _ hS₂ rfl) hc go1
    · exact wpAny_pure (hR a t s1 H1 (I1.pins_of fun p hp => by cases hp) fin)
  intro n
  induction n with
  | zero => exact fun i H Nx s gs a t c st h1 h2 h3 h4 h5 h6 => turn 0 i H Nx s gs a t c st h1 h2 h3 h4 h5 h6 fun i1 H1 Nx1 s1 gs1 b t1 c1 st1 _ _ g1 _ g3 g4 => (g4 b s1 g1 g3).elim
  | succ n ih => exact fun i H Nx s gs a t c st h1 h2 h3 h4 h5 h6 => turn (n + 1) i H Nx s gs a t c st h1 h2 h3 h4 h5 h6 fun i1 H1 Nx1 s1 gs1 b t1 c1 st1 g0 g1 g2 g3 g4 g5 => ih i1 H1 Nx1 s1 gs1 b t1 c1 st1 g0 g1 g2 g3 g4 g5
def tSumG (P : Addr) (n0 : Nat) (wi : TI) (g : TG) (tt : TT) (te : TE) : TE := fun σ H Q => wi σ H fun J H1 => GxR.TabG H1 P ∧ ∀ H2, GxR.Tabbed P H1 H2 →
  ∃ W : Int → Nat → Nat → Hp → Prop, (∃ m, W 0 0 m H2) ∧ TurnOf J n0 g tt te outSum (fun a H => Q (.int a) H) W
theorem pe_sumG {N : List Str} {c P : Addr} {elt tg iter : Expr} {ifs : List Expr} {p pos gpos : Pos} {scope : Scope} {wi : TI} {g : TG} {tt : TT} {te : TE} {k : Nat}
    (hr : Room (k + 1) X.A) (hgl : Gl X "sum") (hm : X.mg "sum" = none) (TB : GxR.TabB X.base X.mg c P) (hcode : X.env.code = .ref c) (S : GSc scope) (hi : PI X tg iter wi)
    (hg : ∀ (A : Around) (s : Shared) (H : Hp) (C : Addr) (code : Value) (fp : List Addr) (pn : List (Addr × Obj)), Room k (A.deeper (ce X scope C code)) → PG (gx X A N s H (ce X scope C code) fp pn) tg g)
    (ht : ∀ (A : Around) (s : Shared) (H : Hp) (C : Addr) (code : Value) (fp : List Addr) (pn : List (Addr × Obj)), Room k (A.deeper (ce X scope C code)) → PTs (gx X A N s H (ce X scope C code) fp pn) ifs tt)
    (he : ∀ (A : Around) (s : Shared) (H : Hp) (C : Addr) (code : Value) (fp : List Addr) (pn : List (Addr × Obj)), Room k (A.deeper (ce X scope C code)) → PE (gx X A N s H (ce X scope C code) fp pn) elt te)
    (hs : ∀ v, genFold iter X.env v = pure v := by intro _; rfl)
    (hb : bootBuiltins "sum" = some (.builtin "sum") := by decide +kernel)
    (hst : starEach [.GeneratorExp elt [⟨tg, iter, ifs, 0⟩] scope gpos] X.env = (false, eval (.GeneratorExp elt [⟨tg, iter, ifs, 0⟩] scope gpos) X.env) :: starEach [] X.env := by rfl) :
    PE X (.Call (.Name "sum" p) [.GeneratorExp elt [⟨tg, iter, ifs, 0⟩] scope gpos] [] pos) (tSumG P N.length wi g tt te) := by
  refine ⟨fun pins s σ H Q I h => ?_⟩
  refine wpAny_Call_Name_kw (ld_blt I hgl hm hb ?_)
  refine PyProof.Rows.callWith_builtin1 ?_ hst (by rfl)
  rw [hst]
  show wpAny _ _ (spliced ((false, eval (.GeneratorExp elt [⟨tg, iter, ifs, 0⟩] scope gpos) X.env) :: backTo pos (starEach [] X.env))) _ _ s
  refine Calls.spliced_cons (gen_make hr TB hcode S hi hs I h fun J H1 H2 s4 s5 code fp it tn go gn hR tab I4 f4 T st5 mk hgo hgs => ?_)
  refine Calls.spliced_nil ?_
  obtain ⟨W, ⟨m0, w0⟩, turn⟩ := hR H2 tab
  have rY := room3 hr (ce X scope s4.heap.objs.size code)
  have I5 := mk X.A.in1.in1 N hr.hd I.ok.frames
  generalize hpn : [(s4.heap.objs.size + 1, go)] = pn at I5
  have hpm : (s4.heap.objs.size + 1, go) ∈ pn := by rw [← hpn]; exact List.mem_singleton.mpr rfl
  have hpf : ∀ p ∈ pn, p.1 ∉ fp := fun p hp z => by
    rw [← hpn] at hp
    rw [List.mem_singleton.mp hp] at z
    exact absurd (f4 _ z).2 (Nat.not_lt.mpr (Nat.le_succ _))
  have isg := hgo _ (I5.pin _ (List.mem_append_left _ hpm)).1
  have fpl : ∀ b ∈ fp, b < s5.heap.objs.size := fun b hb => Nat.lt_of_lt_of_le (f4 b hb).2 I5.sz
  refine call_function_tree F.kind_sum F.plain_sum F.entry_sum (F.args_sum1 _) ?_
  unfold Builtin.«sum»
  simp only [List.length_cons, List.length_nil]
  rw [if_neg (by decide)]
  refine wpAny_bind (wpAny_of_eq (show Builtin.Builtins.bindParams "sum" ["start"] 0 { } = pure [none] from rfl) ?_)
  refine wpAny_bind (wpAny_pyIter_gen isg ?_)
  refine wpAny_bind (wpAny_mkInt ?_)
  refine wpAny_bind (wpAny_pure ?_)
  simp only [List.forIn_cons, List.forIn_nil]
  refine wpAny_bind (wpAny_bind (wpAny_bind (wpAny_isInstance (T := "int") (b := false) (typeIs_int _ _ _) PySem.sub_int_str ?_)))
  simp only [Bool.false_eq_true, if_false]
  refine wpAny_pure (wpAny_bind (wpAny_bind (wpAny_isInstance (T := "int") (b := false) (typeIs_int _ _ _) PySem.sub_int_bytes ?_)))
  simp only [Bool.false_eq_true, if_false]
  refine wpAny_pure (wpAny_bind (wpAny_bind (wpAny_isInstance (T := "int") (b := false) (typeIs_int _ _ _) PySem.sub_int_bytearray ?_)))
  simp only [Bool.false_eq_true, if_false]
  refine wpAny_pure (wpAny_pure ?_)
  refine wpAny_bind (wpAny_newObj_type ?_)
  refine wpAny_pure ⟨plainId_quiet F.plain_sum_loop _, ?_⟩
  have hSf : s5.heap.objs.size ∉ fp := fun hm => Nat.lt_irrefl _ (fpl _ hm)
  have hget : (s5.heap.push (sumObj 0 s5.toks 0)).get? s5.heap.objs.size = some (sumObj 0 s5.toks 0) := Heap.get?_push_size _ rfl
  have I6 : Inv (gx X X.A.in1.in1 N s4 H2 (ce X scope s4.heap.objs.size code) fp pn) [] (nones N.length) H2 { s5 with heap := s5.heap.push (sumObj 0 s5.toks 0), toks := s5.toks + 1 } := I5.kept fun b o e => Heap.get?_push_of_some _ e
  have gi0 : GI (gx X X.A.in1.in1 N s4 H2 (ce X scope s4.heap.objs.size code) fp pn) (conS s5.heap.objs.size) fp tn 0 0 H2 { s5 with heap := s5.heap.push (sumObj 0 s5.toks 0), toks := s5.toks + 1 } := by
    refine ⟨I6.pins_of fun p hp => ?_, ⟨s5.toks, 0, hget⟩, T.keep _ _ _ st5 fun b _ o e => Heap.get?_push_of_some _ e, fun b hb => (f4 b hb).1.1⟩
    obtain ⟨hb, e⟩ := of_pinsAt hp
    have eS : p.1 = s5.heap.objs.size := List.mem_singleton.mp hb
    rw [eS] at e ⊢
    have e' : (s5.heap.push (sumObj 0 s5.toks 0)).get? s5.heap.objs.size = some p.2 := e
    rw [hget] at e'
    refine ⟨e, I5.hok.fresh (Nat.le_refl _), Nat.ne_of_gt I5.lt, I5.nofs (Nat.le_refl _), fun v z => ?_⟩
    rw [← Option.some.inj e'] at z
    cases z
  have ap : ApS (gx X X.A.in1.in1 N s4 H2 (ce X scope s4.heap.objs.size code) fp pn) s5.heap.objs.size := ⟨I5.sz, Nat.ne_of_gt I5.lt, fun x c e => by simp [genEnv] at e, fun p hp z => by
    have := Heap.lt_size (I5.pin p (List.mem_append_left _ hp)).1
    rw [z] at this
    exact Nat.lt_irrefl _ this⟩
  refine sum_loop (Y := gx X X.A.in1.in1 N s4 H2 (ce X scope s4.heap.objs.size code) fp pn) (A := X.A) (g := gn) (QI := fun a H => Q (.int a) H) hSf ap T.keep hr.hd hr.depth hpm hgo (fun a t' s' H' I' q => ?_) (m0 + 1) 0 H2 (fun a H => W a 0 m0 H) _ _ 0 s5.toks 0 0 (.inl rfl) hgs gi0 hget w0 (fun a' s'' gi' w' => ?_)
  · exact ⟨.int a, H', ge_back I4 f4 I', ⟨_, rfl⟩, q⟩
  · exact ⟨rfl, seg_start (Y := gx X X.A.in1.in1 N s4 H2 (ce X scope s4.heap.objs.size code) fp pn) (conS_ok _) rfl T (hg _ _ _ _ _ _ _ rY) (ht _ _ _ _ _ _ _ rY) (he _ _ _ _ _ _ _ rY) rfl (fun b hb => hb) (fun b hb => by rw [List.mem_singleton.mp hb]; exact hSf) hpf rfl S.co turn m0 a' (m0 + 1) H2 s'' (Nat.lt_succ_self _) w' gi'⟩
end
end GE
set_option Elab.async false
set_option linter.all false
set_option maxRecDepth 100000
set_option maxHeartbeats 1000000
namespace CL
open PySem PySem.Spec PyProof.Rows L2 GE
/-! ### what a value is worth, as data -/
mutual
inductive Rp (H : Hp) : V → PyData → Prop
  | non : Rp H .non .none
  | bl (b : Bool) : Rp H (.bl b) (.bool b)
  | int (i : Int) : Rp H (.int i) (.int i)
  | str (x : Str) : Rp H (.str x) (.str x)
  | lst {a : Addr} {xs : List V} {ds : List PyData} : H a = some (.lst xs) → RpAll H xs ds → Rp H (.ref a) (.list ds)
  | tup {a : Addr} {xs : List V} {ds : List PyData} : H a = some (.tup xs) → RpAll H xs ds → Rp H (.ref a) (.tuple ds)
  | dct {a : Addr} : H a = some (.dK []) → Rp H (.ref a) (.dict [])
inductive RpAll (H : Hp) : List V → List PyData → Prop
  | nil : RpAll H [] []
  | cons {v : V} {vs : List V} {d : PyData} {ds : List PyData} : Rp H v d → RpAll H vs ds → RpAll H (v :: vs) (d :: ds)
end
/-- all stays but tables, which may grow -/
def Ex (H H' : Hp) : Prop := ∀ b o, H b = some o → H' b = some o ∨ ∃ ps qs, o = .tbl ps ∧ H' b = some (.tbl qs) ∧ TriplesOk qs.toList
theorem Ex.refl (H : Hp) : Ex H H := fun _ _ h => .inl h
theorem Ex.of {H H' : Hp} (s : Same H H') : Ex H H' := fun b o h => .inl (s b o h)
theorem Ex.trans {H H1 H2 : Hp} (a : Ex H H1) (b : Ex H1 H2) : Ex H H2 := fun c o h => by
  rcases a c o h with q | ⟨ps, qs, e, q⟩
  · exact b c o q
  · rcases b c _ q.1 with r | ⟨ps', qs', _, r⟩
    · exact .inr ⟨ps, qs, e, r, q.2⟩
    · exact .inr ⟨ps, qs', e, r⟩
theorem Ex.keep {H H' : Hp} (e : Ex H H') {b : Addr} {o : HO} (h : H b = some o) (n : ∀ ps, o ≠ .tbl ps) : H' b = some o := by
  rcases e b o h with q | ⟨ps, _, z, _⟩
  · exact q
  · exact absurd z (n ps)
theorem Ex.lst {H H' : Hp} (e : Ex H H') {b : Addr} {xs : List V} (h : H b = some (.lst xs)) : H' b = some (.lst xs) := e.keep h fun _ => nofun
theorem Ex.tup {H H' : Hp} (e : Ex H H') {b : Addr} {xs : List V} (h : H b = some (.tup xs)) : H' b = some (.tup xs) := e.keep h fun _ => nofun
theorem Ex.free {H H' : Hp} (e : Ex H H') {l : Addr} (h : H' l = none) : H l = none := by
  cases q : H l with
  | none => rfl
  | some o =>
    rcases e l o q with r | ⟨_, _, _, r, _⟩
    · rw [h] at r; cases r
    · rw [h] at r; cases r
theorem Ex.new {H : Hp} {p : Addr} {o : HO} (h : H p = none) : Ex H (upd H p o) := fun b x e => .inl (by rw [upd_ne (ne_of_none e h)]; exact e)
theorem same_upd {H : Hp} {p : Addr} {o : HO} (h : H p = none) : Same H (upd H p o) := fun b x e => by
  rw [upd_ne (ne_of_none e h)]
  exact e
mutual
theorem Rp.ex {H H' : Hp} (e : Ex H H') : ∀ (d : PyData) (v : V), Rp H v d → Rp H' v d
  | .none, _, h => by cases h; exact .non
  | .bool b, _, h => by cases h; exact .bl b
  | .int i, _, h => by cases h; exact .int i
  | .str x, _, h => by cases h; exact .str x
  | .list ds, _, h => by
    cases h with
    | lst h1 h2 => exact .lst (e.lst h1) (RpAll.ex e ds _ h2)
  | .tuple ds, _, h => by
    cases h with
    | tup h1 h2 => exact .tup (e.tup h1) (RpAll.ex e ds _ h2)
  | .dict _, _, h => by
    cases h with
    | dct h1 => exact .dct (e.keep h1 fun _ => nofun)
theorem RpAll.ex {H H' : Hp} (e : Ex H H') : ∀ (ds : List PyData) (vs : List V), RpAll H vs ds → RpAll H' vs ds
  | [], _, h => by cases h; exact .nil
  | d :: ds, _, h => by
    cases h with
    | cons h1 h2 => exact .cons (Rp.ex e d _ h1) (RpAll.ex e ds _ h2)
end
theorem RpAll.length {H : Hp} : ∀ {vs : List V} {ds : List PyData}, RpAll H vs ds → vs.length = ds.length
  | _, _, .nil => rfl
  | _, _, .cons _ t => congrArg (· + 1) (RpAll.length t)
theorem RpAll.get {H : Hp} : ∀ {vs : List V} {ds : List PyData} {i : Nat} {v : V}, RpAll H vs ds → vs[i]? = some v → ∃ d, ds[i]? = some d ∧ Rp H v d
  | _, _, _, _, .nil, e => by simp at e
  | _, _, 0, _, .cons r _, e => by simp at e; subst e; exact ⟨_, rfl, r⟩
  | _, _, i + 1, _, .cons _ t, e => by
    obtain ⟨d, h1, h2⟩ := RpAll.get (i := i) t (by simpa using e)
    exact ⟨d, by simpa using h1, h2⟩
theorem RpAll.take {H : Hp} : ∀ {vs : List V} {ds : List PyData} (n : Nat), RpAll H vs ds → RpAll H (vs.take n) (ds.take n)
  | _, _, 0, _ => .nil
  | _, _, _ + 1, .nil => .nil
  | _, _, n + 1, .cons r t => .cons r (RpAll.take n t)
theorem RpAll.append {H : Hp} : ∀ {vs ws : List V} {ds es : List PyData}, RpAll H vs ds → RpAll H ws es → RpAll H (vs ++ ws) (ds ++ es)
  | _, _, _, _, .nil, s => s
  | _, _, _, _, .cons r t, s => .cons r (RpAll.append t s)
/-! ### plans, as the document tells -/
def tyName : PyData → String
  | .none => "NoneType" | .bool _ => "bool" | .int _ => "int" | .str _ => "str" | .list _ => "list" | .tuple _ => "tuple" | .dict _ => "dict"
def rowsD : PyData → Option (List PyData)
  | .list xs => some xs
  | .tuple xs => some xs
  | _ => none
def isRow (d : PyData) : Bool := (rowsD d).isSome
def isWhole : PyData → Bool
  | .int _ => true
  | _ => false
def isIntB : PyData → Bool
  | .int _ => true
  | .bool _ => true
  | _ => false
def isBoolB : PyData → Bool
  | .bool _ => true
  | _ => false
def isNone : PyData → Bool
  | .none => true
  | _ => false
abbrev GREAT : Int := 1000000000000000000000000000000
def isPatience : PyData → Bool
  | .none => true
  | .int i => decide (0 ≤ i) && decide (i ≤ GREAT)
  | _ => false
def isTurns (d : PyData) : Bool := match rowsD d with
  | some ds => decide (1 ≤ ds.length) && decide (ds.length ≤ 8) && ds.all isPatience
  | none => false
def isMany : PyData → Bool
  | .none => true
  | .int i => decide (0 ≤ i)
  | _ => false
def isPiece (d : PyData) : Bool := match rowsD d with
  | some [t, m] => isTurns t && isMany m
  | _ => false
def sndD (d : PyData) : PyData := match rowsD d with
  | some [_, m] => m
  | _ => .none
def worth : PyData → Int
  | .int i => i
  | _ => 0
def sumSnd (ds : List PyData) : Int := (ds.map fun d => worth (sndD d)).sum
def isPlanL (ds : List PyData) : Bool := decide (1 ≤ ds.length) && decide (ds.length ≤ 8) && ds.all isPiece && !((ds.take (ds.length - 1)).any fun d => isNone (sndD d)) && decide (sumSnd ds ≤ GREAT)
def isPlan (d : PyData) : Bool := match rowsD d with
  | some ds => isPlanL ds
  | none => false
theorem Rp.ty {K : PySem.W.Frag} {H : Hp} {v : V} {d : PyData} (h : Rp H v d) : TyX K H v (.type (tyName d)) := by
  cases h with
  | non => exact .base .non
  | bl b => exact .base (.bl b)
  | int i => exact .base (.int i)
  | str x => exact .base (.str x)
  | lst h _ => exact .base (.lst h)
  | tup h _ => exact .base (.tup h)
  | dct h => exact .base (.dK h)
theorem kit_int {K : PySem.W.Frag} (d : PyData) : PySem.W.kitOne K (.type (tyName d)) (.type "int") = some (isIntB d) := by cases d <;> (refine kit_ty ?_; dsimp only [tyName, isIntB]; decide +kernel)
theorem kit_bool {K : PySem.W.Frag} (d : PyData) : PySem.W.kitOne K (.type (tyName d)) (.type "bool") = some (isBoolB d) := by cases d <;> (refine kit_ty ?_; dsimp only [tyName, isBoolB]; decide +kernel)
theorem kit_list {K : PySem.W.Frag} (d : PyData) : PySem.W.kitOne K (.type (tyName d)) (.type "list") = some (match d with | .list _ => true | _ => false) := by cases d <;> (refine kit_ty ?_; dsimp only [tyName]; decide +kernel)
theorem kit_tuple {K : PySem.W.Frag} (d : PyData) : PySem.W.kitOne K (.type (tyName d)) (.type "tuple") = some (match d with | .tuple _ => true | _ => false) := by cases d <;> (refine kit_ty ?_; dsimp only [tyName]; decide +kernel)
theorem kit_rows {K : PySem.W.Frag} (d : PyData) : PySem.W.kitAny K (.type (tyName d)) [.type "list", .type "tuple"] = some (isRow d) := by
  refine kitAny_cons (kit_list d) (fun h => kitAny_cons (kit_tuple d) (fun h2 => ?_) fun h2 => ?_) fun h => ?_
  · cases d <;> first | exact kitAny_nil | (simp at h; done) | (simp at h2; done)
  · cases d <;> first | rfl | (simp at h; done) | (simp at h2; done)
  · cases d <;> first | rfl | (simp at h; done)
/-- a row's things -/
theorem Rp.rows {H : Hp} {v : V} {d : PyData} {ds : List PyData} (h : Rp H v d) (e : rowsD d = some ds) : ∃ a xs, v = .ref a ∧ RpAll H xs ds ∧ (H a = some (.lst xs) ∨ H a = some (.tup xs)) := by
  cases h with
  | lst h1 h2 => cases e; exact ⟨_, _, rfl, h2, .inl h1⟩
  | tup h1 h2 => cases e; exact ⟨_, _, rfl, h2, .inr h1⟩
  | _ => cases e
/-! ### for x in a list or a tuple -/
structure StSeq (H : Hp) (a : Addr) (xs : List V) : Prop where
  or : H a = some (.lst xs) ∨ H a = some (.tup xs)
theorem StSeq.ex {H H' : Hp} {a : Addr} {xs : List V} (s : StSeq H a xs) (e : Ex H H') : StSeq H' a xs := ⟨s.or.elim (fun h => .inl (e.lst h)) fun h => .inr (e.tup h)⟩
theorem StSeq.sq {K : PySem.W.Frag} {H : Hp} {a : Addr} {xs : List V} (s : StSeq H a xs) : SqL K H a xs ∨ SqT K H a xs := s.or.elim (fun h => .inl (SqL.of h)) fun h => .inr (SqT.of h)
/-- the thing that is walked stands -/
def StandsAs (K : PySem.W.Frag) (a : Addr) (xs : List V) (J : It) (H : Hp) : Prop := (J = Itl K a ∧ SqL K H a xs) ∨ (J = Itt K a ∧ SqT K H a xs)
section
variable {X : Cx} {tg : Expr}
def iSeq (K : PySem.W.Frag) (tl : TE) : TI := fun σ H R => tl σ H fun x H1 => ∃ a xs, x = .ref a ∧ StSeq H1 a xs ∧ ∀ J, (∀ H2, Ex H1 H2 → StandsAs K a xs J H2) → R J H1
theorem pi_seq {l : Expr} {tl : TE} (hl : PE X l tl) : PI X tg l (iSeq X.K tl) := by
  refine ⟨fun pins s σ H R I h => ?_⟩
  refine thn (hl.run pins s σ H _ I h) fun v s1 ⟨x, H1, I1, r1, q1⟩ => ?_
  obtain ⟨a, xs, e, st, q⟩ := q1
  subst e
  cases r1
  have new : ∀ b ∈ [s1.heap.objs.size], FpOk X pins H1 b := fun b hb => by
    rw [List.mem_singleton.mp hb]
    exact I1.fpOk (Nat.le_refl _) (I1.hok.fresh (Nat.le_refl _))
  rcases st.or with hq | hq
  · obtain ⟨its, rv, p, hz⟩ := I1.list (SqL.of hq)
    exact wpAny_pyIter_list p.isList ⟨s1.heap.objs.size, [s1.heap.objs.size], _, _, H1, rfl, I1.kept (t' := s1.toks) fun b o e => Heap.get?_push_of_some _ e, turn_list a _, ⟨_, Heap.get?_push_size _ rfl, rfl, rfl⟩, new, q _ fun H2 e => .inl ⟨rfl, SqL.of (e.lst hq)⟩⟩
  · obtain ⟨its, rv, p, hz⟩ := I1.tuple (SqT.of hq)
    exact wpAny_pyIter_tuple (show s1.heap.IsTuple a its.toArray from p) ⟨s1.heap.objs.size, [s1.heap.objs.size], _, _, H1, rfl, I1.kept (t' := s1.toks) fun b o e => Heap.get?_push_of_some _ e, turn_tuple a _, ⟨_, Heap.get?_push_size _ rfl, rfl, rfl⟩, new, q _ fun H2 e => .inr ⟨rfl, SqT.of (e.tup hq)⟩⟩
end
theorem StandsAs.go {K : PySem.W.Frag} {a : Addr} {xs : List V} {J : It} {H : Hp} {i : Nat} {x : V} (s : StandsAs K a xs J H) (h : xs[i]? = some x) : J.go i H := by
  rcases s with ⟨rfl, q⟩ | ⟨rfl, q⟩ <;> exact ⟨xs, x, q, h⟩
theorem StandsAs.stop {K : PySem.W.Frag} {a : Addr} {xs : List V} {J : It} {H : Hp} {i : Nat} (s : StandsAs K a xs J H) (h : xs.length ≤ i) : J.stop i H := by
  rcases s with ⟨rfl, q⟩ | ⟨rfl, q⟩ <;> exact ⟨xs, q, h⟩
theorem StandsAs.yld {K : PySem.W.Frag} {a : Addr} {xs : List V} {J : It} {H H' : Hp} {i : Nat} {x : V} (s : StandsAs K a xs J H) (h : J.yld i H x H') : H' = H ∧ xs[i]? = some x := by
  rcases s with ⟨rfl, q⟩ | ⟨rfl, q⟩ <;> exact ⟨h.1, h.2 xs q⟩
theorem turn_by {α : Type} {K : PySem.W.Frag} {ad : Addr} {xs : List V} {J : It} {n0 : Nat} {g : TG} {tt : TT} {te : TE} {Out : α → V → Hp → (α → Hp → Prop) → Prop} {Fin : α → Hp → Prop} (Pv : α → Nat → Hp → Prop)
    (stands : ∀ a i H, Pv a i H → StandsAs K ad xs J H)
    (step : ∀ a i x H, xs[i]? = some x → Pv a i H → g x (nones n0) H fun σ2 H2 => tt σ2 H2 fun b H3 => if b = true then te σ2 H3 fun y H4 => Out a y H4 (fun a' H' => Pv a' (i + 1) H') else Pv a (i + 1) H3)
    (done : ∀ a H, Pv a xs.length H → Fin a H) : TurnOf J n0 g tt te Out Fin (fun a i m H => m = xs.length - i ∧ i ≤ xs.length ∧ Pv a i H) := by
  rintro a i m H ⟨rfl, hi, p⟩
  have s := stands a i H p
  by_cases hlt : i < xs.length
  · refine .inr ⟨s.go (List.getElem?_eq_getElem hlt), fun a' H' => Pv a' (i + 1) H', fun a' H' p' => ⟨xs.length - (i + 1), by omega, rfl, hlt, p'⟩, fun x H' y => ?_⟩
    obtain ⟨rfl, hx⟩ := s.yld y
    exact step a i x _ hx p
  · have e : i = xs.length := by omega
    subst e
    exact .inl ⟨s.stop (Nat.le_refl _), done a H p⟩
end CL
set_option Elab.async false
set_option linter.all false
set_option maxRecDepth 100000
set_option maxHeartbeats 1000000
namespace CL
open PySem PySem.Spec PyProof.Rows L2 GE
def topS (i : Nat) : Stmt := PySem.Challenge.pw_comersline_k64_whole_orders_and_lines.main.body.getD i (.Pass ⟨0, 0, 0, 0⟩)
abbrev sWhole : Stmt := topS 12
abbrev sRow : Stmt := topS 13
abbrev sPat : Stmt := topS 30
abbrev sTurns : Stmt := topS 31
abbrev sPiece : Stmt := topS 32
abbrev sPlan : Stmt := topS 33
theorem scWhole : FnScope ["thing"] ["thing"] (defScope sWhole) := ⟨rfl, rfl, rfl, by decide +kernel, rfl, by decide +kernel, by decide +kernel⟩
theorem scRow : FnScope ["thing"] ["thing"] (defScope sRow) := ⟨rfl, rfl, rfl, by decide +kernel, rfl, by decide +kernel, by decide +kernel⟩
theorem scPat : FnScope ["thing"] ["thing"] (defScope sPat) := ⟨rfl, rfl, rfl, by decide +kernel, rfl, by decide +kernel, by decide +kernel⟩
theorem scTurns : FnScope ["thing"] ["thing"] (defScope sTurns) := ⟨rfl, rfl, rfl, by decide +kernel, rfl, by decide +kernel, by decide +kernel⟩
theorem scPiece : FnScope ["thing"] ["thing"] (defScope sPiece) := ⟨rfl, rfl, rfl, by decide +kernel, rfl, by decide +kernel, by decide +kernel⟩
theorem scPlan : FnScope ["thing"] ["thing"] (defScope sPlan) := ⟨rfl, rfl, rfl, by decide +kernel, rfl, by decide +kernel, by decide +kernel⟩

/-- a def whose code object is known -/
structure FunC (K : PySem.W.Frag) (x qual : Str) (st : Stmt) (f : Addr) (fd : FuncData) (c : Addr) : Prop where
  ex : ∃ (oc : Value) (od : Option Addr) (kV doc pm : Value) (an : Option Addr) (ct : Value) (osl : Array (Option Value)),
    fd = PySem.W.fnOf x qual (defArgs st) (defBody st) (defScope st) .none kV doc pm an (.ref c) ct ∧ K.lookup f = some ⟨oc, od, .func fd, osl⟩ ∧ PySem.W.codeIn K (.ref c) qual = true
  kp : PySem.W.keepIn K (.ref f) = true
theorem FunC.ok {P : Program} {w : World} {K : PySem.W.Frag} {mg : Str → Option Value} {base : Heap} {x qual : Str} {st : Stmt} {f c : Addr} {fd : FuncData} {N ps : List Str} {k : Nat} {sp : Sp} (F : FunC K x qual st f fd c) (S : FnScope N ps (defScope st)) (len : ∀ vs H Q E, sp vs H Q E → vs.length = ps.length)
    (hbody : ∀ (A : Around) (outer : List Env) (s : Shared) (H : Hp) (vs : List V) (Q : VK) (E : XK), Room k (A.deeper (envOfC qual (defScope st) s.heap.objs.size f (.ref c))) → sp vs H Q E →
      ∃ t, PSs (cxOf CX0 P w K mg base N qual (defScope st) f (.ref c) A outer s H E).nox (defBody st) t ∧ t { nx := fun _ H' => Q .non H', rt := Q } (start N vs) H) : FnOk P w K mg base CX0 (k + 1) f fd ps sp := by
  obtain ⟨oc, od, kV, doc, pm, an, ct, osl, rfl, lk, hcd⟩ := F.ex
  refine fn_of lk hcd S len fun A outer s H vs Q E hr hsp => ?_
  obtain ⟨t, h, q⟩ := hbody A outer s H vs Q E hr hsp
  exact ⟨t, h.nox, q⟩
/-- a def that may be called by its name -/
structure Cal (P : Program) (w : World) (K : PySem.W.Frag) (mg : Str → Option Value) (base : Heap) (k : Nat) (x : Str) (ps : List Str) (sp : Sp) : Prop where
  ex : ∃ f fd, mg x = some (.ref f) ∧ PySem.W.keepIn K (.ref f) = true ∧ Binds K fd ps [] ∧ FnOk P w K mg base CX0 k f fd ps sp
theorem pe_cal {X : Cx} {k : Nat} {x : Str} {ps : List Str} {sp : Sp} {p pos : Pos} {e : Expr} {es : List Expr} {t : TA} (C : Cal X.prog X.w X.K X.mg X.base k x ps sp) (hr : Room k X.A) (hg : Gl X x) (ha : PA X (e :: es) t) (hdb : (x == ("__debug__" : Str)) = false := by decide)
    (he : starEach (e :: es) X.env = (false, eval e X.env) :: starEach es X.env := by rfl) (hpl : (backTo pos (starEach es X.env)).any (·.1) = false := by rfl) : PE X (.Call (.Name x p) (e :: es) [] pos) (tCall sp [] E0 t) := by
  obtain ⟨f, fd, h1, h2, h3, h4⟩ := C.ex
  exact pe_call h4 hr hg h1 h2 h3 .nil pass0 ha hdb he hpl
theorem Cal.mono {P : Program} {w : World} {K : PySem.W.Frag} {mg : Str → Option Value} {base : Heap} {j k : Nat} {x : Str} {ps : List Str} {sp : Sp} (C : Cal P w K mg base j x ps sp) (h : j ≤ k) : Cal P w K mg base k x ps sp := by
  obtain ⟨f, fd, h1, h2, h3, h4⟩ := C.ex
  exact ⟨f, fd, h1, h2, h3, h4.mono h⟩
/-- names that are still the built-in ones, and constants -/
structure Nm (mg : Str → Option Value) : Prop where
  isi : mg "isinstance" = none
  len : mg "len" = none
  all : mg "all" = none
  any : mg "any" = none
  sum : mg "sum" = none
  int : mg "int" = none
  bool : mg "bool" = none
  list : mg "list" = none
  tuple : mg "tuple" = none
  great : ∃ t, mg "GREATEST" = some (.int GREAT t)
  longest : ∃ t, mg "LONGEST" = some (.int 8 t)
/-- the tables of the two defs that hold generator expressions -/
def Tb (P1 P2 : Addr) (H : Hp) : Prop := GxR.TabG H P1 ∧ GxR.TabG H P2
theorem tabG_same {P : Addr} {H H' : Hp} (s : Same H H') (h : GxR.TabG H P) : GxR.TabG H' P := by
  obtain ⟨ps, e, t⟩ := h
  exact ⟨ps, s _ _ e, t⟩
theorem Tb.same {P1 P2 : Addr} {H H' : Hp} (s : Same H H') (h : Tb P1 P2 H) : Tb P1 P2 H' := ⟨tabG_same s h.1, tabG_same s h.2⟩
theorem ex_tabbed {P : Addr} {H H' : Hp} (g : GxR.TabG H P) (t : GxR.Tabbed P H H') : Ex H H' := fun b o e => by
  by_cases hb : b = P
  · subst hb
    obtain ⟨ps, h1, _⟩ := g
    obtain ⟨⟨qs, h2, hq⟩, _⟩ := t
    rw [h1] at e
    cases e
    exact .inr ⟨ps, qs, rfl, h2, hq⟩
  · exact .inl (by rw [t.2 b hb]; exact e)
theorem tabG_ex {P : Addr} {H H' : Hp} (h : GxR.TabG H P) (e : Ex H H') : GxR.TabG H' P := by
  obtain ⟨ps, h1, h2⟩ := h
  rcases e P _ h1 with q | ⟨_, qs, _, q, t⟩
  · exact ⟨ps, q, h2⟩
  · exact ⟨qs, q, t⟩
theorem Tb.tab1 {P1 P2 : Addr} {H H' : Hp} (h : Tb P1 P2 H) (t : GxR.Tabbed P1 H H') : Tb P1 P2 H' := ⟨t.1, by
  by_cases hb : P2 = P1
  · rw [hb]; exact t.1
  · obtain ⟨ps, e, q⟩ := h.2
    exact ⟨ps, by rw [t.2 P2 hb]; exact e, q⟩⟩
theorem Tb.tab2 {P1 P2 : Addr} {H H' : Hp} (h : Tb P1 P2 H) (t : GxR.Tabbed P2 H H') : Tb P1 P2 H' := ⟨by
  by_cases hb : P1 = P2
  · rw [hb]; exact t.1
  · obtain ⟨ps, e, q⟩ := h.1
    exact ⟨ps, by rw [t.2 P1 hb]; exact e, q⟩, t.1⟩
def spOne (g : PyData → Bool) : Sp := fun vs H Q _ => ∃ v d, vs = [v] ∧ Rp H v d ∧ ∀ H', Same H H' → Q (.bl (g d)) H'
def spTab (P1 P2 : Addr) (g : PyData → Bool) : Sp := fun vs H Q _ => ∃ v d, vs = [v] ∧ Rp H v d ∧ Tb P1 P2 H ∧ ∀ H', Ex H H' → Tb P1 P2 H' → Q (.bl (g d)) H'
theorem spOne_len {g : PyData → Bool} : ∀ vs H Q E, spOne g vs H Q E → vs.length = 1 := fun vs H Q E ⟨v, d, e, _⟩ => by rw [e]; rfl
theorem spTab_len {P1 P2 : Addr} {g : PyData → Bool} : ∀ vs H Q E, spTab P1 P2 g vs H Q E → vs.length = 1 := fun vs H Q E ⟨v, d, e, _⟩ => by rw [e]; rfl
section
variable {P : Program} {w : World} {K : PySem.W.Frag} {mg : Str → Option Value} {base : Heap}
theorem ok_whole {f : Addr} {fd : FuncData} (F : Fun K "is_whole" "is_whole" sWhole f fd) (T : Nm mg) : FnOk P w K mg base CX0 1 f fd ["thing"] (spOne isWhole) := by
  refine F.ok scWhole spOne_len (fun cdv A outer s H vs Q E hr h => ?_)
  obtain ⟨v, d, rfl, hR, q⟩ := h
  refine ⟨_, pss_one (ps_ret (pe_and (pe_callB call_isi (by rfl) T.isi (by decide +kernel) (pa_cons (pv 0) (pa_cons (pe_bltn (v := .ty "int") (by rfl) T.int PyProof.Rows.boot_int rfl) pa_nil)))
    (pe_one (pe_not (pe_callB call_isi (by rfl) T.isi (by decide +kernel) (pa_cons (pv 0) (pa_cons (pe_bltn (v := .ty "bool") (by rfl) T.bool PyProof.Rows.boot_bool rfl) pa_nil))))))), ?_⟩
  refine ⟨v, rfl, v, .ty "int", _, _, isIntB d, rfl, .ty _, hR.ty, kit_int d, isIntB d, rfl, ite2 (fun e => ?_) (fun e => ?_)⟩
  · refine ⟨v, rfl, v, .ty "bool", _, _, isBoolB d, rfl, .ty _, hR.ty, kit_bool d, isBoolB d, rfl, ?_⟩
    have z : (!isBoolB d) = isWhole d := by cases d <;> first | rfl | (exact absurd e Bool.false_ne_true)
    rw [z]
    exact q H (Same.refl H)
  · have z : isWhole d = false := by cases d <;> first | rfl | (exact absurd rfl e)
    have q' := q H (Same.refl H)
    rw [z] at q'
    exact q'
theorem ok_row {f : Addr} {fd : FuncData} (F : Fun K "is_row" "is_row" sRow f fd) (T : Nm mg) : FnOk P w K mg base CX0 1 f fd ["thing"] (spOne isRow) := by
  refine F.ok scRow spOne_len (fun cdv A outer s H vs Q E hr h => ?_)
  obtain ⟨v, d, rfl, hR, q⟩ := h
  refine ⟨_, pss_one (ps_ret (pe_callB call_isiT (by rfl) T.isi (by decide +kernel) (pa_cons (pv 0) (pa_cons (pe_tup (pa_cons (pe_bltn (v := .ty "list") (by rfl) T.list PyProof.Rows.boot_list rfl) (pa_cons (pe_bltn (v := .ty "tuple") (by rfl) T.tuple PyProof.Rows.boot_tuple rfl) pa_nil))) pa_nil)))), ?_⟩
  refine ⟨v, rfl, by show 2 ≤ sizeLine; decide, fun p np => ⟨v, p, [.ty "list", .ty "tuple"], _, _, isRow d, rfl, upd_same, .cons (.ty _) (.cons (.ty _) .nil), (Rp.ex (Ex.new np) d v hR).ty, kit_rows d, q _ (same_upd np)⟩⟩
theorem ok_pat {f : Addr} {fd : FuncData} (F : Fun K "is_patience" "is_patience" sPat f fd) (T : Nm mg) (CW : Cal P w K mg base 1 "is_whole" ["thing"] (spOne isWhole)) : FnOk P w K mg base CX0 2 f fd ["thing"] (spOne isPatience) := by
  refine F.ok scPat spOne_len (fun cdv A outer s H vs Q E hr h => ?_)
  obtain ⟨v, d, rfl, hR, q⟩ := h
  obtain ⟨tg, hgr⟩ := T.great
  refine ⟨_, pss_one (ps_ret (pe_or (pe_cmp (pc_isN (pv 0)) rfl) (pe_one (pe_and (pe_cal CW hr (by rfl) (pa_cons (pv 0) pa_nil))
    (pe_one (pe_chain op_le op_le pe_int (pv 0) (pe_glob (v := .int GREAT) (by rfl) hgr ⟨_, rfl⟩))))))), ?_⟩
  refine ⟨v, rfl, decide (v = .non), rfl, ite2 (fun e => ?_) (fun e => ?_)⟩
  · have ev : v = .non := of_decide_eq_true e
    subst ev
    cases hR
    exact q H (Same.refl H)
  · have nv : v ≠ .non := fun z => e (decide_eq_true z)
    refine ⟨v, rfl, v, d, rfl, hR, fun H1 s1 => ⟨isWhole d, rfl, ite2 (fun e2 => ?_) (fun e2 => ?_)⟩⟩
    · cases hR with
      | int i =>
        refine ⟨.int i, rfl, 0, i, rfl, rfl, decide (0 ≤ i), rfl, ite2 (fun e3 => ?_) (fun e3 => ?_)⟩
        · refine ⟨i, GREAT, rfl, rfl, ?_⟩
          have q' := q H1 s1
          have z : isPatience (.int i) = decide (i ≤ GREAT) := by
            show (decide (0 ≤ i) && decide (i ≤ GREAT)) = _
            rw [e3, Bool.true_and]
          rw [z] at q'
          exact q'
        · have q' := q H1 s1
          have z : isPatience (.int i) = false := by
            show (decide (0 ≤ i) && decide (i ≤ GREAT)) = _
            rw [Bool.eq_false_iff.mpr e3, Bool.false_and]
          rw [z] at q'
          exact q'
      | _ => exact absurd e2 Bool.false_ne_true
    · have q' := q H1 s1
      have z : isPatience d = false := by
        cases hR with
        | non => exact absurd rfl nv
        | int i => exact absurd rfl e2
        | _ => rfl
      rw [z] at q'
      exact q'
end
end CL
set_option Elab.async false
set_option linter.all false
set_option maxRecDepth 100000
set_option maxHeartbeats 1000000
namespace CL
open PySem PySem.Spec PyProof.Rows L2 GE
theorem all_take {p : PyData → Bool} {ds : List PyData} {i : Nat} {d : PyData} (h : ds[i]? = some d) : (ds.take (i + 1)).all p = ((ds.take i).all p && p d) := by
  rw [List.take_add_one, h, List.all_append]
  simp
theorem any_take {p : PyData → Bool} {ds : List PyData} {i : Nat} {d : PyData} (h : ds[i]? = some d) : (ds.take (i + 1)).any p = ((ds.take i).any p || p d) := by
  rw [List.take_add_one, h, List.any_append]
  simp
theorem all_false {p : PyData → Bool} {ds : List PyData} {i : Nat} {d : PyData} (h : ds[i]? = some d) (e : p d = false) : ds.all p = false := by
  rw [List.all_eq_false]
  exact ⟨d, List.mem_of_getElem? h, by rw [e]; exact Bool.false_ne_true⟩
theorem any_true {p : PyData → Bool} {ds : List PyData} {i : Nat} {d : PyData} (h : ds[i]? = some d) (e : p d = true) : ds.any p = true := by
  rw [List.any_eq_true]
  exact ⟨d, List.mem_of_getElem? h, e⟩
theorem rix_of {K : PySem.W.Frag} {H : Hp} {a : Addr} {xs : List V} {i : Nat} {v : V} {Q : VK} (s : StSeq H a xs) (e : xs[i]? = some v) (q : Q v H) : rIx K (.ref a) (.int (i : Int)) H Q := by
  rcases s.or with h | h
  · exact .inl ⟨a, xs, (i : Int), v, rfl, rfl, SqL.of h, atI_nat e, q⟩
  · exact .inr (.inl ⟨a, xs, (i : Int), v, rfl, rfl, SqT.of h, atI_nat e, q⟩)
theorem name_yes {i : Nat} {x : V} {σ : L2.St} {H : Hp} {A B : L2.St → Hp → Prop} (h : A (σ.set i (some x)) H) : gName i x σ H (fun σ2 H2 => tYes σ2 H2 fun b H3 => if b = true then A σ2 H3 else B σ2 H3) := by
  show if true = true then A (σ.set i (some x)) H else B (σ.set i (some x)) H
  exact iteT h
theorem nd1 {x : Str} : [x].Nodup := by simp
section
variable {P : Program} {w : World} {K : PySem.W.Frag} {mg : Str → Option Value} {base : Heap}
theorem ok_turns {f c P1 P2 : Addr} {fd : FuncData} (F : FunC K "is_turns" "is_turns" sTurns f fd c) (T : Nm mg) (TB : GxR.TabB base mg c P1) (CR : Cal P w K mg base 1 "is_row" ["thing"] (spOne isRow)) (CP : Cal P w K mg base 2 "is_patience" ["thing"] (spOne isPatience)) :
    FnOk P w K mg base CX0 4 f fd ["thing"] (spTab P1 P2 isTurns) := by
  refine F.ok scTurns spTab_len (fun A outer s H vs Q E hr h => ?_)
  obtain ⟨v, d, rfl, hR, hT, q⟩ := h
  obtain ⟨tl, hlo⟩ := T.longest
  refine ⟨_, pss_one (ps_ret (pe_and (pe_cal (CR.mono (by decide)) hr (by rfl) (pa_cons (pv 0) pa_nil))
    (pe_and (pe_chain op_le op_le pe_int (pe_callB call_len_seq (by rfl) T.len PySem.boot_len (pa_cons (pv 0) pa_nil)) (pe_glob (v := .int 8) (by rfl) hlo ⟨_, rfl⟩))
      (pe_one (pe_allG (N := ["patience"]) hr (by rfl) T.all TB rfl (by exact ⟨rfl, rfl, by decide +kernel, rfl⟩) (pi_seq (pv 0))
        (fun A s H C code fp pn rY => pg_name (i := 0) nd1 rfl (.inl rfl) (.inr rfl)) (fun A s H C code fp pn rY => pts_nil)
        (fun A s H C code fp pn rY => pe_cal CP rY (by rfl) (pa_cons (pv 0) pa_nil))))))), ?_⟩
  refine ⟨v, rfl, v, d, rfl, hR, fun H1 s1 => ⟨isRow d, rfl, ite2 (fun e => ?_) (fun e => ?_)⟩⟩
  · obtain ⟨ds, hds⟩ : ∃ ds, rowsD d = some ds := Option.isSome_iff_exists.mp e
    obtain ⟨a, xs, rfl, hA, hso⟩ := (Rp.ex (Ex.of s1) d v hR).rows hds
    have hst : StSeq H1 a xs := ⟨hso⟩
    have hlen := hA.length
    have val : isTurns d = (decide (1 ≤ ds.length) && decide (ds.length ≤ 8) && ds.all isPatience) := by
      unfold isTurns
      rw [hds]
    have hT1 := hT.same s1
    have no : ∀ {H2 : Hp}, Ex H1 H2 → Tb P1 P2 H2 → isTurns d = false → Q (.bl false) H2 := fun {H2} e2 t2 z => by
      have q' := q H2 ((Ex.of s1).trans e2) t2
      rw [z] at q'
      exact q'
    refine ⟨.ref a, rfl, a, xs, rfl, hst.sq, 1, xs.length, rfl, rfl, decide ((1 : Int) ≤ xs.length), rfl, ite2 (fun e1 => ?_) (fun e1 => ?_)⟩
    · refine ⟨xs.length, 8, rfl, rfl, decide ((xs.length : Int) ≤ 8), rfl, ite2 (fun e2 => ?_) (fun e2 => ?_)⟩
      · have l1 : 1 ≤ ds.length := by have := of_decide_eq_true e1; omega
        have l2 : ds.length ≤ 8 := by have := of_decide_eq_true e2; omega
        refine ⟨.ref a, rfl, a, xs, rfl, hst, fun J hJ => ⟨hT1.1, fun H2 tb => ⟨_, ⟨xs.length, rfl, Nat.zero_le _, ex_tabbed hT1.1 tb, hT1.tab1 tb, rfl⟩, turn_by (xs := xs) (fun _ i H => Ex H1 H ∧ Tb P1 P2 H ∧ (ds.take i).all isPatience = true)
          (fun _ i H ⟨eH, _, _⟩ => hJ H eH) (fun _ i x H hx ⟨eH, tH, aH⟩ => ?_) (fun _ H ⟨eH, tH, aH⟩ => ?_)⟩⟩⟩
        · obtain ⟨dx, hdx, hRx⟩ := hA.get hx
          refine name_yes ?_
          refine ⟨x, rfl, x, dx, rfl, Rp.ex eH dx x hRx, fun H4 s4 => ⟨isPatience dx, rfl, ite2 (fun e4 => ?_) (fun e4 => ?_)⟩⟩
          · exact ⟨eH.trans (Ex.of s4), tH.same s4, by rw [all_take hdx, aH, e4]; rfl⟩
          · refine no (eH.trans (Ex.of s4)) (tH.same s4) ?_
            rw [val, all_false hdx (Bool.eq_false_iff.mpr e4), Bool.and_false]
        · have q' := q H ((Ex.of s1).trans eH) tH
          rw [hlen, List.take_length] at aH
          rw [val, aH, decide_eq_true l1, decide_eq_true l2] at q'
          exact q'
      · refine no (Ex.refl H1) hT1 ?_
        have l2 : ¬ ds.length ≤ 8 := fun z => e2 (decide_eq_true (by omega))
        rw [val, decide_eq_false l2, Bool.and_false, Bool.false_and]
    · refine ⟨false, rfl, iteF (no (Ex.refl H1) hT1 ?_)⟩
      have l1 : ¬ 1 ≤ ds.length := fun z => e1 (decide_eq_true (by omega))
      rw [val, decide_eq_false l1, Bool.false_and, Bool.false_and]
  · have z : isTurns d = false := by
      unfold isTurns
      cases hds : rowsD d with
      | none => rfl
      | some ds => exact absurd (by unfold isRow; rw [hds]; rfl) e
    have q' := q H1 (Ex.of s1) (hT.same s1)
    rw [z] at q'
    exact q'
theorem two_of {α : Type} {xs : List α} (h : xs.length = 2) : ∃ x y, xs = [x, y] := match xs, h with
  | [x, y], _ => ⟨x, y, rfl⟩
theorem isPiece_two {d t m : PyData} (h : rowsD d = some [t, m]) : isPiece d = (isTurns t && isMany m) := by
  unfold isPiece
  rw [h]
theorem isPiece_not {d : PyData} {ds : List PyData} (h : rowsD d = some ds) (n : ds.length ≠ 2) : isPiece d = false := by
  unfold isPiece
  rw [h]
  match ds, n with
  | [], _ => rfl
  | [_], _ => rfl
  | [_, _], n => exact absurd rfl n
  | _ :: _ :: _ :: _, _ => rfl
theorem ok_piece {f P1 P2 : Addr} {fd : FuncData} (F : Fun K "is_piece" "is_piece" sPiece f fd) (T : Nm mg) (CW : Cal P w K mg base 1 "is_whole" ["thing"] (spOne isWhole)) (CR : Cal P w K mg base 1 "is_row" ["thing"] (spOne isRow)) (CT : Cal P w K mg base 4 "is_turns" ["thing"] (spTab P1 P2 isTurns)) :
    FnOk P w K mg base CX0 5 f fd ["thing"] (spTab P1 P2 isPiece) := by
  refine F.ok scPiece spTab_len (fun cdv A outer s H vs Q E hr h => ?_)
  obtain ⟨v, d, rfl, hR, hT, q⟩ := h
  refine ⟨_, pss_cons (ps_if (PW.pt (pw_or (pt_not (pt_val (pe_cal (CR.mono (by decide)) hr (by rfl) (pa_cons (pv 0) pa_nil))))
      (pw_or (pt_cmpR op_ne (pe_callB call_len_seq (by rfl) T.len PySem.boot_len (pa_cons (pv 0) pa_nil)) pe_int (nomark _))
        (pw_or1 (pt_not (pt_val (pe_cal CT hr (by rfl) (pa_cons (pe_ix ix_seq (pv 0) pe_int (fun _ _ => rfl)) pa_nil)))))))) (pss_one (ps_ret pe_bl)) pss_nil)
    (pss_one (ps_ret (pe_or (pe_cmp (pc_isN (pe_ix ix_seq (pv 0) pe_int (fun _ _ => rfl))) rfl)
      (pe_one (pe_and (pe_cal (CW.mono (by decide)) hr (by rfl) (pa_cons (pe_ix ix_seq (pv 0) pe_int (fun _ _ => rfl)) pa_nil)) (pe_one (pe_cmpR op_ge (pe_ix ix_seq (pv 0) pe_int (fun _ _ => rfl)) pe_int (nomark _)))))))), ?_⟩
  refine ⟨v, rfl, v, d, rfl, hR, fun H1 s1 => ⟨isRow d, rfl, ?_⟩⟩
  have hT1 := hT.same s1
  have at_ : ∀ {H2 : Hp} {b : Bool}, Ex H1 H2 → Tb P1 P2 H2 → isPiece d = b → Q (.bl b) H2 := fun {H2 b} e2 t2 z => by
    have q' := q H2 ((Ex.of s1).trans e2) t2
    rw [z] at q'
    exact q'
  cases hds : rowsD d with
  | none =>
    have e0 : isRow d = false := by unfold isRow; rw [hds]; rfl
    rw [e0]
    exact iteT (iteT (at_ (Ex.refl H1) hT1 (by unfold isPiece; rw [hds])))
  | some ds =>
    have e0 : isRow d = true := by unfold isRow; rw [hds]; rfl
    rw [e0]
    obtain ⟨a, xs, rfl, hA, hso⟩ := (Rp.ex (Ex.of s1) d v hR).rows hds
    have hst : StSeq H1 a xs := ⟨hso⟩
    have hlen := hA.length
    refine iteF ⟨.ref a, rfl, a, xs, rfl, hst.sq, rfl, _, rfl, ?_⟩
    by_cases h2 : ds.length = 2
    · have e1 : decide (V.int (xs.length : Int) = V.int 2) = true := decide_eq_true (by rw [hlen, h2]; rfl)
      refine ite2 (fun z => absurd z (by rw [e1]; exact Bool.false_ne_true)) (fun _ => ?_)
      obtain ⟨t, m, rfl⟩ := two_of h2
      obtain ⟨vt, vm, rfl⟩ := two_of (hlen.trans h2)
      cases hA with
      | cons ht hA2 =>
        cases hA2 with
        | cons hm _ =>
          refine ⟨.ref a, rfl, rix_of (i := 0) hst rfl ⟨vt, t, rfl, ht, hT1, fun H2 e2 t2 => ⟨isTurns t, rfl, ?_⟩⟩⟩
          have val := isPiece_two hds
          cases ht2 : isTurns t with
          | false => exact iteT (at_ e2 t2 (by rw [val, ht2]; rfl))
          | true =>
            refine iteF ⟨.ref a, rfl, rix_of (i := 1) (hst.ex e2) rfl ⟨decide (vm = .non), rfl, ite2 (fun e3 => ?_) (fun e3 => ?_)⟩⟩
            · have ev : vm = .non := of_decide_eq_true e3
              subst ev
              cases hm
              exact at_ e2 t2 (by rw [val, ht2]; rfl)
            · have nv : vm ≠ .non := fun z => e3 (decide_eq_true z)
              refine ⟨.ref a, rfl, rix_of (i := 1) (hst.ex e2) rfl ⟨vm, m, rfl, Rp.ex e2 m vm hm, fun H3 s3 => ⟨isWhole m, rfl, ite2 (fun e4 => ?_) (fun e4 => ?_)⟩⟩⟩
              · cases hm with
                | int i =>
                  refine ⟨.ref a, rfl, rix_of (i := 1) ((hst.ex e2).ex (Ex.of s3)) rfl ⟨i, 0, rfl, rfl, at_ (e2.trans (Ex.of s3)) (t2.same s3) ?_⟩⟩
                  rw [val, ht2]
                  rfl
                | _ => exact absurd e4 Bool.false_ne_true
              · refine at_ (e2.trans (Ex.of s3)) (t2.same s3) ?_
                rw [val, ht2]
                cases hm with
                | non => exact absurd rfl nv
                | int i => exact absurd rfl e4
                | _ => rfl
    · have e1 : decide (V.int (xs.length : Int) = V.int 2) = false := decide_eq_false fun z => h2 (by have := V.int.inj z; omega)
      refine ite2 (fun _ => iteT (at_ (Ex.refl H1) hT1 (isPiece_not hds h2))) (fun z => absurd (by rw [e1]; rfl) z)
end
end CL
set_option Elab.async false
set_option linter.all false
set_option maxRecDepth 100000
set_option maxHeartbeats 2000000
namespace CL
open PySem PySem.Spec PyProof.Rows L2 GE
theorem piece_parts {d : PyData} (h : isPiece d = true) : ∃ t m, rowsD d = some [t, m] ∧ isTurns t = true ∧ isMany m = true := by
  unfold isPiece at h
  split at h
  · rename_i t m e
    rw [Bool.and_eq_true] at h
    exact ⟨t, m, e, h.1, h.2⟩
  · cases h
theorem sndD_two {d t m : PyData} (h : rowsD d = some [t, m]) : sndD d = m := by
  unfold sndD
  rw [h]
theorem rp_none {H : Hp} {v : V} {m : PyData} (h : Rp H v m) : decide (v = .non) = isNone m := by
  cases h <;> first | rfl | exact decide_eq_false nofun
theorem all_get {p : PyData → Bool} {ds : List PyData} {i : Nat} {d : PyData} (h : ds.all p = true) (e : ds[i]? = some d) : p d = true := List.all_eq_true.mp h d (List.mem_of_getElem? e)
theorem sum_step {ds : List PyData} {i : Nat} {d : PyData} (h : ds[i]? = some d) : sumSnd (ds.take (i + 1)) = sumSnd (ds.take i) + worth (sndD d) := by
  unfold sumSnd
  rw [List.take_add_one, h, List.map_append, List.sum_append]
  simp
theorem cut_last (xs : List V) : cutV xs none (some (-1)) = xs.take (xs.length - 1) := by
  unfold cutV
  have e0 : HT.sIx xs.length 0 none = 0 := rfl
  have e1 : HT.sIx xs.length xs.length (some (-1)) = xs.length - 1 := by
    show (if (-1 : Int) < 0 then ((-1 : Int) + (xs.length : Int)).toNat else min (-1 : Int).toNat xs.length) = _
    rw [if_pos (by decide)]
    omega
  rw [e0, e1, List.drop_zero, Nat.sub_zero]
theorem ix_gx {X : Cx} {A : Around} {N : List Str} {s : Shared} {H : Hp} {cenv : Env} {fp : List Addr} {pn : List (Addr × Obj)} : IxR (gx X A N s H cenv fp pn) (rIx X.K) := ix_seq
/-- the second of a piece that stands -/
theorem piece_at {H : Hp} {x : V} {d : PyData} (hp : isPiece d = true) (hR : Rp H x d) : ∃ b vt vm m, x = .ref b ∧ StSeq H b [vt, vm] ∧ Rp H vm m ∧ sndD d = m ∧ isMany m = true := by
  obtain ⟨t, m, e, _, hm⟩ := piece_parts hp
  obtain ⟨b, ys, rfl, hA, hso⟩ := hR.rows e
  obtain ⟨vt, vm, rfl⟩ := two_of hA.length
  cases hA with
  | cons h1 h2 =>
    cases h2 with
    | cons h3 _ => exact ⟨b, vt, vm, m, rfl, ⟨hso⟩, h3, sndD_two e, hm⟩
section
variable {P : Program} {w : World} {K : PySem.W.Frag} {mg : Str → Option Value} {base : Heap}
theorem ok_plan {f c P1 P2 : Addr} {fd : FuncData} (F : FunC K "is_plan" "is_plan" sPlan f fd c) (T : Nm mg) (TB : GxR.TabB base mg c P2) (CR : Cal P w K mg base 1 "is_row" ["thing"] (spOne isRow)) (CP : Cal P w K mg base 5 "is_piece" ["thing"] (spTab P1 P2 isPiece)) :
    FnOk P w K mg base CX0 7 f fd ["thing"] (spTab P1 P2 isPlan) := by
  refine F.ok scPlan spTab_len (fun A outer s H vs Q E hr h => ?_)
  obtain ⟨v, d, rfl, hR, hT, q⟩ := h
  obtain ⟨tl, hlo⟩ := T.longest
  obtain ⟨tg, hgr⟩ := T.great
  refine ⟨_, pss_cons (ps_if (PW.pt (pw_or (pt_not (pt_val (pe_cal (CR.mono (by decide)) hr (by rfl) (pa_cons (pv 0) pa_nil))))
      (pw_or1 (pt_not (pt_chain op_le op_le pe_int (pe_callB call_len_seq (by rfl) T.len PySem.boot_len (pa_cons (pv 0) pa_nil)) (pe_glob (v := .int 8) (by rfl) hlo ⟨_, rfl⟩)))))) (pss_one (ps_ret pe_bl)) pss_nil)
    (pss_cons (ps_if (pt_not (pt_val (pe_allG (N := ["piece"]) hr (by rfl) T.all TB rfl (by exact ⟨rfl, rfl, by decide +kernel, rfl⟩) (pi_seq (pv 0))
        (fun A s H C code fp pn rY => pg_name (i := 0) nd1 rfl (.inl rfl) (.inr rfl)) (fun A s H C code fp pn rY => pts_nil)
        (fun A s H C code fp pn rY => pe_cal CP rY (by rfl) (pa_cons (pv 0) pa_nil))))) (pss_one (ps_ret pe_bl)) pss_nil)
    (pss_cons (ps_if (pt_val (pe_anyG (N := ["piece"]) hr (by rfl) T.any TB rfl (by exact ⟨rfl, rfl, by decide +kernel, rfl⟩) (pi_seq (pe_slice (SlR.or sl_list sl_tup) (pv 0) po_none (po_some (pe_un un_neg pe_int))))
        (fun A s H C code fp pn rY => pg_name (i := 0) nd1 rfl (.inl rfl) (.inr rfl)) (fun A s H C code fp pn rY => pts_nil)
        (fun A s H C code fp pn rY => pe_cmp (pc_isN (pe_ix ix_gx (pv 0) pe_int (fun _ _ => rfl))) rfl))) (pss_one (ps_ret pe_bl)) pss_nil)
    (pss_one (ps_ret (pe_cmpR op_le (pe_sumG (N := ["piece"]) hr (by rfl) T.sum TB rfl (by exact ⟨rfl, rfl, by decide +kernel, rfl⟩) (pi_seq (pv 0))
        (fun A s H C code fp pn rY => pg_name (i := 0) nd1 rfl (.inl rfl) (.inr rfl)) (fun A s H C code fp pn rY => pts_one (pt_cmp (pc_notN (pe_ix ix_gx (pv 0) pe_int (fun _ _ => rfl)))))
        (fun A s H C code fp pn rY => pe_ix ix_gx (pv 0) pe_int (fun _ _ => rfl))) (pe_glob (v := .int GREAT) (by rfl) hgr ⟨_, rfl⟩) (nomark _)))))), ?_⟩
  refine ⟨v, rfl, v, d, rfl, hR, fun H1 s1 => ⟨isRow d, rfl, ?_⟩⟩
  have hT1 := hT.same s1
  have at_ : ∀ {H2 : Hp} {b : Bool}, Ex H1 H2 → Tb P1 P2 H2 → isPlan d = b → Q (.bl b) H2 := fun {H2 b} e2 t2 z => by
    have q' := q H2 ((Ex.of s1).trans e2) t2
    rw [z] at q'
    exact q'
  cases hds : rowsD d with
  | none =>
    have e0 : isRow d = false := by unfold isRow; rw [hds]; rfl
    rw [e0]
    exact iteT (iteT (at_ (Ex.refl H1) hT1 (by unfold isPlan; rw [hds])))
  | some ds =>
    have e0 : isRow d = true := by unfold isRow; rw [hds]; rfl
    rw [e0]
    obtain ⟨a, xs, rfl, hA, hso⟩ := (Rp.ex (Ex.of s1) d v hR).rows hds
    have hst : StSeq H1 a xs := ⟨hso⟩
    have hlen := hA.length
    have val : isPlan d = (decide (1 ≤ ds.length) && decide (ds.length ≤ 8) && ds.all isPiece && !((ds.take (ds.length - 1)).any fun d => isNone (sndD d)) && decide (sumSnd ds ≤ GREAT)) := by
      unfold isPlan
      rw [hds]
      rfl
    refine iteF ⟨.ref a, rfl, a, xs, rfl, hst.sq, 1, xs.length, rfl, rfl, decide ((1 : Int) ≤ xs.length), rfl, ite2 (fun e1 => ?_) (fun e1 => ?_)⟩
    · have l1 : 1 ≤ ds.length := by have := of_decide_eq_true e1; omega
      refine ⟨xs.length, 8, rfl, rfl, decide ((xs.length : Int) ≤ 8), rfl, ?_⟩
      by_cases l2 : ds.length ≤ 8
      · have e2 : decide ((xs.length : Int) ≤ 8) = true := decide_eq_true (by omega)
        rw [e2]
        refine iteF ?_
        -- all
        refine ⟨.ref a, rfl, a, xs, rfl, hst, fun J hJ => ⟨hT1.2, fun H2 tb => ⟨_, ⟨xs.length, rfl, Nat.zero_le _, ex_tabbed hT1.2 tb, hT1.tab2 tb, rfl⟩, turn_by (xs := xs) (fun _ i H => Ex H1 H ∧ Tb P1 P2 H ∧ (ds.take i).all isPiece = true)
          (fun _ i H ⟨eH, _, _⟩ => hJ H eH) (fun _ i x H hx ⟨eH, tH, aH⟩ => ?_) (fun _ H ⟨eH, tH, pH⟩ => ?_)⟩⟩⟩
        · obtain ⟨dx, hdx, hRx⟩ := hA.get hx
          refine name_yes ?_
          refine ⟨x, rfl, x, dx, rfl, Rp.ex eH dx x hRx, tH, fun H4 e4 t4 => ⟨isPiece dx, rfl, ite2 (fun e5 => ?_) (fun e5 => ?_)⟩⟩
          · exact ⟨eH.trans e4, t4, by rw [all_take hdx, aH, e5]; rfl⟩
          · refine ⟨false, rfl, iteT (at_ (eH.trans e4) t4 ?_)⟩
            rw [val, all_false hdx (Bool.eq_false_iff.mpr e5), Bool.and_false, Bool.false_and, Bool.false_and]
        · rw [hlen, List.take_length] at pH
          refine ⟨true, rfl, iteF ?_⟩
          have hA' : RpAll H1 (xs.take (xs.length - 1)) (ds.take (ds.length - 1)) := by
            have z := hA.take (xs.length - 1)
            rw [show ds.take (xs.length - 1) = ds.take (ds.length - 1) by rw [hlen]] at z
            exact z
          have hp' : (ds.take (ds.length - 1)).all isPiece = true := by
            rw [List.all_eq_true]
            intro y hy
            exact List.all_eq_true.mp pH y (List.mem_of_mem_take hy)
          have hl' : (xs.take (xs.length - 1)).length = (ds.take (ds.length - 1)).length := hA'.length
          -- the walk, wherever the cut stands
          have walk : ∀ (p : Addr) (H3 : Hp), StSeq H3 p (xs.take (xs.length - 1)) → Ex H1 H3 → Tb P1 P2 H3 → ∀ QB : Bool → Hp → Prop,
              (∀ H', Ex H1 H' → Tb P1 P2 H' → QB ((ds.take (ds.length - 1)).any fun d => isNone (sndD d)) H') →
              ∀ J, (∀ H2, Ex H3 H2 → StandsAs K p (xs.take (xs.length - 1)) J H2) → GxR.TabG H3 P2 ∧ ∀ H2, GxR.Tabbed P2 H3 H2 →
                ∃ W : Unit → Nat → Nat → Hp → Prop, (∃ m, W () 0 m H2) ∧ TurnOf J 1 (gName 0) tYes (tIsN (tOp (rIx K) (tVar 0) (tC (.int 1)))) (outAny QB) (fun _ H => QB false H) W := by
            intro p H3 st3 e3 t3 QB hQB J hJ
            refine ⟨t3.2, fun H2 tb => ⟨_, ⟨(xs.take (xs.length - 1)).length, rfl, Nat.zero_le _, ex_tabbed t3.2 tb, t3.tab2 tb, rfl⟩, turn_by (xs := xs.take (xs.length - 1)) (fun _ i H => Ex H3 H ∧ Tb P1 P2 H ∧ ((ds.take (ds.length - 1)).take i).any (fun d => isNone (sndD d)) = false)
              (fun _ i H ⟨eH, _, _⟩ => hJ H eH) (fun _ i x H hx ⟨eH, tH, aH⟩ => ?_) (fun _ H ⟨eH, tH, aH⟩ => ?_)⟩⟩
            · obtain ⟨dx, hdx, hRx⟩ := hA'.get hx
              obtain ⟨b, vt, vm, m, rfl, stb, hRm, hsn, _⟩ := piece_at (all_get hp' hdx) (Rp.ex (e3.trans eH) dx x hRx)
              refine name_yes ?_
              refine ⟨.ref b, rfl, rix_of (i := 1) stb rfl ⟨decide (vm = .non), rfl, ite2 (fun e5 => ?_) (fun e5 => ?_)⟩⟩
              · have z := hQB H (e3.trans eH) tH
                rw [any_true (p := fun d => isNone (sndD d)) hdx (by rw [hsn, ← rp_none hRm]; exact e5)] at z
                exact z
              · refine ⟨eH, tH, ?_⟩
                rw [any_take hdx, aH, hsn, ← rp_none hRm, Bool.eq_false_iff.mpr e5]
                rfl
            · rw [hl', List.take_length] at aH
              have z := hQB H (e3.trans eH) tH
              rw [aH] at z
              exact z
          -- the sum
          have sums : ∀ (H3 : Hp), Ex H1 H3 → Tb P1 P2 H3 → ∀ QI : Int → Hp → Prop, (∀ H', Ex H1 H' → Tb P1 P2 H' → QI (sumSnd ds) H') →
              ∀ J, (∀ H2, Ex H3 H2 → StandsAs K a xs J H2) → GxR.TabG H3 P2 ∧ ∀ H2, GxR.Tabbed P2 H3 H2 →
                ∃ W : Int → Nat → Nat → Hp → Prop, (∃ m, W 0 0 m H2) ∧ TurnOf J 1 (gName 0) (tB (tNotN (tOp (rIx K) (tVar 0) (tC (.int 1))))) (tOp (rIx K) (tVar 0) (tC (.int 1))) outSum (fun a H => QI a H) W := by
            intro H3 e3 t3 QI hQI J hJ
            refine ⟨t3.2, fun H2 tb => ⟨_, ⟨xs.length, rfl, Nat.zero_le _, ex_tabbed t3.2 tb, t3.tab2 tb, rfl⟩, turn_by (xs := xs) (fun z i H => Ex H3 H ∧ Tb P1 P2 H ∧ z = sumSnd (ds.take i))
              (fun _ i H ⟨eH, _, _⟩ => hJ H eH) (fun z i x H hx ⟨eH, tH, aH⟩ => ?_) (fun z H ⟨eH, tH, zH⟩ => ?_)⟩⟩
            · obtain ⟨dx, hdx, hRx⟩ := hA.get hx
              obtain ⟨b, vt, vm, m, rfl, stb, hRm, hsn, hmm⟩ := piece_at (all_get pH hdx) (Rp.ex (e3.trans eH) dx x hRx)
              refine ⟨.ref b, rfl, rix_of (i := 1) stb rfl ⟨!decide (vm = .non), rfl, ite2 (fun e5 => ?_) (fun e5 => ?_)⟩⟩
              · refine ⟨.ref b, rfl, rix_of (i := 1) stb rfl ?_⟩
                cases hRm with
                | int j => exact ⟨j, rfl, eH, tH, by rw [sum_step hdx, hsn, aH]; rfl⟩
                | non => exact absurd e5 (by decide)
                | _ => cases hmm
              · refine ⟨eH, tH, ?_⟩
                rw [sum_step hdx, hsn, aH]
                cases hRm with
                | non => exact (Int.add_zero _).symm
                | _ => exact absurd rfl e5
            · rw [hlen, List.take_length] at zH
              subst zH
              exact hQI H (e3.trans eH) tH
          have hst2 := hst.ex eH
          have fin : ∀ (H' : Hp), Ex H1 H' → Tb P1 P2 H' → ((ds.take (ds.length - 1)).any fun d => isNone (sndD d)) = false → isPlan d = decide (sumSnd ds ≤ GREAT) := fun H' _ _ z => by
            rw [val, decide_eq_true l1, decide_eq_true l2, pH, z]
            rfl
          have bad : ∀ (H' : Hp), Ex H1 H' → Tb P1 P2 H' → ((ds.take (ds.length - 1)).any fun d => isNone (sndD d)) = true → Q (.bl false) H' := fun H' e' t' z => at_ e' t' (by
            rw [val, z]
            simp)
          refine ⟨.ref a, rfl, 1, rfl, -1, rfl, ?_⟩
          rcases hst2.or with hq | hq
          · refine .inl ⟨a, xs, rfl, SqL.of hq, fun p np => ?_⟩
            have st3 : StSeq (upd H p (.lst (cutV xs none (some (-1))))) p (xs.take (xs.length - 1)) := ⟨.inl (by rw [upd_same, cut_last])⟩
            refine ⟨p, _, rfl, st3, walk p _ st3 (eH.trans (Ex.new np)) (tH.same (same_upd np)) _ fun H' e' t' => ?_⟩
            refine ⟨_, rfl, ite2 (fun e5 => bad H' e' t' e5) (fun e5 => ?_)⟩
            refine ⟨.ref a, rfl, a, xs, rfl, hst.ex e', sums H' e' t' _ fun H'' e'' t'' => ⟨sumSnd ds, GREAT, rfl, rfl, at_ e'' t'' (fin H'' e'' t'' (Bool.eq_false_iff.mpr e5))⟩⟩
          · refine .inr ⟨a, xs, rfl, SqT.of hq, ?_, fun p np => ?_⟩
            · intro z
              have z2 : HT.sIx xs.length xs.length (some (-1)) = xs.length - 1 := by
                show (if (-1 : Int) < 0 then ((-1 : Int) + (xs.length : Int)).toNat else min (-1 : Int).toNat xs.length) = _
                rw [if_pos (by decide)]
                omega
              have z3 := z.2
              rw [z2] at z3
              omega
            have st3 : StSeq (upd H p (.tup (cutV xs none (some (-1))))) p (xs.take (xs.length - 1)) := ⟨.inr (by rw [upd_same, cut_last])⟩
            refine ⟨p, _, rfl, st3, walk p _ st3 (eH.trans (Ex.new np)) (tH.same (same_upd np)) _ fun H' e' t' => ?_⟩
            refine ⟨_, rfl, ite2 (fun e5 => bad H' e' t' e5) (fun e5 => ?_)⟩
            refine ⟨.ref a, rfl, a, xs, rfl, hst.ex e', sums H' e' t' _ fun H'' e'' t'' => ⟨sumSnd ds, GREAT, rfl, rfl, at_ e'' t'' (fin H'' e'' t'' (Bool.eq_false_iff.mpr e5))⟩⟩
      · have e2 : decide ((xs.length : Int) ≤ 8) = false := decide_eq_false (by omega)
        rw [e2]
        refine iteT (at_ (Ex.refl H1) hT1 ?_)
        rw [val, decide_eq_false l2, Bool.and_false, Bool.false_and, Bool.false_and, Bool.false_and]
    · have l1 : ¬ 1 ≤ ds.length := fun z => e1 (decide_eq_true (by omega))
      refine ⟨false, rfl, iteT (at_ (Ex.refl H1) hT1 ?_)⟩
      rw [val, decide_eq_false l1, Bool.false_and, Bool.false_and, Bool.false_and, Bool.false_and]
end
end CL
set_option Elab.async false
set_option linter.all false
set_option maxRecDepth 100000
set_option maxHeartbeats 4000000
namespace CL
open PySem PySem.Spec PyProof.Rows L2 GE
theorem p18 : (10 : Int) ^ (18 : Int).toNat = 1000000000000000000 := by decide +kernel
theorem p30 : (10 : Int) ^ (30 : Int).toNat = GREAT := by decide +kernel
theorem same_ne {H H' : Hp} (s : Same H H') {p b : Addr} (np : H' p = none) (hb : H b ≠ none) : b ≠ p := fun z => by
  rw [z] at hb
  cases q : H p with
  | none => exact hb q
  | some o =>
    rw [s p o q] at np
    cases np
theorem ints_dp {K : PySem.W.Frag} {H : Hp} : ∀ gs : List Int, DpAll K H (gs.map V.int) (gs.map PyData.int)
  | [] => .nil
  | x :: gs => .cons (.int x) (ints_dp gs)
theorem ints_lay : ∀ gs : List Int, PyData.canLayAll0 (gs.map PyData.int) = true
  | [] => by simp [PyData.canLayAll0]
  | x :: gs => by
    have := ints_lay gs
    simp [PyData.canLayAll0, PyData.canLay0, this]
theorem ints_depth : ∀ gs : List Int, PyData.depthAll (gs.map PyData.int) = 0
  | [] => rfl
  | x :: gs => by
    have := ints_depth gs
    show max 0 (PyData.depthAll (gs.map PyData.int)) = 0
    rw [this]
    rfl
theorem ints_shaped (gs : List Int) : SeqAt.shaped (.list (gs.map PyData.int)) = true := by
  unfold SeqAt.shaped
  have h1 : PyData.canLay0 (.list (gs.map PyData.int)) = true := by
    have := ints_lay gs
    simp [PyData.canLay0, this]
  have h2 : PyData.depth (.list (gs.map PyData.int)) = 1 := by
    show PyData.depthAll (gs.map PyData.int) + 1 = 1
    rw [ints_depth]
  rw [h1, h2]
  rfl
theorem ints_take (gs : List Int) (k : Nat) : (gs.map V.int).take k = (gs.take k).map V.int := List.map_take.symm
theorem cut_to (xs : List V) (k : Nat) : cutV xs none (some (k : Int)) = xs.take k := by
  unfold cutV
  have e0 : HT.sIx xs.length 0 none = 0 := rfl
  have e1 : HT.sIx xs.length xs.length (some (k : Int)) = min k xs.length := HT.sIx_nat _ _ _
  rw [e0, e1, List.drop_zero, Nat.sub_zero]
  rcases Nat.le_total k xs.length with h | h
  · rw [Nat.min_eq_left h]
  · rw [Nat.min_eq_right h, List.take_of_length_le h, List.take_of_length_le (Nat.le_refl _)]
theorem cut_from (xs : List V) (k : Nat) : cutV xs (some (k : Int)) none = xs.drop k := by
  unfold cutV
  have e0 : HT.sIx xs.length 0 (some (k : Int)) = min k xs.length := HT.sIx_nat _ _ _
  have e1 : HT.sIx xs.length xs.length none = xs.length := rfl
  rw [e0, e1]
  rcases Nat.le_total k xs.length with h | h
  · rw [Nat.min_eq_left h]
    exact List.take_of_length_le (by rw [List.length_drop]; exact Nat.le_refl _)
  · rw [Nat.min_eq_right h, List.drop_of_length_le (Nat.le_refl _), List.drop_of_length_le h]
    simp
theorem small_add {a b : Nat} (ha : a ≤ 1000) (hb : b ≤ 1000) : a + b ≤ sizeLine := by
  have : 2000 ≤ sizeLine := by decide
  omega
theorem small_le {a : Nat} (ha : a ≤ 1000) : a ≤ sizeLine := by
  have : 1000 ≤ sizeLine := by decide
  omega
theorem yesT {σ : L2.St} {H : Hp} {A B : Hp → Prop} (h : A H) : tYes σ H (fun b H3 => if b = true then A H3 else B H3) := by
  show if true = true then A H else B H
  exact iteT h
open Classical in
noncomputable def Hw (W : Addr → Prop) (H : Hp) : Hp := fun b => if W b then none else H b
theorem Hw.at {W : Addr → Prop} {H : Hp} {b : Addr} (n : ¬ W b) : Hw W H b = H b := by
  unfold Hw
  rw [if_neg n]
theorem Hw.ne {W : Addr → Prop} {H : Hp} {b : Addr} {o : HO} (e : Hw W H b = some o) : ¬ W b := fun z => by
  unfold Hw at e
  rw [if_pos z] at e
  cases e
theorem Hw.sub (W : Addr → Prop) (H : Hp) : Same (Hw W H) H := fun b o e => by rw [Hw.at (Hw.ne e)] at e; exact e
theorem Hw.less {W W' : Addr → Prop} {H : Hp} (h : ∀ b, W b → W' b) : Same (Hw W' H) (Hw W H) := fun b o e => by
  rw [Hw.at fun z => Hw.ne e (h b z)]
  exact Hw.sub W' H b o e
theorem Hw.more {W W' : Addr → Prop} {H : Hp} (h : ∀ b, W' b → W b ∨ H b = none) : Same (Hw W H) (Hw W' H) := fun b o e => by
  have e1 := Hw.sub W H b o e
  rw [Hw.at fun z => (h b z).elim (Hw.ne e) fun q => by rw [q] at e1; cases e1]
  exact e1
theorem hw_upd {W : Addr → Prop} {a : Addr} {H : Hp} {o : HO} (h : W a) : Hw W (upd H a o) = Hw W H := by
  funext b
  by_cases hb : W b
  · unfold Hw
    rw [if_pos hb, if_pos hb]
  · rw [Hw.at hb, Hw.at hb, upd_ne fun z => hb (by rw [z]; exact h)]
theorem Same.hw {W : Addr → Prop} {H H' : Hp} (m : Same H H') : Same (Hw W H) (Hw W H') := fun b o e => by
  rw [Hw.at (Hw.ne e)]
  exact m b o (Hw.sub W H b o e)
theorem Rp.sm {H H' : Hp} (s : Same H H') {v : V} {d : PyData} (h : Rp H v d) : Rp H' v d := Rp.ex (Ex.of s) d v h
theorem RpAll.sm {H H' : Hp} (s : Same H H') {vs : List V} {ds : List PyData} (h : RpAll H vs ds) : RpAll H' vs ds := RpAll.ex (Ex.of s) ds vs h
theorem RpAll.snoc {H : Hp} : ∀ {vs : List V} {ds : List PyData} {v : V} {d : PyData}, RpAll H vs ds → Rp H v d → RpAll H (vs ++ [v]) (ds ++ [d])
  | _, _, _, _, .nil, h => .cons h .nil
  | _, _, _, _, .cons a b, h => .cons a (RpAll.snoc b h)
end CL
set_option Elab.async false
set_option linter.all false
set_option maxRecDepth 100000
set_option maxHeartbeats 4000000
namespace CL
open PySem PySem.Spec PyProof.Rows L2 GE
/-! ### a, b = a list or a tuple -/
def gSeq (K : PySem.W.Frag) (n : Nat) (t : TGs) : TG := fun v σ H Q => ∃ a xs, v = .ref a ∧ StSeq H a xs ∧ xs.length = n ∧ t xs σ H Q
theorem pg_seq {X : Cx} {pos : Pos} {es : List Expr} {k : Nat} {t : TGs} {n : Nat} (hc : X.calm = true) (h : PGs X es t) (hn : (assignEach es X.env).length = n := by rfl) (hst : (assignEach es X.env).findIdx? (·.1) = none := by rfl) :
    PG X (.Tuple es k pos) (gSeq X.K n t) := by
  refine ⟨fun pins s σ H v u Q I r hw => ?_⟩
  obtain ⟨a, xs, e, hs, hl, q⟩ := hw
  rcases hs.or with hq | hq
  · exact (pg_lst hc h hn hst).run pins s σ H v u Q I r ⟨a, xs, e, SqL.of hq, hl, q⟩
  · exact (pg_tup hc h hn hst).run pins s σ H v u Q I r ⟨a, xs, e, SqT.of hq, hl, q⟩
/-! ### for x in a list or a tuple -/
def iSeqW (K : PySem.W.Frag) (tl : TE) : TI := fun σ H R => tl σ H fun x H1 => ∃ a xs, x = .ref a ∧ StSeq H1 a xs ∧ ∀ J, (∀ H2, (∀ o, H1 a = some o → H2 a = some o) → StandsAs K a xs J H2) → R J H1
theorem pi_seqW {X : Cx} {tg l : Expr} {tl : TE} (hl : PE X l tl) : PI X tg l (iSeqW X.K tl) := by
  refine ⟨fun pins s σ H R I h => thn (hl.run pins s σ H _ I h) fun v s1 ⟨x, H1, I1, r1, a, xs, e, st, q⟩ => ?_⟩
  subst e
  cases r1
  have new : ∀ b ∈ [s1.heap.objs.size], FpOk X pins H1 b := fun b hb => by
    rw [List.mem_singleton.mp hb]
    exact I1.fpOk (Nat.le_refl _) (I1.hok.fresh (Nat.le_refl _))
  have kept := fun {o : Obj} => I1.kept (h' := s1.heap.push o) (t' := s1.toks) fun b o' e => Heap.get?_push_of_some _ e
  rcases st.or with hq | hq
  · obtain ⟨its, rv, p, hz⟩ := I1.list (SqL.of hq)
    exact wpAny_pyIter_list p.isList ⟨s1.heap.objs.size, [s1.heap.objs.size], _, _, H1, rfl, kept, turn_list a _, ⟨_, Heap.get?_push_size _ rfl, rfl, rfl⟩, new, q _ fun H2 e => .inl ⟨rfl, SqL.of (e _ hq)⟩⟩
  · obtain ⟨its, rv, p, hz⟩ := I1.tuple (SqT.of hq)
    exact wpAny_pyIter_tuple (show s1.heap.IsTuple a its.toArray from p) ⟨s1.heap.objs.size, [s1.heap.objs.size], _, _, H1, rfl, kept, turn_tuple a _, ⟨_, Heap.get?_push_size _ rfl, rfl, rfl⟩, new, q _ fun H2 e => .inr ⟨rfl, SqT.of (e _ hq)⟩⟩
theorem for_seq {K : PySem.W.Frag} {a : Addr} {xs : List V} {J : It} {g : TG} {tb : TS} {D : Ends} {σ : L2.St} {H : Hp} (Pv : Nat → L2.St → Hp → Prop) (h0 : Pv 0 σ H) (hl : ∀ i σ H, Pv i σ H → StandsAs K a xs J H)
    (hs : ∀ i x σ H, xs[i]? = some x → Pv i σ H → g x σ H fun σ2 H2 => tb { D with nx := Pv (i + 1), ct := Pv (i + 1), bk := D.nx } σ2 H2) (hd : ∀ σ H, Pv xs.length σ H → D.nx σ H) :
    ∃ W : Nat → Nat → L2.St → Hp → Prop, (∃ m, W 0 m σ H) ∧ ∀ i m σ H, W i m σ H →
      (J.stop i H ∧ D.nx σ H) ∨ (J.go i H ∧ ∃ N : L2.St → Hp → Prop, (∀ σ' H', N σ' H' → ∃ m', m' < m ∧ W (i + 1) m' σ' H') ∧ ∀ x H', J.yld i H x H' → g x σ H' fun σ2 H2 => tb { D with nx := N, ct := N, bk := D.nx } σ2 H2) := by
  refine ⟨fun i m σ H => m + i = xs.length ∧ Pv i σ H, ⟨xs.length, rfl, h0⟩, ?_⟩
  rintro i m σ H ⟨hm, p⟩
  have s := hl i σ H p
  cases m with
  | zero =>
    obtain rfl : i = xs.length := by omega
    exact .inl ⟨s.stop (Nat.le_refl _), hd σ H p⟩
  | succ m =>
    have lt : i < xs.length := by omega
    refine .inr ⟨s.go (List.getElem?_eq_getElem lt), Pv (i + 1), fun σ' H' p' => ⟨m, Nat.lt_succ_self m, by omega, p'⟩, fun x H' y => ?_⟩
    obtain ⟨rfl, hx⟩ := s.yld y
    exact hs i x σ _ hx p
/-! ### a class of refusals -/
structure ExcC (K : PySem.W.Frag) (mg : Str → Option Value) (x : Str) (C : Addr) : Prop where
  g : mg x = some (.ref C)
  x : PySem.W.excIn K C [.type "ValueError", .type "Exception", .type "BaseException", .type "object"] "ValueError.__new__" = true
  k : PySem.W.keepIn K (.ref C) = true
  b : PySem.W.subIn K (.ref C) (.type "BaseException") = some true
  t : PySem.W.typeIn K (.ref C) = some (.type "type")
/-! ### pieces_of -/
abbrev nPieces : List Str := ["plan", "pieces", "first", "turns", "many", "past"]
abbrev PieceT := Int × Option Int × List PyData
def optD : Option Int → PyData
  | some i => .int i
  | none => .none
def pieceD (x : PieceT) : PyData := .tuple [.int x.1, optD x.2.1, .tuple x.2.2]
def turnsD (d : PyData) : List PyData := match rowsD d with
  | some (t :: _) => (rowsD t).getD []
  | _ => []
def pastO (f : Int) : PyData → Option Int
  | .int m => some (f + m)
  | _ => none
def pcs : Int → List PyData → List PieceT
  | _, [] => []
  | f, d :: ds => (f, pastO f (sndD d), turnsD d) :: pcs (f + worth (sndD d)) ds
theorem pcs_snoc : ∀ (f : Int) (ds : List PyData) (d : PyData), pcs f (ds ++ [d]) = pcs f ds ++ [(f + sumSnd ds, pastO (f + sumSnd ds) (sndD d), turnsD d)]
  | f, [], d => by
    have e : f + sumSnd [] = f := Int.add_zero f
    rw [e]
    rfl
  | f, c :: ds, d => by
    have e : f + sumSnd (c :: ds) = f + worth (sndD c) + sumSnd ds := by
      show f + (worth (sndD c) + sumSnd ds) = _
      omega
    rw [e]
    show _ :: pcs _ (ds ++ [d]) = _ :: (pcs _ ds ++ _)
    rw [pcs_snoc]
def piecesOf (d : PyData) : List PieceT := pcs 0 ((rowsD d).getD [])
def spPieces (P1 P2 C : Addr) : Sp := fun vs H Q E => ∃ v d, vs = [v] ∧ Rp H v d ∧ Tb P1 P2 H ∧ (isPlan d = false → ∀ H', Ex H H' → Tb P1 P2 H' → E (.ref C) none H') ∧
  (isPlan d = true → ∀ p H', Ex H H' → Tb P1 P2 H' → H p = none → Rp H' (.ref p) (.list ((piecesOf d).map pieceD)) → Q (.ref p) H')
theorem piece_at2 {H : Hp} {x : V} {d : PyData} (hp : isPiece d = true) (hR : Rp H x d) : ∃ b vt vm t m, x = .ref b ∧ StSeq H b [vt, vm] ∧ Rp H vt t ∧ Rp H vm m ∧ rowsD d = some [t, m] ∧ isTurns t = true ∧ isMany m = true := by
  obtain ⟨t, m, e, ht, hm⟩ := piece_parts hp
  obtain ⟨b, xs, rfl, hA, ho⟩ := hR.rows e
  cases hA with
  | cons h1 h2 =>
    cases h2 with
    | cons h3 h4 =>
      cases h4
      exact ⟨b, _, _, t, m, rfl, ⟨ho⟩, h1, h3, e, ht, hm⟩
theorem pieces_put {D : Addr} {ys : List V} {H2 H3 : Hp} {vs : List V} (eD : H2 D = some (.lst vs)) (s3 : Same H2 H3) {p : Addr} (np : H3 p = none) : upd H3 p (.tup ys) D = some (.lst vs) ∧
    Same (Hw (fun b => b = D) H3) (Hw (fun b => b = D) (upd (upd H3 p (.tup ys)) D (.lst (vs ++ [.ref p])))) ∧ Hw (fun b => b = D) (upd (upd H3 p (.tup ys)) D (.lst (vs ++ [.ref p]))) p = some (.tup ys) := by
  have e3 := s3 D _ eD
  have npD : p ≠ D := fun z => by rw [z, e3] at np; cases np
  have e4 : upd H3 p (.tup ys) D = some (.lst vs) := by rw [upd_ne (Ne.symm npD)]; exact e3
  rw [hw_upd (W := fun b => b = D) (a := D) rfl]
  refine ⟨e4, Same.hw (same_upd np), ?_⟩
  rw [Hw.at (W := fun b => b = D) npD]
  exact upd_same
/-- a def that may raise, called by its name -/
structure CalX (P : Program) (w : World) (K : PySem.W.Frag) (mg : Str → Option Value) (base : Heap) (k : Nat) (x : Str) (ps : List Str) (sp : Sp) : Prop where
  ex : ∃ f fd, mg x = some (.ref f) ∧ PySem.W.keepIn K (.ref f) = true ∧ Binds K fd ps [] ∧ FnOk P w K mg base (L2.CX P w) k f fd ps sp
theorem pe_calX {X : Cx} {k : Nat} {x : Str} {ps : List Str} {sp : Sp} {E : XK} {p pos : Pos} {e : Expr} {es : List Expr} {t : TA} (C : CalX X.prog X.w X.K X.mg X.base k x ps sp) (hr : Room k X.A) (hg : Gl X x) (hx : Passes (L2.CX X.prog X.w) X E) (ha : PA X (e :: es) t)
    (hdb : (x == ("__debug__" : Str)) = false := by decide) (he : starEach (e :: es) X.env = (false, eval e X.env) :: starEach es X.env := by rfl) (hpl : (backTo pos (starEach es X.env)).any (·.1) = false := by rfl) : PE X (.Call (.Name x p) (e :: es) [] pos) (tCall sp [] E t) := by
  obtain ⟨f, fd, a1, a2, a3, a4⟩ := C.ex
  exact pe_call a4 hr hg a1 a2 a3 .nil hx ha hdb he hpl
theorem CalX.mono {P : Program} {w : World} {K : PySem.W.Frag} {mg : Str → Option Value} {base : Heap} {j k : Nat} {x : Str} {ps : List Str} {sp : Sp} (C : CalX P w K mg base j x ps sp) (h : j ≤ k) : CalX P w K mg base k x ps sp := by
  obtain ⟨f, fd, a1, a2, a3, a4⟩ := C.ex
  exact ⟨f, fd, a1, a2, a3, a4.mono h⟩
abbrev sCheck : Stmt := topS 34
theorem scCheck : FnScope ["thing"] ["thing"] (defScope sCheck) := ⟨rfl, rfl, rfl, by decide +kernel, rfl, by decide +kernel, by decide +kernel⟩
def spCheck (P1 P2 C : Addr) : Sp := fun vs H Q E => ∃ v d, vs = [v] ∧ Rp H v d ∧ Tb P1 P2 H ∧ (isPlan d = false → ∀ H', Ex H H' → Tb P1 P2 H' → E (.ref C) none H') ∧ (isPlan d = true → ∀ H', Ex H H' → Tb P1 P2 H' → Q .non H')
section
variable {P : Program} {w : World} {K : PySem.W.Frag} {mg : Str → Option Value} {base : Heap}
theorem ok_check {f P1 P2 C : Addr} {fd : FuncData} (F : Fun K "check_plan" "check_plan" sCheck f fd) (XP : ExcC K mg "NoPlan" C) (CP : Cal P w K mg base 7 "is_plan" ["thing"] (spTab P1 P2 isPlan)) :
    FnOk P w K mg base (L2.CX P w) 8 f fd ["thing"] (spCheck P1 P2 C) := by
  refine F.okX scCheck (fun vs H Q E ⟨v, d, e, _⟩ => by rw [e]; rfl) (fun cdv A outer s H vs Q E hr h => ?_)
  obtain ⟨v, d, rfl, hR, hT, qE, q⟩ := h
  refine ⟨_, (pss_one (ps_if (pt_not (pt_val (pe_cal CP hr (by rfl) (pa_cons (pv 0) pa_nil)))) (pss_one (ps_raise rfl (takes_of rfl rfl rfl rfl) (pmk_own PySem.F.excBase_ValueError XP.x XP.g XP.k (raises_own XP.b XP.t) rfl))) pss_nil)), ?_⟩
  refine ⟨v, rfl, v, d, rfl, hR, hT, fun H1 e1 tb1 => ⟨isPlan d, rfl, ?_⟩⟩
  cases hp : isPlan d with
  | false => exact iteT (qE hp H1 e1 tb1)
  | true => exact iteF (q hp H1 e1 tb1)
end
end CL
set_option Elab.async false
set_option linter.all false
set_option maxRecDepth 100000
set_option maxHeartbeats 4000000
namespace CL
open PySem PySem.Spec PyProof.Rows L2 GE
abbrev sMany : Stmt := topS 36
theorem scMany : FnScope ["pieces"] ["pieces"] (defScope sMany) := ⟨rfl, rfl, rfl, by decide +kernel, rfl, by decide +kernel, by decide +kernel⟩
abbrev sPieceNo : Stmt := topS 37
theorem scPieceNo : FnScope ["pieces", "person", "at"] ["pieces", "person"] (defScope sPieceNo) := ⟨rfl, rfl, rfl, by decide +kernel, rfl, by decide +kernel, by decide +kernel⟩
abbrev sTurnAt : Stmt := topS 38
theorem scTurnAt : FnScope ["pieces", "person", "at", "first", "past", "turns"] ["pieces", "person"] (defScope sTurnAt) := ⟨rfl, rfl, rfl, by decide +kernel, rfl, by decide +kernel, by decide +kernel⟩
abbrev sPatAt : Stmt := topS 39
theorem scPatAt : FnScope ["pieces", "person", "at", "turn"] ["pieces", "person"] (defScope sPatAt) := ⟨rfl, rfl, rfl, by decide +kernel, rfl, by decide +kernel, by decide +kernel⟩
/-- the pieces stand as a list at a -/
structure PcsAt (H : Hp) (a : Addr) (ps : List PieceT) : Prop where
  ex : ∃ xs, H a = some (.lst xs) ∧ RpAll H xs (ps.map pieceD)
theorem PcsAt.of {H : Hp} {v : V} {ps : List PieceT} (h : Rp H v (.list (ps.map pieceD))) : ∃ a, v = .ref a ∧ PcsAt H a ps := by
  cases h with
  | lst h1 h2 => exact ⟨_, rfl, _, h1, h2⟩
def optV : Option Int → V
  | some i => .int i
  | none => .non
/-- a piece that stands -/
theorem pc_at {H : Hp} {a : Addr} {ps : List PieceT} {i : Nat} {pc : PieceT} (h : PcsAt H a ps) (e : ps[i]? = some pc) : ∃ xs b t zs, StSeq H a xs ∧ xs.length = ps.length ∧ xs[i]? = some (.ref b) ∧ H b = some (.tup [.int pc.1, optV pc.2.1, .ref t]) ∧ H t = some (.tup zs) ∧ RpAll H zs pc.2.2 := by
  obtain ⟨xs, h1, h2⟩ := h.ex
  have hl : xs.length = ps.length := by rw [h2.length, List.length_map]
  have hi : i < xs.length := by
    obtain ⟨z, _⟩ := List.getElem?_eq_some_iff.mp e
    omega
  obtain ⟨d, hd, hr⟩ := h2.get (List.getElem?_eq_getElem hi)
  obtain rfl : d = pieceD pc := by
    rw [List.getElem?_map, e] at hd
    exact (Option.some.inj hd).symm
  obtain ⟨f, po, ts⟩ := pc
  generalize hv : xs[i] = v at hr
  cases hr with
  | tup hb hys =>
    cases hys with
    | cons k1 k2 =>
      cases k2 with
      | cons k3 k4 =>
        cases k4 with
        | cons k5 k6 =>
          cases k6
          cases k1
          cases k5 with
          | tup ht hz =>
            have z : ∀ v, Rp H v (optD po) → v = optV po := fun v h => by cases po <;> cases h <;> rfl
            rw [z _ k3] at hb
            exact ⟨xs, _, _, _, ⟨.inl h1⟩, hl, by rw [List.getElem?_eq_getElem hi, hv], hb, ht, hz⟩
def spMany : Sp := fun vs H Q _ => ∃ a ps pc, vs = [.ref a] ∧ PcsAt H a (ps ++ [pc]) ∧ Q (optV pc.2.1) H
section
variable {P : Program} {w : World} {K : PySem.W.Frag} {mg : Str → Option Value} {base : Heap}
theorem ok_many {f : Addr} {fd : FuncData} (F : Fun K "many_in" "many_in" sMany f fd) : FnOk P w K mg base CX0 1 f fd ["pieces"] spMany := by
  refine F.ok scMany (fun vs H Q E ⟨a, ps, pc, e, _⟩ => by rw [e]; rfl) (fun cdv A outer s H vs Q E hr h => ?_)
  obtain ⟨a, ps, pc, rfl, hp, q⟩ := h
  refine ⟨_, pss_one (ps_ret (pe_ix ix_seq (pe_ix ix_seq (pv 0) (pe_un un_neg pe_int) (fun _ _ => rfl)) pe_int (fun _ _ => rfl))), ?_⟩
  obtain ⟨xs, b, t, zs, st, hl, hx, hb, _⟩ := pc_at (i := ps.length) (pc := pc) hp (by simp)
  obtain ⟨ys, z, rfl⟩ : ∃ ys z, xs = ys ++ [z] := ⟨xs.dropLast, xs.getLast (by intro z; rw [z] at hl; simp at hl), (List.dropLast_concat_getLast _).symm⟩
  have ey : ys.length = ps.length := by simpa using hl
  obtain rfl : z = .ref b := by
    rw [← ey] at hx
    simpa using hx
  have e1 : atI (ys ++ [V.ref b]) (-1) = some (.ref b) := atI_last _ _
  refine ⟨.ref a, rfl, 1, rfl, ?_⟩
  have fin : rIx K (.ref b) (.int 1) H Q := rix_of (i := 1) ⟨.inr hb⟩ rfl q
  rcases st.or with h | h
  · exact .inl ⟨a, _, -1, .ref b, rfl, rfl, SqL.of h, e1, fin⟩
  · exact .inr (.inl ⟨a, _, -1, .ref b, rfl, rfl, SqT.of h, e1, fin⟩)
/-- whether one of that number comes by the piece, or by one ahead of it -/
def comes (n : Int) (x : PieceT) : Bool := match x.2.1 with
  | none => true
  | some m => decide (n < m)
def spPieceNo : Sp := fun vs H Q _ => ∃ a n ps pc, vs = [.ref a, .int n] ∧ PcsAt H a ps ∧ ps.find? (comes n) = some pc ∧ ∀ i : Nat, ps[i]? = some pc → Q (.int (i : Int)) H
theorem ok_pieceNo {f : Addr} {fd : FuncData} (F : Fun K "piece_number" "piece_number" sPieceNo f fd) : FnOk P w K mg base CX0 1 f fd ["pieces", "person"] spPieceNo := by
  refine F.ok scPieceNo (fun vs H Q E ⟨a, n, ps, pc, e, _⟩ => by rw [e]; rfl) (fun cdv A outer s H vs Q E hr h => ?_)
  obtain ⟨a, n, ps, pc, rfl, hp, hf, q⟩ := h
  have nd := scPieceNo.nd
  refine ⟨_, (pss_cons (ps_set (i := 2) nd rfl (.inl rfl) pe_int) (pss_cons (ps_while PassesOwn.never (PW.pt (pw_and (pt_cmp (pc_notN (pe_ix ix_seq (pe_ix ix_seq (pv 0) (pv 2) (fun _ _ => rfl)) pe_int (fun _ _ => rfl)))) (pw_and1 (pt_cmpR op_le (pe_ix ix_seq (pe_ix ix_seq (pv 0) (pv 2) (fun _ _ => rfl)) pe_int (fun _ _ => rfl)) (pv 1) (nomark _))))) (pss_one (ps_aug (i := 2) nd rfl (.inl rfl) pe_int ip_add)))
    (pss_one (ps_ret (pv 2))))), ?_⟩
  refine ⟨fun m σ H' => ∃ i : Nat, m + i = ps.length ∧ σ = [some (.ref a), some (.int n), some (.int (i : Int))] ∧ H' = H ∧ (ps.drop i).find? (comes n) = some pc, ⟨ps.length, 0, rfl, rfl, rfl, hf⟩, fun m σ H' hW => ?_⟩
  obtain ⟨i, hm, rfl, rfl, hfi⟩ := hW
  have li : i < ps.length := by
    by_cases z : i < ps.length
    · exact z
    · rw [List.drop_eq_nil_of_le (by omega)] at hfi
      cases hfi
  obtain ⟨x, hx⟩ : ∃ x, ps[i]? = some x := ⟨_, List.getElem?_eq_getElem li⟩
  have ed : ps.drop i = x :: ps.drop (i + 1) := by
    rw [List.drop_eq_getElem_cons li]
    rw [List.getElem?_eq_getElem li] at hx
    rw [Option.some.inj hx]
  obtain ⟨xs, b, t, zs, st, hl, hxi, hb, ht, hz⟩ := pc_at hp hx
  have go : ∀ {R : VK}, R (optV x.2.1) H' → rIx K (.ref a) (.int (i : Int)) H' fun y H1 => rIx K y (.int 1) H1 R := fun {R} h => rix_of st hxi (rix_of (i := 1) ⟨.inr hb⟩ rfl h)
  rw [ed, List.find?_cons] at hfi
  refine ⟨.ref a, rfl, .int (i : Int), rfl, go ?_⟩
  cases hpo : x.2.1 with
  | none =>
    have hc : comes n x = true := by unfold comes; rw [hpo]
    rw [hc] at hfi
    obtain rfl : x = pc := Option.some.inj hfi
    exact ⟨_, rfl, iteF ⟨.int (i : Int), rfl, q i hx⟩⟩
  | some k =>
    refine ⟨_, rfl, iteT ⟨.ref a, rfl, .int (i : Int), rfl, go ?_⟩⟩
    rw [hpo]
    refine ⟨.int n, rfl, k, n, rfl, rfl, decide (k ≤ n), rfl, ?_⟩
    have hc : comes n x = decide (n < k) := by unfold comes; rw [hpo]
    rw [hc] at hfi
    refine ite2 (fun e => ?_) (fun e => ?_)
    · have e1 : decide (n < k) = false := decide_eq_false (by have := of_decide_eq_true e; omega)
      rw [e1] at hfi
      refine ⟨fun σ' H'' => σ' = [some (.ref a), some (.int n), some (.int ((i : Int) + 1))] ∧ H'' = H', fun σ' H'' z => ⟨m - 1, by omega, i + 1, by omega, z.1, z.2, hfi⟩, ?_⟩
      exact ⟨.int (i : Int), rfl, i, 1, rfl, rfl, rfl, rfl⟩
    · have e1 : decide (n < k) = true := decide_eq_true (by
        have : ¬ k ≤ n := fun z => e (decide_eq_true z)
        omega)
      rw [e1] at hfi
      obtain rfl : x = pc := Option.some.inj hfi
      exact ⟨.int (i : Int), rfl, q i hx⟩
/-- the number of its piece, its place in the round -/
def spTurnAt : Sp := fun vs H Q _ => ∃ a n ps pc, vs = [.ref a, .int n] ∧ PcsAt H a ps ∧ ps.find? (comes n) = some pc ∧ 0 < pc.2.2.length ∧ ∀ (i : Nat) p H', ps[i]? = some pc → Same H H' → H' p = some (.tup [.int (i : Int), .int ((n - pc.1) % (pc.2.2.length : Int))]) → Q (.ref p) H'
theorem ok_turnAt {f : Addr} {fd : FuncData} (F : Fun K "turn_at" "turn_at" sTurnAt f fd) (T : Nm mg) (CA : Cal P w K mg base 1 "piece_number" ["pieces", "person"] spPieceNo) : FnOk P w K mg base CX0 2 f fd ["pieces", "person"] spTurnAt := by
  refine F.ok scTurnAt (fun vs H Q E ⟨a, n, ps, pc, e, _⟩ => by rw [e]; rfl) (fun cdv A outer s H vs Q E hr h => ?_)
  obtain ⟨a, n, ps, pc, rfl, hp, hf, hl, q⟩ := h
  have nd := scTurnAt.nd
  refine ⟨_, (pss_cons (ps_set (i := 2) nd rfl (.inl rfl) (pe_cal CA hr (by rfl) (pa_cons (pv 0) (pa_cons (pv 1) pa_nil))))
    (pss_cons (ps_asg (pe_ix ix_seq (pv 0) (pv 2) (fun _ _ => rfl)) (pg_tup rfl (pgs_cons (pg_name (i := 3) nd rfl (.inl rfl)) (pgs_cons (pg_name (i := 4) nd rfl (.inl rfl)) (pgs_cons (pg_name (i := 5) nd rfl (.inl rfl)) pgs_nil)))))
    (pss_one (ps_ret (pe_tup (pa_cons (pv 2) (pa_cons (pe_op op_mod (pe_op op_sub (pv 1) (pv 3)) (pe_callB call_len_seq (by rfl) T.len PySem.boot_len (pa_cons (pv 5) pa_nil))) pa_nil))))))), ?_⟩
  refine ⟨.ref a, rfl, .int n, rfl, a, n, ps, pc, rfl, hp, hf, fun i hi => ?_⟩
  obtain ⟨xs, b, t, zs, st, _, hx, hb, ht, hz⟩ := pc_at hp hi
  have hzl := hz.length
  have st2 : StSeq H t zs := ⟨.inr ht⟩
  refine ⟨.ref a, rfl, .int (i : Int), rfl, rix_of st hx ?_⟩
  refine ⟨b, _, rfl, SqT.of hb, rfl, .int pc.1, _, rfl, optV pc.2.1, _, rfl, .ref t, _, rfl, rfl, ?_⟩
  refine ⟨.int (i : Int), rfl, .int n, rfl, .int pc.1, rfl, n, pc.1, rfl, rfl, .ref t, rfl, t, zs, rfl, st2.sq, n - pc.1, (zs.length : Int), rfl, rfl, by show (0 : Int) < (zs.length : Int); omega, small_le (by show 2 ≤ 1000; decide), fun p np => ?_⟩
  exact q i p _ hi (same_upd np) (by rw [upd_same, hzl])
def spPatAt : Sp := fun vs H Q _ => ∃ a n ps pc d, vs = [.ref a, .int n] ∧ PcsAt H a ps ∧ ps.find? (comes n) = some pc ∧ 0 < pc.2.2.length ∧ pc.2.2[((n - pc.1) % (pc.2.2.length : Int)).toNat]? = some d ∧ ∀ v H', Same H H' → Rp H' v d → Q v H'
theorem ok_patAt {f : Addr} {fd : FuncData} (F : Fun K "patience_at" "patience_at" sPatAt f fd) (CA : Cal P w K mg base 2 "turn_at" ["pieces", "person"] spTurnAt) : FnOk P w K mg base CX0 3 f fd ["pieces", "person"] spPatAt := by
  refine F.ok scPatAt (fun vs H Q E ⟨a, n, ps, pc, d, e, _⟩ => by rw [e]; rfl) (fun cdv A outer s H vs Q E hr h => ?_)
  obtain ⟨a, n, ps, pc, d, rfl, hp, hf, hl, hd, q⟩ := h
  have nd := scPatAt.nd
  refine ⟨_, (pss_cons (ps_asg (pe_cal CA hr (by rfl) (pa_cons (pv 0) (pa_cons (pv 1) pa_nil))) (pg_tup rfl (pgs_cons (pg_name (i := 2) nd rfl (.inl rfl)) (pgs_cons (pg_name (i := 3) nd rfl (.inl rfl)) pgs_nil))))
    (pss_one (ps_ret (pe_ix ix_seq (pe_ix ix_seq (pe_ix ix_seq (pv 0) (pv 2) (fun _ _ => rfl)) pe_int (fun _ _ => rfl)) (pv 3) (fun _ _ => rfl))))), ?_⟩
  refine ⟨.ref a, rfl, .int n, rfl, a, n, ps, pc, rfl, hp, hf, hl, fun i p H' hi s ep => ?_⟩
  obtain ⟨xs, b, t, zs, st, _, hx, hb, ht, hz⟩ := pc_at hp hi
  have hzl := hz.length
  obtain ⟨v, hv⟩ : ∃ v, zs[((n - pc.1) % (pc.2.2.length : Int)).toNat]? = some v := by
    obtain ⟨z, _⟩ := List.getElem?_eq_some_iff.mp hd
    exact ⟨_, List.getElem?_eq_getElem (by rw [hzl]; exact z)⟩
  obtain ⟨d', hd', hR⟩ := hz.get hv
  rw [hd] at hd'
  cases hd'
  have e0 : 0 ≤ (n - pc.1) % (pc.2.2.length : Int) := Int.emod_nonneg _ (by omega)
  have e1 : ((n - pc.1) % (pc.2.2.length : Int)) = ((((n - pc.1) % (pc.2.2.length : Int)).toNat : Nat) : Int) := by rw [Int.toNat_of_nonneg e0]
  refine ⟨p, _, rfl, SqT.of ep, rfl, .int (i : Int), _, rfl, .int ((n - pc.1) % (pc.2.2.length : Int)), _, rfl, rfl, ?_⟩
  refine ⟨.ref a, rfl, .int (i : Int), rfl, rix_of (st.ex (Ex.of s)) hx (rix_of (i := 2) ⟨.inr (s _ _ hb)⟩ rfl ⟨.int ((n - pc.1) % (pc.2.2.length : Int)), rfl, ?_⟩)⟩
  rw [e1]
  exact rix_of ⟨.inr (s _ _ ht)⟩ hv (q v H' s (Rp.sm s hR))
end
end CL
set_option Elab.async false
set_option linter.all false
set_option maxRecDepth 100000
set_option maxHeartbeats 4000000
namespace CL
open PySem PySem.Spec PyProof.Rows L2 GE
abbrev sCkM : Stmt := topS 40
theorem scCkM : FnScope ["pieces", "moment", "many"] ["pieces", "moment"] (defScope sCkM) := ⟨rfl, rfl, rfl, by decide +kernel, rfl, by decide +kernel, by decide +kernel⟩
/-- whether anything is the number of one that comes before past, or ever -/
def under : Option Int → Int → Bool
  | none, _ => true
  | some m, n => decide (n < m)
def personOk (past : Option Int) : PyData → Bool
  | .int n => decide (0 ≤ n) && under past n
  | _ => false
theorem personOk_int (past : Option Int) (n : Int) : personOk past (.int n) = (decide (0 ≤ n) && under past n) := rfl
/-- whether anything is a moment by which no more come than come -/
def upto : Option Int → Int → Bool
  | none, _ => true
  | some m, n => decide (n ≤ m)
def momentOk (past : Option Int) : PyData → Bool
  | .int n => decide (0 ≤ n) && decide (n ≤ GREAT) && upto past n
  | _ => false
theorem momentOk_int (past : Option Int) (n : Int) : momentOk past (.int n) = (decide (0 ≤ n) && decide (n ≤ GREAT) && upto past n) := rfl
def spCkM (C : Addr) : Sp := fun vs H Q E => ∃ a v ps pc d, vs = [.ref a, v] ∧ PcsAt H a (ps ++ [pc]) ∧ Rp H v d ∧ (momentOk pc.2.1 d = false → ∀ H', Same H H' → E (.ref C) none H') ∧ (momentOk pc.2.1 d = true → ∀ H', Same H H' → Q .non H')
section
variable {P : Program} {w : World} {K : PySem.W.Frag} {mg : Str → Option Value} {base : Heap}
theorem ok_ckm {f C : Addr} {fd : FuncData} (F : Fun K "check_moment" "check_moment" sCkM f fd) (T : Nm mg) (XN : ExcC K mg "NoMoment" C) (CM : Cal P w K mg base 1 "many_in" ["pieces"] spMany) (CW : Cal P w K mg base 1 "is_whole" ["thing"] (spOne isWhole)) :
    FnOk P w K mg base (L2.CX P w) 2 f fd ["pieces", "moment"] (spCkM C) := by
  refine F.okX scCkM (fun vs H Q E ⟨a, v, ps, pc, d, e, _⟩ => by rw [e]; rfl) (fun cdv A outer s H vs Q E hr h => ?_)
  obtain ⟨a, v, ps, pc, d, rfl, hp, hR, qE, q⟩ := h
  obtain ⟨tg, hgr⟩ := T.great
  have nd := scCkM.nd
  refine ⟨_, (pss_cons (ps_set (i := 2) nd rfl (.inl rfl) (pe_cal CM hr (by rfl) (pa_cons (pv 0) pa_nil)))
    (pss_one (ps_if (PW.pt (pw_or (pt_not (pt_val (pe_cal CW hr (by rfl) (pa_cons (pv 1) pa_nil)))) (pw_or (pt_not (pt_chain op_le op_le pe_int (pv 1) (pe_glob (v := .int GREAT) (by rfl) hgr ⟨_, rfl⟩))) (pw_or1 (PW.pt (pw_and (pt_cmp (pc_notN (pv 2))) (pw_and1 (pt_cmpR op_gt (pv 1) (pv 2) (nomark _))))))))) (pss_one (ps_raise rfl (takes_of rfl rfl rfl rfl) (pmk_own PySem.F.excBase_ValueError XN.x XN.g XN.k (raises_own XN.b XN.t) rfl))) pss_nil))), ?_⟩
  refine ⟨.ref a, rfl, a, ps, pc, rfl, hp, v, rfl, v, d, rfl, hR, fun H1 s1 => ⟨isWhole d, rfl, ?_⟩⟩
  cases hR with
  | int n =>
    refine iteF ⟨.int n, rfl, 0, n, rfl, rfl, decide (0 ≤ n), rfl, ite2 (fun e1 => ?_) (fun e1 => ?_)⟩
    · refine ⟨n, GREAT, rfl, rfl, decide (n ≤ GREAT), rfl, ?_⟩
      cases e2 : decide (n ≤ GREAT) with
      | true =>
        refine iteF ?_
        cases hpo : pc.2.1 with
        | none =>
          refine ⟨_, rfl, _, rfl, iteF (iteF ?_)⟩
          exact q (by rw [hpo, momentOk_int, e1, e2]; rfl) H1 s1
        | some m =>
          refine ⟨_, rfl, _, rfl, iteT ⟨.int n, rfl, .int m, rfl, n, m, rfl, rfl, decide (m < n), rfl, ?_⟩⟩
          refine ite2 (fun e3 => ?_) (fun e3 => ?_)
          · exact qE (by rw [hpo, momentOk_int, e1, e2]; exact decide_eq_false (by have := of_decide_eq_true e3; omega)) H1 s1
          · exact q (by rw [hpo, momentOk_int, e1, e2]; exact decide_eq_true (by have : ¬ m < n := fun z => e3 (decide_eq_true z); omega)) H1 s1
      | false => exact iteT (iteT (qE (by rw [momentOk_int, e1, e2]; rfl) H1 s1))
    · exact ⟨false, rfl, iteT (iteT (qE (by rw [momentOk_int, Bool.eq_false_iff.mpr e1]; rfl) H1 s1))⟩
  | _ => exact iteT (iteT (qE rfl H1 s1))
/-- the patience of a person, as the pieces have it -/
def patD (ps : List PieceT) (n : Int) : Option PyData := (ps.find? (comes n)).bind fun pc => pc.2.2[((n - pc.1) % (pc.2.2.length : Int)).toNat]?
/-- each that comes has its piece, with a patience -/
def HasP (ps : List PieceT) (n : Int) (e : PyData) : Prop := ∃ pp, ps.find? (comes n) = some pp ∧ 0 < pp.2.2.length ∧ pp.2.2[((n - pp.1) % (pp.2.2.length : Int)).toNat]? = some e
end
end CL
set_option Elab.async false
set_option linter.all false
set_option maxRecDepth 100000
set_option maxHeartbeats 4000000
namespace CL
open PySem PySem.Spec PyProof.Rows L2 GE
abbrev sPieces : Stmt := topS 35
theorem scPieces : FnScope nPieces ["plan"] (defScope sPieces) := ⟨rfl, rfl, rfl, by decide +kernel, rfl, by decide +kernel, by decide +kernel⟩
section
variable {P : Program} {w : World} {K : PySem.W.Frag} {mg : Str → Option Value} {base : Heap}
theorem ok_pieces {f P1 P2 C : Addr} {fd : FuncData} (F : Fun K "pieces_of" "pieces_of" sPieces f fd) (T : Nm mg) (CK : CalX P w K mg base 8 "check_plan" ["thing"] (spCheck P1 P2 C)) :
    FnOk P w K mg base (L2.CX P w) 9 f fd ["plan"] (spPieces P1 P2 C) := by
  refine F.okX scPieces (fun vs H Q E ⟨v, d, e, _⟩ => by rw [e]; rfl) (fun cdv A outer s H vs Q E hr h => ?_)
  obtain ⟨v, d, rfl, hR, hT, qE, q⟩ := h
  have nd := scPieces.nd
  refine ⟨_, (pss_cons (ps_expr (pe_calX CK hr (by rfl) (passes_call (takes_of rfl rfl rfl rfl) fun _ _ _ _ h => h) (pa_cons (pv 0) pa_nil))) (PSs.nox (pss_cons (ps_set (i := 1) nd rfl (.inl rfl) (pe_lst pa_nil))
    (pss_cons (ps_set (i := 2) nd rfl (.inl rfl) pe_int)
    (pss_cons (ps_for PassesOwn.never rfl (pi_seqW (pv 0)) (pg_seq rfl (pgs_cons (pg_name (i := 3) nd rfl (.inl rfl)) (pgs_cons (pg_name (i := 4) nd rfl (.inl rfl)) pgs_nil))) (pss_cons (ps_set (i := 5) nd rfl (.inl rfl) (pe_ifExp (pt_cmp (pc_isN (pv 4))) pe_non (pe_op op_add (pv 2) (pv 4))))
    (pss_cons (ps_expr (pe_bm PySem.F.plainAttrs_list PySem.F.slot_list_append PySem.F.type_list_append mt_append (pv 1) (pa_cons (pe_tup (pa_cons (pv 2) (pa_cons (pv 5) (pa_cons (pe_callTy call_tuple_of (by rfl) T.tuple PyProof.Rows.boot_tuple (pa_cons (pv 3) pa_nil)) pa_nil)))) pa_nil)))
    (pss_one (ps_set (i := 2) nd rfl (.inl rfl) (pv 5))))))
    (pss_one (ps_ret (pv 1)))))))), ?_⟩
  refine ⟨v, rfl, v, d, rfl, hR, hT, qE, fun hp H1 e1 tb1 => ?_⟩
  · skip
    have hR1 := Rp.ex e1 d v hR
    obtain ⟨ds, hds⟩ : ∃ ds, rowsD d = some ds := by
      cases z : rowsD d with
      | none => unfold isPlan at hp; rw [z] at hp; cases hp
      | some ds => exact ⟨ds, rfl⟩
    have val : isPlan d = isPlanL ds := by unfold isPlan; rw [hds]
    have hp' := hp
    rw [val] at hp'
    unfold isPlanL at hp'
    simp only [Bool.and_eq_true, decide_eq_true_eq, Bool.not_eq_true'] at hp'
    obtain ⟨⟨⟨⟨l1, l8⟩, hpc⟩, hno⟩, hsum⟩ := hp'
    obtain ⟨a, xs, rfl, hA, hso⟩ := hR1.rows hds
    have hst : StSeq H1 a xs := ⟨hso⟩
    have hlen := hA.length
    refine ⟨Nat.zero_le _, fun D hD => ?_⟩
    have eD0 : (upd H1 D (.lst [])) D = some (.lst []) := upd_same
    have s0 : Same H1 (Hw (fun b => b = D) (upd H1 D (.lst []))) := fun b o e => by
      rw [Hw.at fun z => by rw [z, hD] at e; cases e]
      exact same_upd hD b o e
    generalize hH0 : upd H1 D (.lst []) = H0 at eD0 s0
    have ex0 : ∀ {H2 : Hp}, Same H1 (Hw (fun b => b = D) H2) → Ex H1 H2 := fun {H2} s => Ex.of fun b o e => Hw.sub _ _ _ _ (s b o e)
    have naD : a ≠ D := fun z => by
      rcases hso with z2 | z2 <;> (rw [z, hD] at z2; cases z2)
    have stay : ∀ {H2 : Hp} {o : HO}, Same H1 (Hw (fun b => b = D) H2) → H0 a = some o → H2 a = some o := fun {H2 o} s ho => by
      rw [← hH0, upd_ne naD] at ho
      exact Hw.sub _ _ _ _ (s _ _ ho)
    show tSeq _ _ _ [some (.ref a), some (.ref D), none, none, none, none] H0
    refine ⟨.ref a, rfl, a, xs, rfl, hst.ex (ex0 s0), fun J hJ => for_seq (K := K) (a := a) (xs := xs) (fun i σ H2 => ∃ fv y3 y4 y5 vs, σ = [some (.ref a), some (.ref D), some fv, y3, y4, y5] ∧ (i < ds.length → fv = .int (sumSnd (ds.take i))) ∧ Same H1 (Hw (fun b => b = D) H2) ∧
        H2 D = some (.lst vs) ∧ vs.length = i ∧ RpAll (Hw (fun b => b = D) H2) vs ((pcs 0 (ds.take i)).map pieceD))
      ⟨.int 0, none, none, none, [], rfl, fun _ => rfl, s0, eD0, rfl, .nil⟩ (fun i σ H2 ⟨_, _, _, _, _, _, _, e, _⟩ => hJ H2 fun o ho => stay e ho) (fun i x σ H2 hx ⟨fv, y3, y4, y5, vs, es, hfv, s2, eD, lv, hv⟩ => ?_) (fun σ H2 ⟨fv, y3, y4, y5, vs, es, _, s2, eD, lv, hv⟩ => ?_)⟩
    · subst es
      obtain ⟨dx, hdx, hRx⟩ := hA.get hx
      have li : i < ds.length := by
        obtain ⟨z, _⟩ := List.getElem?_eq_some_iff.mp hdx
        exact z
      obtain rfl := hfv li
      obtain ⟨b, vt, vm, t, m, rfl, hsb, hvt, hvm, hrx, htu, hma⟩ := piece_at2 (all_get hpc hdx) (Rp.sm s2 hRx)
      have hsnd : sndD dx = m := sndD_two hrx
      obtain ⟨ts, hts⟩ : ∃ ts, rowsD t = some ts := by
        cases z : rowsD t with
        | none => unfold isTurns at htu; rw [z] at htu; cases htu
        | some ts => exact ⟨ts, rfl⟩
      have htd : turnsD dx = ts := by unfold turnsD; rw [hrx]; show (rowsD t).getD [] = ts; rw [hts]; rfl
      obtain ⟨t0, zs, rfl, hzs, hto⟩ := hvt.rows hts
      refine ⟨b, [.ref t0, vm], rfl, hsb.ex (Ex.of (Hw.sub _ _)), rfl, .ref t0, [vm], rfl, vm, [], rfl, rfl, ?_⟩
      have hS := sum_step hdx
      have epc : (pcs 0 (ds.take (i + 1))).map pieceD = (pcs 0 (ds.take i)).map pieceD ++ [pieceD (sumSnd (ds.take i), pastO (sumSnd (ds.take i)) m, ts)] := by
        rw [List.take_add_one, hdx]
        show (pcs 0 (ds.take i ++ [dx])).map pieceD = _
        rw [pcs_snoc, List.map_append, Int.zero_add, hsnd, htd]
        rfl
      generalize hSS : sumSnd (ds.take i) = S at hS epc ⊢
      obtain ⟨pv, hp1, hp2, hc⟩ : ∃ pv, (∀ H3, Rp H3 pv (optD (pastO S m))) ∧ (i + 1 < ds.length → pv = .int (sumSnd (ds.take (i + 1)))) ∧ ((vm = .non ∧ pv = .non) ∨ ∃ k, vm = .int k ∧ pv = .int (S + k)) := by
        rw [hsnd] at hS
        cases hvm with
        | non =>
          refine ⟨.non, fun _ => .non, fun lt => ?_, .inl ⟨rfl, rfl⟩⟩
          have z := List.any_eq_false.mp hno dx (List.mem_of_getElem? (i := i) (by rw [List.getElem?_take_of_lt (by omega : i < ds.length - 1)]; exact hdx))
          rw [hsnd] at z
          exact absurd rfl z
        | int k => exact ⟨.int (S + k), fun _ => .int _, fun _ => by rw [hS]; rfl, .inr ⟨k, rfl, rfl⟩⟩
        | _ => cases hma
      have fin : ∀ (l : Addr) (H3 : Hp), Same H2 H3 → Hw (fun b => b = D) H3 l = some (.tup zs) → ∀ p, H3 p = none → upd H3 p (.tup [.int S, pv, .ref l]) D = some (.lst vs) ∧ Same H1 (Hw (fun b => b = D) (upd (upd H3 p (.tup [.int S, pv, .ref l])) D (.lst (vs ++ [.ref p])))) ∧
          RpAll (Hw (fun b => b = D) (upd (upd H3 p (.tup [.int S, pv, .ref l])) D (.lst (vs ++ [.ref p])))) (vs ++ [.ref p]) ((pcs 0 (ds.take (i + 1))).map pieceD) := fun l H3 s3 el p np => by
        obtain ⟨e4, s5, eb⟩ := pieces_put (ys := [.int S, pv, .ref l]) eD s3 np
        have s25 := Same.trans (Same.hw (W := fun b => b = D) s3) s5
        refine ⟨e4, Same.trans s2 s25, ?_⟩
        rw [epc]
        exact (RpAll.sm s25 hv).snoc (.tup eb (.cons (.int S) (.cons (hp1 _) (.cons (.tup (s5 _ _ el) (RpAll.sm s25 hzs)) .nil))))
      have l3 : ∀ l : Addr, [V.int S, pv, .ref l].length ≤ sizeLine := fun l => small_le (by show 3 ≤ 1000; decide)
      have lvs : vs.length < sizeLine := small1000 (by omega)
      have lv1 : ∀ p : Addr, (vs ++ [V.ref p]).length = i + 1 := fun p => by rw [List.length_append, lv]; rfl
      have nlD : ∀ {l : Addr}, H2 l = none → Hw (fun b => b = D) (upd H2 l (.tup zs)) l = some (.tup zs) := fun {l} nl => by
        rw [Hw.at (W := fun b => b = D) fun z => by rw [z, eD] at nl; cases nl]
        exact upd_same
      rcases hc with ⟨rfl, rfl⟩ | ⟨k, rfl, rfl⟩
      · refine ⟨.non, rfl, _, rfl, iteT ⟨.ref D, rfl, .inl ⟨rfl, _, SqL.of eD⟩, .int S, rfl, .non, rfl, .ref t0, rfl, t0, zs, rfl, ?_⟩⟩
        rcases hto with ht | ht
        · refine .inl ⟨SqL.of (Hw.sub _ _ _ _ ht), fun l nl => ⟨l3 l, fun p np => ?_⟩⟩
          obtain ⟨e4, a1, a2⟩ := fin l _ (same_upd nl) (nlD nl) p np
          exact ⟨D, vs, .ref p, rfl, rfl, e4, lvs, .non, rfl, .non, _, _, _, _, rfl, hp2, a1, upd_same, lv1 p, a2⟩
        · refine .inr ⟨SqT.of (Hw.sub _ _ _ _ ht), l3 t0, fun p np => ?_⟩
          obtain ⟨e4, a1, a2⟩ := fin t0 H2 (Same.refl H2) ht p np
          exact ⟨D, vs, .ref p, rfl, rfl, e4, lvs, .non, rfl, .non, _, _, _, _, rfl, hp2, a1, upd_same, lv1 p, a2⟩
      · refine ⟨.int k, rfl, _, rfl, iteF ⟨.int S, rfl, .int k, rfl, S, k, rfl, rfl, .ref D, rfl, .inl ⟨rfl, _, SqL.of eD⟩, .int S, rfl, .int (S + k), rfl, .ref t0, rfl, t0, zs, rfl, ?_⟩⟩
        rcases hto with ht | ht
        · refine .inl ⟨SqL.of (Hw.sub _ _ _ _ ht), fun l nl => ⟨l3 l, fun p np => ?_⟩⟩
          obtain ⟨e4, a1, a2⟩ := fin l _ (same_upd nl) (nlD nl) p np
          exact ⟨D, vs, .ref p, rfl, rfl, e4, lvs, .int (S + k), rfl, .int (S + k), _, _, _, _, rfl, hp2, a1, upd_same, lv1 p, a2⟩
        · refine .inr ⟨SqT.of (Hw.sub _ _ _ _ ht), l3 t0, fun p np => ?_⟩
          obtain ⟨e4, a1, a2⟩ := fin t0 H2 (Same.refl H2) ht p np
          exact ⟨D, vs, .ref p, rfl, rfl, e4, lvs, .int (S + k), rfl, .int (S + k), _, _, _, _, rfl, hp2, a1, upd_same, lv1 p, a2⟩
    · subst es
      rw [hlen, List.take_length] at hv
      have hpo : piecesOf d = pcs 0 ds := by unfold piecesOf; rw [hds]; rfl
      exact ⟨.ref D, rfl, q hp D H2 (e1.trans (ex0 s2)) (tb1.same fun b o e => Hw.sub _ _ _ _ (s2 b o e)) (e1.free hD) (by rw [hpo]; exact .lst eD (RpAll.sm (Hw.sub _ _) hv))⟩
end
end CL
set_option Elab.async false
set_option linter.all false
set_option maxRecDepth 100000
set_option maxHeartbeats 4000000
namespace GE
open PySem PySem.Spec PyProof.Rows L2 GenW
open Sem (wp)
/-! ### a generator expression that uses names of the def around it -/
abbrev clC (X : Cx) (scope : Scope) : List (Str × Addr) := cloFrom X.env.cells scope.names []
abbrev ceC (X : Cx) (scope : Scope) (C : Addr) (code : Value) : Env := genEnv scope (clC X scope) C code builtinsNs X.env
structure GSf (X : Cx) (scope : Scope) : Prop where
  kind : scope.kind = .function
  co : scope.isCoroutine = false
  own : ∀ y ∈ scope.names, y.2 ≠ .cell
  dot : scope.names.lookup (".0" : Str) = some NameKind.local
  free : ∀ y ∈ scope.names, y.2 = .free → ∃ c, X.env.cells.lookup y.1 = some c
theorem GSf.cl_of {X : Cx} {scope : Scope} (S : GSf X scope) {x : Str} {c : Addr} (h : (clC X scope).lookup x = some c) : X.env.cells.lookup x = some c := by
  rcases cloFrom_mem (PySem.mem_of_lookup h) with z | ⟨h1, h2⟩
  · cases z
  · obtain ⟨c', e⟩ := S.free _ h1 rfl
    have e' : X.env.cells.lookup x = some c' := e
    rw [e'] at h2
    rw [e', h2]
    rfl
theorem GSf.has {X : Cx} {scope : Scope} (S : GSf X scope) {x : Str} (h : scope.names.lookup x = some .cell ∨ scope.names.lookup x = some .free) : ∃ c, (clC X scope).lookup x = some c := by
  rcases h with h | h
  · exact absurd rfl (S.own _ (PySem.mem_of_lookup h))
  · exact mem_lookup (cloFrom_has (PySem.mem_of_lookup h))
section
variable {X : Cx} {pins : List (Addr × Obj)} {σ : L2.St} {H : Hp} {s : Shared}

theorem ge_startC {A : Around} {N : List Str} {scope : Scope} {code : Value} {fp : List Addr} {go : Obj} {G : Array GenState} {tk : Nat} {h5 : Heap} {m0 : Str → Option Value} (I : Inv X pins σ H s) (S : GSf X scope) (hA : A.handled = none) (hf : A.frames = some X.stack)
    (hfp : ∀ b ∈ fp, FpOk X pins H b ∧ b < s.heap.objs.size) (hG : AllBare G) (hns : h5.Ns s.heap.objs.size m0) (hk : ∀ b o, s.heap.get? b = some o → h5.get? b = some o) (hgo : h5.get? (s.heap.objs.size + 1) = some go) (hgd : ∀ v, go.data ≠ .cell v) :
    Inv (gx X A N s H (ceC X scope s.heap.objs.size code) fp [(s.heap.objs.size + 1, go)]) [] (nones N.length) H { s with gens := G, toks := tk, heap := h5 } := by
  have noc : ∀ x c, (ceC X scope s.heap.objs.size code).cells.lookup x = some c → X.env.cells.lookup x = some c := fun x c e => S.cl_of e
  have stkne : ∀ b, s.heap.objs.size ≤ b → b ∉ frs X.stack := fun b hb z => by
    rcases List.mem_cons.mp (I.stkSub b z) with e | e
    · exact absurd (Nat.lt_of_lt_of_le I.lt (by rw [← e]; exact hb)) (Nat.lt_irrefl _)
    · exact I.nofs hb e
  refine ⟨⟨I.ok.mod, S.kind, I.ok.glob, rfl, Nat.le_refl _, fun x y c h1 h2 => I.ok.inj x y c (noc x c h1) (noc y c h2), fun x hx => S.has hx, fun x c h _ => (by cases h), fun _ => hA, Around.frames_deeper hf, .inr ⟨rfl, rfl⟩, fun b hb => ⟨Nat.ne_of_lt (hfp b hb).2, fun x c e => ((hfp b hb).1.2.2.2.2.1 x c (noc x c e))⟩,
    I.bs, Nat.le_trans I.ok.bsz I.sz, fun b o e hb => ?_, fun b hb z => ?_, I.stack, I.stkFree⟩, rfl, hG, Un.kept hk, ⟨m0, hns, fun i x v _ h2 _ => (nones_some h2).elim⟩, fun x c e => (I.cell x c (noc x c e)).imp fun v hv => hv.keeps hk, I.hok.fresh (Nat.le_refl _), fun x c e => I.freeC x c (noc x c e), fun p hp => ?_, I.hok.kept hk, List.length_replicate⟩
  · rcases (hfp b hb).1.2.2.2.1 with z | z
    · exact I.ok.noex b o e z
    · exact absurd (Nat.lt_of_lt_of_le (Heap.lt_size e) (Nat.le_trans I.ok.bsz z)) (Nat.lt_irrefl _)
  · rcases List.mem_cons.mp (I.stkSub b z) with e | e
    · exact (hfp b hb).1.2.1 e
    · exact (hfp b hb).1.2.2.1 e
  · have hp' : p ∈ [(s.heap.objs.size + 1, go)] := by simpa using hp
    rw [List.mem_singleton.mp hp']
    exact ⟨hgo, I.hok.fresh (Nat.le_succ _), Nat.succ_ne_self _, stkne _ (Nat.le_succ _), hgd⟩


theorem gen_makeC {c P : Addr} {elt tg iter : Expr} {ifs : List Expr} {gpos : Pos} {scope : Scope} {wi : TI} {k : Nat} {Q' : Value → Shared → Prop} {R : It → Hp → Prop}
    (hr : Room k X.A) (TB : GxR.TabB X.base X.mg c P) (hcode : X.env.code = .ref c) (S : GSf X scope) (hi : PI X tg iter wi) (hs : ∀ v, genFold iter X.env v = pure v) (I : Inv X pins σ H s) (h : wi σ H fun J H1 => GxR.TabG H1 P ∧ R J H1)
    (hQ : ∀ J H1 H2 s4 s5 code fp it tn go g, R J H1 → GxR.Tabbed P H1 H2 → Inv X pins σ H2 s4 → (∀ b ∈ fp, FpOk X pins H2 b ∧ b < s4.heap.objs.size) → Turn X.prog X.w X.K tg J fp it tn → tn 0 s5.heap →
      (∀ A N, A.handled = none → A.frames = some X.stack → Inv (gx X A N s4 H2 (ceC X scope s4.heap.objs.size code) fp [(s4.heap.objs.size + 1, go)]) [] (nones N.length) H2 s5) →
      (∀ h : Heap, h.get? (s4.heap.objs.size + 1) = some go → h.IsGen (s4.heap.objs.size + 1) g) →
      s5.gens[g]? = some (.fresh (.compStart (.GeneratorExp elt [⟨tg, iter, ifs, 0⟩] scope gpos) 0 (.ref it) .none (ceC X scope s4.heap.objs.size code))) → Q' (.ref (s4.heap.objs.size + 1)) s5) :
    wpAny (model X.prog X.w) X.A (eval (.GeneratorExp elt [⟨tg, iter, ifs, 0⟩] scope gpos) X.env) Q' X.xe s := by
  have hcl : closureFor scope X.env = pure (clC X scope) := closure_ok S.free
  refine wpAny_GeneratorExp_make S.co hcl S.own S.dot S.kind (by have := hr.dp; omega) (thn (hi.run pins s σ H _ I h) fun xv s1 hx => thn hx fun itv s2 h2 => ?_) hs
  obtain ⟨it, fp, tn, J, H1, e, I2, T, st2, f2, ⟨ps, hP, ht⟩, q1⟩ := h2
  subst e
  have hPs : s2.heap.get? P = some { cls := .none, data := .fields ps } := I2.hok P _ hP
  have cd : PySem.W.CodeHd s2.heap c P := TB.code.keeps fun b u e => I2.bk b u e
  have nfp : ∀ b ∈ fp, b ≠ P := fun b hb z => by
    have := (f2 b hb).1
    rw [z, hP] at this
    cases this
  have szf : ∀ b ∈ fp, b < s2.heap.objs.size := fun b hb => by
    obtain ⟨o, e, _⟩ := T.obj _ _ st2 b hb
    exact Heap.lt_size e
  have cont : ∀ (code : Value) (h3 : Heap) (tk : Nat) (ps' : Array Value), Heap.ExtBut P s2.heap h3 → s2.heap.objs.size ≤ h3.objs.size → h3.get? P = some { cls := .none, data := .fields ps' } → (∃ more, ps' = ps ++ more) → TriplesOk ps'.toList →
      wpAny (model X.prog X.w) X.A (builtinsFor X.env.globals X.env.builtins) (fun bi s4 =>
        ∀ h', h'.Ns s4.heap.objs.size (fun y => if y = ".0" then some (.ref it) else none) → Heap.SameBut s4.heap.objs.size (s4.heap.push { cls := .type "frame", data := .dict #[] }) h' →
          Q' (.ref h'.objs.size) { s4 with
            gens := s4.gens.push (.fresh (.compStart (.GeneratorExp elt [⟨tg, iter, ifs, 0⟩] scope gpos) 0 (.ref it) .none (genEnv scope (clC X scope) s4.heap.objs.size code bi X.env))),
            toks := s4.toks + 1 + 1 + 1,
            heap := h'.push { cls := .type "generator", data := .fields #[.int s4.gens.size 0, .str "<genexpr>" (s4.toks + 1), .str (X.env.qual ++ "<genexpr>") (s4.toks + 1 + 1)] } }) X.xe { s2 with heap := h3, toks := tk } := by
    intro code h3 tk ps' hx hsz hP3 hmore ht3
    obtain ⟨bm, ob, e1, e2, e3, e4, e5, e6, e7, e8⟩ := TB.bm
    obtain ⟨more, rfl⟩ := hmore
    have I3 : Inv X pins σ (upd H1 P (.tbl (ps ++ more))) { s2 with heap := h3, toks := tk } := GxR.inv_tab (more := more) (g' := s2.gens) (d' := s2.drawn) I2 hP (fun b u hb e => hx b u hb e) hP3 I2.bare
    have tab : GxR.Tabbed P H1 (upd H1 P (.tbl (ps ++ more))) := ⟨⟨_, upd_same, ht3⟩, fun b hb => upd_ne hb⟩
    have st3 : tn 0 h3 := T.keep _ _ _ st2 fun b hb o e => hx b o (nfp b hb) e
    have f3 : ∀ b ∈ fp, FpOk X pins (upd H1 P (.tbl (ps ++ more))) b ∧ b < h3.objs.size := fun b hb =>
      ⟨⟨by rw [upd_ne (nfp b hb)]; exact (f2 b hb).1, (f2 b hb).2⟩, Nat.lt_of_lt_of_le (szf b hb) hsz⟩
    refine wpAny_builtinsFor (m := X.mg) (by rw [I3.ok.glob]; exact I3.mod.glob.keeps I3.bk) e1 e2 (I3.bk _ _ e5) e6 e7 e8 ?_
    intro h' hns hsb
    have hsz' : h'.objs.size = h3.objs.size + 1 := by rw [hsb.1, Heap.size_push]
    have keep' : ∀ b o, h3.get? b = some o → h'.get? b = some o := fun b o e => hsb.extBut b o (Nat.ne_of_lt (Heap.lt_size e)) (Heap.get?_push_of_some _ e)
    have main : ∀ (go : Obj), go.cls = .type "generator" → (∃ nm qn, go.data = .fields #[.int s2.gens.size 0, nm, qn]) → go.slots = #[] → (∀ h : Heap, (h.push go).get? h.objs.size = some go) → ∀ t',
        Q' (.ref h'.objs.size) { s2 with heap := h'.push go, toks := t', gens := s2.gens.push (.fresh (.compStart (.GeneratorExp elt [⟨tg, iter, ifs, 0⟩] scope gpos) 0 (.ref it) .none (genEnv scope (clC X scope) h3.objs.size code builtinsNs X.env))) } := by
      intro go gc ⟨nm, qn, gd⟩ gsl gp t'
      have hgp := gp h'
      rw [hsz'] at hgp ⊢
      have keep5 : ∀ b o, h3.get? b = some o → (h'.push go).get? b = some o := fun b o e => Heap.get?_push_of_some _ (keep' b o e)
      refine hQ J H1 (upd H1 P (.tbl (ps ++ more))) { s2 with heap := h3, toks := tk } _ code fp it tn go s2.gens.size q1 tab I3 f3 T (T.keep _ _ _ st3 fun b _ o e => keep5 b o e) (fun A N hA hf => ?_) (fun h e => ⟨go, nm, qn, e, gc, gd, gsl⟩) (Array.getElem?_push_size ..)
      exact ge_startC (s := { s2 with heap := h3, toks := tk }) I3 S hA hf f3 (I2.bare.push rfl) (hns.push _) keep5 hgp (fun v z => by rw [gd] at z; cases z)
    exact main _ rfl ⟨_, _, rfl⟩ rfl (fun h => Heap.get?_push_size _ rfl) _
  refine ⟨I2.nolimit, ?_⟩
  cases hf : codeAmong gpos ps.toList with
  | none =>
    refine wpAny_genexprCodeX hcode (cd.code hPs ht) (cd.tab hPs) hf fun c' h' tk hx hge hlt hco' _ htab' _ => ?_
    obtain ⟨o1, vs, f1, tf, fl, tg', inF, tx, tt, op, _, _, _, _, _, _, _, _, _, htr, _⟩ := hco'
    exact cont _ h' tk _ hx (Nat.le_trans hge (Nat.le_of_lt hlt)) htab'.2 ⟨_, rfl⟩ htr
  | some cv =>
    refine wpAny_genexprCode_hit hcode (cd.code hPs ht) hf ?_
    exact cont cv s2.heap s2.toks ps (Heap.ExtBut.refl _ _) (Nat.le_refl _) hPs ⟨#[], by simp⟩ ht



theorem pe_allC {N : List Str} {c P : Addr} {elt tg iter : Expr} {ifs : List Expr} {p pos gpos : Pos} {scope : Scope} {wi : TI} {g : TG} {tt : TT} {te : TE} {k : Nat}
    (hr : Room (k + 1) X.A) (hgl : Gl X "all") (hm : X.mg "all" = none) (TB : GxR.TabB X.base X.mg c P) (hcode : X.env.code = .ref c) (S : GSf X scope) (hi : PI X tg iter wi)
    (hg : ∀ (A : Around) (s : Shared) (H : Hp) (C : Addr) (code : Value) (fp : List Addr) (pn : List (Addr × Obj)), Room k (A.deeper (ceC X scope C code)) → PG (gx X A N s H (ceC X scope C code) fp pn) tg g)
    (ht : ∀ (A : Around) (s : Shared) (H : Hp) (C : Addr) (code : Value) (fp : List Addr) (pn : List (Addr × Obj)), Room k (A.deeper (ceC X scope C code)) → PTs (gx X A N s H (ceC X scope C code) fp pn) ifs tt)
    (he : ∀ (A : Around) (s : Shared) (H : Hp) (C : Addr) (code : Value) (fp : List Addr) (pn : List (Addr × Obj)), Room k (A.deeper (ceC X scope C code)) → PE (gx X A N s H (ceC X scope C code) fp pn) elt te)
    (hs : ∀ v, genFold iter X.env v = pure v := by intro _; rfl)
    (hb : bootBuiltins "all" = some (.builtin "all") := by decide +kernel)
    (hst : starEach [.GeneratorExp elt [⟨tg, iter, ifs, 0⟩] scope gpos] X.env = (false, eval (.GeneratorExp elt [⟨tg, iter, ifs, 0⟩] scope gpos) X.env) :: starEach [] X.env := by rfl) :
    PE X (.Call (.Name "all" p) [.GeneratorExp elt [⟨tg, iter, ifs, 0⟩] scope gpos] [] pos) (tGen P N.length wi g tt te outAll true) := by
  refine ⟨fun pins s σ H Q I h => ?_⟩
  refine wpAny_Call_Name_kw (ld_blt I hgl hm hb ?_)
  refine PyProof.Rows.callWith_builtin1 ?_ hst (by rfl)
  rw [hst]
  show wpAny _ _ (spliced ((false, eval (.GeneratorExp elt [⟨tg, iter, ifs, 0⟩] scope gpos) X.env) :: backTo pos (starEach [] X.env))) _ _ s
  refine Calls.spliced_cons (gen_makeC hr TB hcode S hi hs I h fun J H1 H2 s4 s5 code fp it tn go gn hR tab I4 f4 T st5 mk hgo hgs => ?_)
  refine Calls.spliced_nil ?_
  obtain ⟨W, ⟨m0, w0⟩, turn⟩ := hR H2 tab
  have rY := room3 hr (ceC X scope s4.heap.objs.size code)
  have I5 := mk X.A.in1.in1 N hr.hd I.ok.frames
  generalize hpn : [(s4.heap.objs.size + 1, go)] = pn at I5
  have hpm : (s4.heap.objs.size + 1, go) ∈ pn := by rw [← hpn]; exact List.mem_singleton.mpr rfl
  have hpf : ∀ p ∈ pn, p.1 ∉ fp := fun p hp z => by
    rw [← hpn] at hp
    rw [List.mem_singleton.mp hp] at z
    exact absurd (f4 _ z).2 (Nat.not_lt.mpr (Nat.le_succ _))
  have gi0 : GI (gx X X.A.in1.in1 N s4 H2 (ceC X scope s4.heap.objs.size code) fp pn) conU fp tn () 0 H2 s5 := ⟨I5, trivial, st5, fun b hb => (f4 b hb).1.1⟩
  have isg := hgo _ (I5.pin _ (List.mem_append_left _ hpm)).1
  refine call_function_tree F.kind_all F.plain_all F.entry_all (F.args_all1 _) ?_
  unfold Builtin.«all»
  refine wpAny_bind (m := oneArg "all" _) (wpAny_pure ?_)
  refine wpAny_bind (wpAny_pyIter_gen isg ?_)
  refine wpAny_pure ⟨plainId_quiet F.plain_all_loop _, ?_⟩
  refine all_loop (Y := gx X X.A.in1.in1 N s4 H2 (ceC X scope s4.heap.objs.size code) fp pn) (A := X.A) (g := gn) (QB := fun b H => Q (.bl b) H) hr.hd hr.depth hpm hgo (fun b s' H' I' q => ?_) (m0 + 1) 0 H2 (fun a H => W a 0 m0 H) s5 _ hgs gi0 w0 (fun a' s'' gi' w' => ?_)
  · exact ⟨.bl b, H', ge_back I4 f4 I', rfl, q⟩
  · exact ⟨rfl, seg_start (Y := gx X X.A.in1.in1 N s4 H2 (ceC X scope s4.heap.objs.size code) fp pn) conU_ok rfl T (hg _ _ _ _ _ _ _ rY) (ht _ _ _ _ _ _ _ rY) (he _ _ _ _ _ _ _ rY) rfl (fun b hb => hb) (fun b hb => nomatch hb) hpf rfl S.co turn m0 a' (m0 + 1) H2 s'' (Nat.lt_succ_self _) w' gi'⟩
end
end GE
set_option Elab.async false
set_option linter.all false
set_option maxRecDepth 100000
set_option maxHeartbeats 1000000
namespace GV
open PySem PySem.Spec PyProof.Rows L2 GenW GE
open Sem (wp)
/-! ### a generator expression that reads names of the def around it: ζ holds their values -/
def Keeps (ζ σ : L2.St) : Prop := ∀ (j : Nat) (v : V), ζ[j]? = some (some v) → σ[j]? = some (some v)
section
variable {α : Type}
def GI (ζ : L2.St) (Y : Cx) (C : Con α) (fpI : List Addr) (tn : Nat → Heap → Prop) (a : α) (i : Nat) (H : Hp) (s : Shared) : Prop :=
  Inv Y (pinsAt C.fp s.heap) (ζ) H s ∧ C.at_ a s.heap ∧ tn i s.heap ∧ ∀ b ∈ fpI, H b = none
def GP (ζ : L2.St) (Y : Cx) (C : Con α) (fpI : List Addr) (tn : Nat → Heap → Prop) (Out : α → V → Hp → (α → Hp → Prop) → Prop) : Protocol := fun _ s₀ v s kap =>
  ∃ a i H y Nx, RelV y v ∧ GI ζ Y C fpI tn a i H s ∧ Out a y H Nx ∧ (∀ b ∈ C.fp, ∀ o, s₀.heap.get? b = some o → s.heap.get? b = some o) ∧ ∀ a' s'', GI ζ Y C fpI tn a' i H s'' → Nx a' H → kap (.send .none) s''
def GF (ζ : L2.St) (Y : Cx) (C : Con α) (Fin : α → Hp → Prop) : Nat → Shared → Shared → Prop := fun _ s₀ s₁ =>
  ∃ a H, Inv Y (pinsAt C.fp s₁.heap) (ζ) H s₁ ∧ C.at_ a s₁.heap ∧ (∀ b ∈ C.fp, ∀ o, s₀.heap.get? b = some o → s₁.heap.get? b = some o) ∧ Fin a H
abbrev GRr (ζ : L2.St) (Y : Cx) (C : Con α) (Fin : α → Hp → Prop) : GenEnd := fun n s₀ r s₁ => r = .ok .next ∧ GF ζ Y C Fin n s₀ s₁
def TurnV (J : It) (ζ : L2.St) (g : TG) (tt : TT) (te : TE) (Out : α → V → Hp → (α → Hp → Prop) → Prop) (Fin : α → Hp → Prop) (W : α → Nat → Nat → Hp → Prop) : Prop :=
  ∀ a i m H, W a i m H → (J.stop i H ∧ Fin a H) ∨ (J.go i H ∧ ∃ Nx : α → Hp → Prop, (∀ a' H', Nx a' H' → ∃ m', m' < m ∧ W a' (i + 1) m' H') ∧
    ∀ x H', J.yld i H x H' → g x ζ H' fun σ2 H2 => Keeps ζ σ2 ∧ tt σ2 H2 fun b H3 => if b = true then te σ2 H3 fun y H4 => Out a y H4 Nx else Nx a H3)

section
variable {ζ : L2.St} {Y : Cx} {C : Con α} {tg elt iter : Expr} {ifs : List Expr} {scope : Scope} {pos : Pos} {J : It} {fpI : List Addr} {it : Addr} {tn : Nat → Heap → Prop} {g : TG} {tt : TT} {te : TE}
  {Out : α → V → Hp → (α → Hp → Prop) → Prop} {Fin : α → Hp → Prop} {W : α → Nat → Nat → Hp → Prop} {A : Around}
/-- the loop of a generator expression -/
theorem seg_loop (CO : ConOk C) (hcalm : Y.calm = true) (T : Turn Y.prog Y.w Y.K tg J fpI it tn) (hg : PG Y tg g) (ht : PTs Y ifs tt) (he : PE Y elt te) (hA : A.deeper Y.env = Y.A)
    (hex : ∀ b ∈ fpI, b ∈ Y.ex) (hdis : ∀ b ∈ C.fp, b ∉ fpI) (hpn : ∀ p ∈ Y.pn, p.1 ∉ fpI) (hxe : Y.xe = fun _ _ => False) (hco : Y.env.scope.isCoroutine = false) (hz : ζ.length = Y.N.length) (turn : TurnV J ζ g tt te Out Fin W) :
    ∀ (m : Nat) (a : α) (i n : Nat) (H : Hp) (s₀ s : Shared), m < n → W a i m H → GI ζ Y C fpI tn a i H s → (∀ b ∈ C.fp, ∀ o, s₀.heap.get? b = some o → s.heap.get? b = some o) →
      Seg (model Y.prog Y.w) A (GRr ζ Y C Fin) (GP ζ Y C fpI tn Out) n s₀ (.compLoop (.GeneratorExp elt [⟨tg, iter, ifs, 0⟩] scope pos) 0 (.ref it) .none Y.env)
        ((model Y.prog Y.w).den (.compLoop (.GeneratorExp elt [⟨tg, iter, ifs, 0⟩] scope pos) 0 (.ref it) .none Y.env)) [] s := by
  have ov : A.over (.compLoop (.GeneratorExp elt [⟨tg, iter, ifs, 0⟩] scope pos) 0 (.ref it) .none Y.env) [] = Y.A := over_loopG.trans hA
  have stat : ∀ {pins : List (Addr × Obj)} {σ' : L2.St} {H' : Hp} {s' : Shared}, Inv Y pins σ' H' s' → (∀ p ∈ pins, p.1 ∉ fpI) → (∀ b ∈ fpI, H' b = none) → ∀ b ∈ fpI, FpOk Y pins H' b := fun {pins σ' H' s'} I' hp hn b hb =>
    ⟨hn b hb, (I'.ok.exf b (hex b hb)).1, I'.ok.exfs b (hex b hb), .inl (hex b hb), fun x c e => (I'.ok.exf b (hex b hb)).2 x c e, fun p hp' z => (List.mem_append.mp hp').elim (fun q => hpn p q (z ▸ hb)) fun q => hp p q (z ▸ hb)⟩
  have pinN : ∀ h : Heap, ∀ p ∈ pinsAt C.fp h, p.1 ∉ fpI := fun h p hp => hdis p.1 (of_pinsAt hp).1
  intro m
  induction m using Nat.strongRecOn with
  | ind m ih =>
    intro a i n H s₀ s hmn hw hGI since
    obtain ⟨I, hat, st, hn0⟩ := hGI
    show Seg _ A _ _ n s₀ _ ((compTurn (.GeneratorExp elt [⟨tg, iter, ifs, 0⟩] scope pos) 0 (.ref it) .none Y.env).onRaise (leaving Y.env)) [] s
    rw [compTurn_gen, Sem.onRaise_eq_wrap]
    refine seg_bind_wrap (wpAny_standAt ?_)
    have sf := stat I (pinN s.heap) hn0
    rcases turn a i m H hw with ⟨stop, fin⟩ | ⟨go, Nx, hNx, step⟩
    · refine seg_bind_wrap ?_
      rw [ov]
      refine thnF (T.done Y rfl rfl rfl hcalm i _ s _ H (fun _ _ => False) I sf st stop) fun r s1 ⟨hr, I1⟩ => ?_
      subst hr
      have hk : ∀ b ∈ C.fp, ∀ o, s.heap.get? b = some o → s1.heap.get? b = some o := fun b hb o e => (I1.pin (b, o) (List.mem_append_right _ (mem_pinsAt hb e))).1
      refine seg_end (.ok .next) ⟨rfl, a, H, I1.pins_of fun p hp => ?_, CO.keep _ _ _ hat hk, fun b hb o e => hk b hb o (since b hb o e), fin⟩
      obtain ⟨hb, e⟩ := of_pinsAt hp
      obtain ⟨o, e2, _⟩ := CO.obj _ _ hat p.1 hb
      have e3 := hk p.1 hb o e2
      rw [e] at e3
      cases e3
      exact I1.pin (p.1, p.2) (List.mem_append_right _ (mem_pinsAt hb e2))
    · refine seg_bind_wrap ?_
      rw [ov]
      refine thnF (T.item Y rfl rfl rfl hcalm i _ s _ H (fun _ _ => False) I sf st go) fun r s1 ⟨u, hr, h1⟩ => ?_
      subst hr
      refine seg_bind_wrap ?_
      rw [ov]
      refine thnF h1 fun _ s2 ⟨x, H2, I2, r2, y2, st2, n2⟩ => ?_
      have I2' := I2.pinned (stat I2 (pinN s.heap) n2) (T.obj _ _ st2)
      refine seg_bind_wrap ?_
      rw [ov]
      have xf : ∀ {β : Type} {t : Sem β} {P P' : β → Shared → Prop} {E' : Value → Shared → Prop} {z : Shared}, wpAny (model Y.prog Y.w) Y.A t P Y.xe z → (∀ a s, P a s → P' a s) → wpAny (model Y.prog Y.w) Y.A t P' E' z := fun {β t P P' E' z} q hq => by
        rw [hxe] at q
        exact thnF q hq
      refine xf (hg.run _ s2 _ H2 x u _ I2' r2 (step x H2 y2)) fun _ s3 ⟨σ3, H3, I3, kz, q3⟩ => ?_
      refine seg_bind_wrap ?_
      rw [ov]
      refine xf (ht.run _ s3 σ3 H3 _ I3 q3) fun ok s4 ⟨H4, I4, q4⟩ => ?_
      -- what stands at a turn's end
      have fin : ∀ {s' : Shared} {H' : Hp}, Inv Y (pinsAt C.fp s.heap ++ pinsAt fpI s2.heap) σ3 H' s' →
          GI ζ Y C fpI tn a (i + 1) H' s' ∧ ∀ b ∈ C.fp, ∀ o, s₀.heap.get? b = some o → s'.heap.get? b = some o := fun {s' H'} I' => by
        have hk : ∀ b ∈ C.fp, ∀ o, s.heap.get? b = some o → s'.heap.get? b = some o := fun b hb o e => (I'.pin (b, o) (List.mem_append_right _ (List.mem_append_left _ (mem_pinsAt hb e)))).1
        have pin' : ∀ b ∈ fpI, ∀ o, s2.heap.get? b = some o → s'.heap.get? b = some o ∧ H' b = none := fun b hb o e =>
          let z := I'.pin (b, o) (List.mem_append_right _ (List.mem_append_right _ (mem_pinsAt hb e)))
          ⟨z.1, z.2.1⟩
        have I1 : Inv Y (pinsAt C.fp s'.heap) σ3 H' s' := I'.pins_of fun p hp => by
          obtain ⟨hb, e⟩ := of_pinsAt hp
          obtain ⟨o, e2, _⟩ := CO.obj _ _ hat p.1 hb
          have e3 := hk p.1 hb o e2
          rw [e] at e3
          cases e3
          exact I'.pin (p.1, p.2) (List.mem_append_right _ (List.mem_append_left _ (mem_pinsAt hb e2)))
        refine ⟨⟨I1.weak (by rw [I1.len, hz]) kz, CO.keep _ _ _ hat hk, T.keep _ _ _ st2 fun b hb o e => (pin' b hb o e).1, fun b hb => ?_⟩, fun b hb o e => hk b hb o (since b hb o e)⟩
        obtain ⟨o, e, _⟩ := T.obj _ _ st2 b hb
        exact (pin' b hb o e).2
      cases ok with
      | false =>
        simp only [Bool.false_eq_true, if_false] at q4 ⊢
        obtain ⟨f1, f2⟩ := fin I4
        obtain ⟨m', hm', w'⟩ := hNx a H4 q4
        exact seg_again rfl (ih m' hm' a (i + 1) n H4 s₀ s4 (by omega) w' f1 f2)
      | true =>
        simp only [if_true] at q4 ⊢
        obtain ⟨n', rfl⟩ : ∃ n', n = n' + 1 := ⟨n - 1, by omega⟩
        have hy : ∀ v, yieldOut Y.env v = yieldValue v := fun v => by simp only [yieldOut, hco, Bool.false_eq_true, if_false]
        simp only [hy]
        rw [Sem.bind_eq_wrap', Sem.bind_eq_wrap', Sem.wrap_wrap, Sem.wrap_wrap]
        refine seg_wrap ?_
        rw [ov]
        refine xf (he.run _ s4 σ3 H4 _ I4 q4) fun y s5 ⟨yv, H5, I5, r5, o5⟩ => ?_
        obtain ⟨f1, f2⟩ := fin I5
        refine seg_at (seg_yield rfl rfl rfl ⟨a, i + 1, H5, yv, Nx, r5, f1, o5, f2, fun a' s'' hGI' hN' => ?_⟩)
        obtain ⟨m', hm', w'⟩ := hNx a' H5 hN'
        exact seg_again rfl (ih m' hm' a' (i + 1) n' H5 s'' s'' (by omega) w' hGI' fun _ _ _ e => e)

/-- .. and its start -/
theorem seg_start (CO : ConOk C) (hcalm : Y.calm = true) (T : Turn Y.prog Y.w Y.K tg J fpI it tn) (hg : PG Y tg g) (ht : PTs Y ifs tt) (he : PE Y elt te) (hA : A.deeper Y.env = Y.A)
    (hex : ∀ b ∈ fpI, b ∈ Y.ex) (hdis : ∀ b ∈ C.fp, b ∉ fpI) (hpn : ∀ p ∈ Y.pn, p.1 ∉ fpI) (hxe : Y.xe = fun _ _ => False) (hco : Y.env.scope.isCoroutine = false) (hz : ζ.length = Y.N.length) (turn : TurnV J ζ g tt te Out Fin W)
    (m : Nat) (a : α) (n : Nat) (H : Hp) (s : Shared) (hm : m < n) (hw : W a 0 m H) (hGI : GI ζ Y C fpI tn a 0 H s) :
      Seg (model Y.prog Y.w) A (GRr ζ Y C Fin) (GP ζ Y C fpI tn Out) n s (.compStart (.GeneratorExp elt [⟨tg, iter, ifs, 0⟩] scope pos) 0 (.ref it) .none Y.env)
        ((model Y.prog Y.w).den (.compStart (.GeneratorExp elt [⟨tg, iter, ifs, 0⟩] scope pos) 0 (.ref it) .none Y.env)) [] s := by
  have loop := seg_loop (iter := iter) (scope := scope) (pos := pos) CO hcalm T hg ht he hA hex hdis hpn hxe hco hz turn m a 0 n H s s hm hw hGI fun _ _ _ e => e
  show Seg _ A _ _ _ s _ ((compStart (.GeneratorExp elt [⟨tg, iter, ifs, 0⟩] scope pos) 0 (.ref it) .none Y.env).onRaise (leaving Y.env)) [] s
  unfold compStart
  rw [Sem.onRaise_eq_wrap]
  show Seg _ A _ _ _ s _ ((ask >>= _).wrap _ _ _ _) [] s
  refine seg_bind_wrap (wpAny_askSetting ?_)
  split
  · exact seg_again rfl loop
  · first
      | exact seg_bind_wrap (wpAny_rule (seg_bind_wrap (wpAny_standAt (seg_bind_wrap (T.self _ 0 s _ _ hGI.2.2.1 (seg_again rfl loop))))))
      | (refine seg_bind_wrap (wpAny_rule ?_); show Seg _ A _ _ _ s _ ((standAt iter.pos >>= _).wrap _ _ _ _) [] s; exact seg_bind_wrap (wpAny_standAt (seg_bind_wrap (T.self _ 0 s _ _ hGI.2.2.1 (seg_again rfl loop)))))

/-- one item of such a generator -/
theorem next_ge {A : Around} {ga : Addr} {go : Obj} {g i n : Nat} {gs : GenState} {a : α} {H : Hp} {Nx : α → Hp → Prop} {s : Shared} {Q : Option Value → Shared → Prop} {E : Value → Shared → Prop}
    (CO : ConOk C) (hh : A.handled = none) (hd : A.depth < recursionLimit) (hpn : (ga, go) ∈ Y.pn) (hgo : ∀ h : Heap, h.get? ga = some go → h.IsGen ga g) (hgs : s.gens[g]? = some gs)
    (gi : GI ζ Y C fpI tn a i H s) (hN : Nx a H)
    (goes : ∀ a' s'', GI ζ Y C fpI tn a' i H s'' → Nx a' H → gs.Goes (model Y.prog Y.w) A.in1 (GRr ζ Y C Fin) (GP ζ Y C fpI tn Out) n (.send .none) s'')
    (hsome : ∀ i1 H1 y v Nx1 s1 gs1, RelV y v → GI ζ Y C fpI tn a i1 H1 s1 → Out a y H1 Nx1 → s1.gens[g]? = some gs1 →
      GoOn (model Y.prog Y.w) A.in1 (GRr ζ Y C Fin) (GP ζ Y C fpI tn Out) (fun a' s'' => GI ζ Y C fpI tn a' i1 H1 s'') (fun a' => Nx1 a' H1) gs1 n → Q (some v) s1)
    (hnone : ∀ H1 s1, Inv Y (pinsAt C.fp s1.heap) (ζ) H1 s1 → C.at_ a s1.heap → Fin a H1 → Q none s1) :
    wpAny (model Y.prog Y.w) A (pyNext (.ref ga)) Q E s := by
  obtain ⟨I, hat, st, hn0⟩ := id gi
  have hlt : g < s.gens.size := by
    rcases Nat.lt_or_ge g s.gens.size with h' | h'
    · exact h'
    · rw [Array.getElem?_eq_none h'] at hgs; cases hgs
  refine wpAny_gsz (n := g + 1) hlt ?_
  have gi' : GI ζ Y C fpI tn a i H (s.setGen g .running) := ⟨Inv.gensG I (bare_setGen I.bare rfl), hat, st, hn0⟩
  have hig : s.heap.IsGen ga g := hgo _ (I.pin (ga, go) (List.mem_append_left _ hpn)).1
  refine wpAny_pyNext_genexpQ (P := GF ζ Y C Fin) (Y := GP ζ Y C fpI tn Out) hh I.nolimit hd hig hgs (goes a _ gi' hN) (fun v s1 gs1 hb hv => ?_) (fun s1 hp h' hk => ?_)
  · obtain ⟨a1, i1, H1, y, Nx1, rv, gi1, o1, since, kap⟩ := hv
    have hat1 : C.at_ a s1.heap := CO.keep _ _ _ hat since
    have ea : a1 = a := CO.inj _ _ _ gi1.2.1 hat1
    subst ea
    intro hsz
    have hlt1 : g < s1.gens.size := by
      rw [setGen_size] at hsz
      exact hsz
    have gi2 : GI ζ Y C fpI tn a1 i1 H1 (s1.setGen g gs1) := ⟨Inv.gensG gi1.1 (bare_setGen gi1.1.bare hb), gi1.2.1, gi1.2.2.1, gi1.2.2.2⟩
    refine hsome i1 H1 y v Nx1 _ gs1 rv gi2 o1 (by simp [Shared.setGen, hlt1]) ?_
    cases n with
    | zero => exact fun a' s'' q1 q2 => kap a' s'' q1 q2
    | succ n1 => exact fun a' s'' q1 q2 => kap a' s'' q1 q2
  · obtain ⟨a1, H1, I1, hat1, since, fin⟩ := hp
    have ea : a1 = a := CO.inj _ _ _ hat1 (CO.keep _ _ _ hat since)
    subst ea
    intro _
    have I2 : Inv Y (pinsAt C.fp s1.heap) (ζ) H1 { s1.setGen g .finished with heap := h' } := (Inv.gensG I1 (bare_setGen (x := .finished) (g := g) I1.bare rfl)).kept (t' := s1.toks) hk
    exact hnone H1 _ (GE.repin CO hat1 I2 fun b _ o e => hk b o e) (CO.keep _ _ _ hat1 fun b _ o e => hk b o e) fin
end
end

section
variable {ζ : L2.St} {Y : Cx} {fpI : List Addr} {tn : Nat → Heap → Prop}
theorem all_loop {A : Around} {ga : Addr} {go : Obj} {g : Nat} {QB : Bool → Hp → Prop} {R : Result → Shared → Prop} (hh : A.handled = none) (hd : A.depth < recursionLimit) (hpn : (ga, go) ∈ Y.pn) (hgo : ∀ h : Heap, h.get? ga = some go → h.IsGen ga g)
    (hR : ∀ b s' H', Inv Y [] (ζ) H' s' → QB b H' → R (.ok (.ret (.bool b))) s') :
    ∀ (n i : Nat) (H : Hp) (Nx : Unit → Hp → Prop) (s : Shared) (gs : GenState), s.gens[g]? = some gs → GI ζ Y conU fpI tn () i H s → Nx () H →
      (∀ a' s'', GI ζ Y conU fpI tn a' i H s'' → Nx a' H → gs.Goes (model Y.prog Y.w) A.in1.in1 (GRr ζ Y conU fun _ H => QB true H) (GP ζ Y conU fpI tn (outAll QB)) n (.send .none) s'') →
      codeAny (model Y.prog Y.w) A (.builtin "all.loop" ⟨[.ref ga], []⟩) R s := by
  intro n
  induction n with
  | zero =>
    intro i H Nx s gs hgs gi hN goes
    refine codeAny_builtin F.entry_all_loop ?_
    rw [Around.under_plainId F.plain_all_loop _]
    show wpAny _ A.in1 (pyNext (.ref ga) >>= _) _ _ s
    refine wpAny_bind (next_ge (A := A.in1) conU_ok hh hd hpn hgo hgs gi hN goes (fun i1 H1 y v Nx1 s1 gs1 rv gi1 o1 hg1 go1 => ?_) (fun H1 s1 I1 _ fin => ?_))
    · obtain ⟨c, rfl, hc⟩ := o1
      cases (show v = Value.bool c from rv)
      refine wpAny_bind (wpAny_holding (wpAny_truthy_bool ?_))
      refine wpAny_bind (wpAny_letGo ?_)
      cases c with
      | true => exact (go1 () s1 gi1 hc).elim
      | false =>
        simp only [Bool.false_eq_true, if_false]
        exact wpAny_bind (wpAny_rule (wpAny_pure (hR false s1 H1 gi1.1 hc)))
    · exact wpAny_bind (wpAny_rule (wpAny_pure (hR true s1 H1 I1 fin)))
  | succ n ih =>
    intro i H Nx s gs hgs gi hN goes
    refine codeAny_builtin F.entry_all_loop ?_
    rw [Around.under_plainId F.plain_all_loop _]
    show wpAny _ A.in1 (pyNext (.ref ga) >>= _) _ _ s
    refine wpAny_bind (next_ge (A := A.in1) conU_ok hh hd hpn hgo hgs gi hN goes (fun i1 H1 y v Nx1 s1 gs1 rv gi1 o1 hg1 go1 => ?_) (fun H1 s1 I1 _ fin => ?_))
    · obtain ⟨c, rfl, hc⟩ := o1
      cases (show v = Value.bool c from rv)
      refine wpAny_bind (wpAny_holding (wpAny_truthy_bool ?_))
      refine wpAny_bind (wpAny_letGo ?_)
      cases c with
      | true =>
        simp only [if_true]
        exact wpAny_pure ⟨plainId_quiet F.plain_all_loop _, ih i1 H1 Nx1 s1 gs1 hg1 gi1 hc go1⟩
      | false =>
        simp only [Bool.false_eq_true, if_false]
        exact wpAny_bind (wpAny_rule (wpAny_pure (hR false s1 H1 gi1.1 hc)))
    · exact wpAny_bind (wpAny_rule (wpAny_pure (hR true s1 H1 I1 fin)))
end
section
variable {X : Cx} {pins : List (Addr × Obj)} {σ : L2.St} {H : Hp} {s : Shared}

/-- what is read in it of the def's own names -/
structure Capt (X : Cx) (scope : Scope) (N : List Str) (caps : List (Option Nat)) : Prop where
  len : caps.length = N.length
  at_ : ∀ (i k : Nat), caps[i]? = some (some k) → ∃ (x : Str) (c : Addr), N[i]? = some x ∧ X.N[k]? = some x ∧ scope.names.lookup x = some .free ∧ (X.env.kindOf x = some .cell ∨ X.env.kindOf x = some .free) ∧ X.env.cells.lookup x = some c ∧ (clC X scope).lookup x = some c
def zet (caps : List (Option Nat)) (σ : L2.St) : L2.St := caps.map fun o => o.bind fun k => (σ[k]?).join
theorem zet_at {caps : List (Option Nat)} {σ : L2.St} {i : Nat} {v : V} (h : (zet caps σ)[i]? = some (some v)) : ∃ k, caps[i]? = some (some k) ∧ σ[k]? = some (some v) := by
  unfold zet at h
  rw [List.getElem?_map] at h
  cases e : caps[i]? with
  | none => rw [e] at h; cases h
  | some o =>
    rw [e] at h
    cases o with
    | none => simp at h
    | some k =>
      refine ⟨k, rfl, ?_⟩
      simp at h
      cases e2 : σ[k]? with
      | none => rw [e2] at h; simp at h
      | some w => rw [e2] at h; simp at h; rw [h]
theorem ge_startV {caps : List (Option Nat)} {A : Around} {N : List Str} {scope : Scope} {code : Value} {fp : List Addr} {go : Obj} {G : Array GenState} {tk : Nat} {h5 : Heap} {m0 : Str → Option Value} (I : Inv X pins σ H s) (S : GSf X scope) (cp : Capt X scope N caps) (hA : A.handled = none) (hf : A.frames = some X.stack)
    (hfp : ∀ b ∈ fp, FpOk X pins H b ∧ b < s.heap.objs.size) (hG : AllBare G) (hns : h5.Ns s.heap.objs.size m0) (hk : ∀ b o, s.heap.get? b = some o → h5.get? b = some o) (hgo : h5.get? (s.heap.objs.size + 1) = some go) (hgd : ∀ v, go.data ≠ .cell v) :
    Inv (gx X A N s H (ceC X scope s.heap.objs.size code) fp [(s.heap.objs.size + 1, go)]) [] (zet caps σ) H { s with gens := G, toks := tk, heap := h5 } := by
  have noc : ∀ x c, (ceC X scope s.heap.objs.size code).cells.lookup x = some c → X.env.cells.lookup x = some c := fun x c e => S.cl_of e
  have stkne : ∀ b, s.heap.objs.size ≤ b → b ∉ frs X.stack := fun b hb z => by
    rcases List.mem_cons.mp (I.stkSub b z) with e | e
    · exact absurd (Nat.lt_of_lt_of_le I.lt (by rw [← e]; exact hb)) (Nat.lt_irrefl _)
    · exact I.nofs hb e
  refine ⟨⟨I.ok.mod, S.kind, I.ok.glob, rfl, Nat.le_refl _, fun x y c h1 h2 => I.ok.inj x y c (noc x c h1) (noc y c h2), fun x hx => S.has hx, fun x c h _ => (by cases h), fun _ => hA, Around.frames_deeper hf, .inr ⟨rfl, rfl⟩, fun b hb => ⟨Nat.ne_of_lt (hfp b hb).2, fun x c e => ((hfp b hb).1.2.2.2.2.1 x c (noc x c e))⟩,
    I.bs, Nat.le_trans I.ok.bsz I.sz, fun b o e hb => ?_, fun b hb z => ?_, I.stack, I.stkFree⟩, rfl, hG, Un.kept hk, ⟨m0, hns, fun i x v h1 h2 _ => by
      obtain ⟨k, hk1, hk2⟩ := zet_at h2
      obtain ⟨x', c, e1, e2, e3, e4, e5, e6⟩ := cp.at_ i k hk1
      have e1' := e1.symm.trans h1
      cases e1'
      obtain ⟨m1, _, look⟩ := I.loc
      obtain ⟨u, ru, lk⟩ := look k x v e2 hk2 (e4.elim (fun z => .inr (.inl z)) fun z => .inr (.inr z))
      refine ⟨u, ru, .inr ⟨.inr e3, c, e6, ?_⟩⟩
      rcases lk with ⟨z, _⟩ | ⟨_, c', z1, z2⟩
      · rcases e4 with y | y <;> (rw [y] at z; cases z)
      · rw [e5] at z1
        cases z1
        exact z2.keeps hk⟩, fun x c e => (I.cell x c (noc x c e)).imp fun v hv => hv.keeps hk, I.hok.fresh (Nat.le_refl _), fun x c e => I.freeC x c (noc x c e), fun p hp => ?_, I.hok.kept hk, by show (zet caps σ).length = N.length; unfold zet; rw [List.length_map]; exact cp.len⟩
  · rcases (hfp b hb).1.2.2.2.1 with z | z
    · exact I.ok.noex b o e z
    · exact absurd (Nat.lt_of_lt_of_le (Heap.lt_size e) (Nat.le_trans I.ok.bsz z)) (Nat.lt_irrefl _)
  · rcases List.mem_cons.mp (I.stkSub b z) with e | e
    · exact (hfp b hb).1.2.1 e
    · exact (hfp b hb).1.2.2.1 e
  · have hp' : p ∈ [(s.heap.objs.size + 1, go)] := by simpa using hp
    rw [List.mem_singleton.mp hp']
    exact ⟨hgo, I.hok.fresh (Nat.le_succ _), Nat.succ_ne_self _, stkne _ (Nat.le_succ _), hgd⟩


theorem gen_makeV {caps : List (Option Nat)} {N : List Str} {c P : Addr} {elt tg iter : Expr} {ifs : List Expr} {gpos : Pos} {scope : Scope} {wi : TI} {k : Nat} {Q' : Value → Shared → Prop} {R : It → Hp → Prop}
    (hr : Room k X.A) (TB : GxR.TabB X.base X.mg c P) (hcode : X.env.code = .ref c) (S : GSf X scope) (cp : Capt X scope N caps) (hi : PI X tg iter wi) (hs : ∀ v, genFold iter X.env v = pure v) (I : Inv X pins σ H s) (h : wi σ H fun J H1 => GxR.TabG H1 P ∧ R J H1)
    (hQ : ∀ J H1 H2 s4 s5 code fp it tn go g, R J H1 → GxR.Tabbed P H1 H2 → Inv X pins σ H2 s4 → (∀ b ∈ fp, FpOk X pins H2 b ∧ b < s4.heap.objs.size) → Turn X.prog X.w X.K tg J fp it tn → tn 0 s5.heap →
      (∀ A, A.handled = none → A.frames = some X.stack → Inv (gx X A N s4 H2 (ceC X scope s4.heap.objs.size code) fp [(s4.heap.objs.size + 1, go)]) [] (zet caps σ) H2 s5) →
      (∀ h : Heap, h.get? (s4.heap.objs.size + 1) = some go → h.IsGen (s4.heap.objs.size + 1) g) →
      s5.gens[g]? = some (.fresh (.compStart (.GeneratorExp elt [⟨tg, iter, ifs, 0⟩] scope gpos) 0 (.ref it) .none (ceC X scope s4.heap.objs.size code))) → Q' (.ref (s4.heap.objs.size + 1)) s5) :
    wpAny (model X.prog X.w) X.A (eval (.GeneratorExp elt [⟨tg, iter, ifs, 0⟩] scope gpos) X.env) Q' X.xe s := by
  have hcl : closureFor scope X.env = pure (clC X scope) := closure_ok S.free
  refine wpAny_GeneratorExp_make S.co hcl S.own S.dot S.kind (by have := hr.dp; omega) (thn (hi.run pins s σ H _ I h) fun xv s1 hx => thn hx fun itv s2 h2 => ?_) hs
  obtain ⟨it, fp, tn, J, H1, e, I2, T, st2, f2, ⟨ps, hP, ht⟩, q1⟩ := h2
  subst e
  have hPs : s2.heap.get? P = some { cls := .none, data := .fields ps } := I2.hok P _ hP
  have cd : PySem.W.CodeHd s2.heap c P := TB.code.keeps fun b u e => I2.bk b u e
  have nfp : ∀ b ∈ fp, b ≠ P := fun b hb z => by
    have := (f2 b hb).1
    rw [z, hP] at this
    cases this
  have szf : ∀ b ∈ fp, b < s2.heap.objs.size := fun b hb => by
    obtain ⟨o, e, _⟩ := T.obj _ _ st2 b hb
    exact Heap.lt_size e
  have cont : ∀ (code : Value) (h3 : Heap) (tk : Nat) (ps' : Array Value), Heap.ExtBut P s2.heap h3 → s2.heap.objs.size ≤ h3.objs.size → h3.get? P = some { cls := .none, data := .fields ps' } → (∃ more, ps' = ps ++ more) → TriplesOk ps'.toList →
      wpAny (model X.prog X.w) X.A (builtinsFor X.env.globals X.env.builtins) (fun bi s4 =>
        ∀ h', h'.Ns s4.heap.objs.size (fun y => if y = ".0" then some (.ref it) else none) → Heap.SameBut s4.heap.objs.size (s4.heap.push { cls := .type "frame", data := .dict #[] }) h' →
          Q' (.ref h'.objs.size) { s4 with
            gens := s4.gens.push (.fresh (.compStart (.GeneratorExp elt [⟨tg, iter, ifs, 0⟩] scope gpos) 0 (.ref it) .none (genEnv scope (clC X scope) s4.heap.objs.size code bi X.env))),
            toks := s4.toks + 1 + 1 + 1,
            heap := h'.push { cls := .type "generator", data := .fields #[.int s4.gens.size 0, .str "<genexpr>" (s4.toks + 1), .str (X.env.qual ++ "<genexpr>") (s4.toks + 1 + 1)] } }) X.xe { s2 with heap := h3, toks := tk } := by
    intro code h3 tk ps' hx hsz hP3 hmore ht3
    obtain ⟨bm, ob, e1, e2, e3, e4, e5, e6, e7, e8⟩ := TB.bm
    obtain ⟨more, rfl⟩ := hmore
    have I3 : Inv X pins σ (upd H1 P (.tbl (ps ++ more))) { s2 with heap := h3, toks := tk } := GxR.inv_tab (more := more) (g' := s2.gens) (d' := s2.drawn) I2 hP (fun b u hb e => hx b u hb e) hP3 I2.bare
    have tab : GxR.Tabbed P H1 (upd H1 P (.tbl (ps ++ more))) := ⟨⟨_, upd_same, ht3⟩, fun b hb => upd_ne hb⟩
    have st3 : tn 0 h3 := T.keep _ _ _ st2 fun b hb o e => hx b o (nfp b hb) e
    have f3 : ∀ b ∈ fp, FpOk X pins (upd H1 P (.tbl (ps ++ more))) b ∧ b < h3.objs.size := fun b hb =>
      ⟨⟨by rw [upd_ne (nfp b hb)]; exact (f2 b hb).1, (f2 b hb).2⟩, Nat.lt_of_lt_of_le (szf b hb) hsz⟩
    refine wpAny_builtinsFor (m := X.mg) (by rw [I3.ok.glob]; exact I3.mod.glob.keeps I3.bk) e1 e2 (I3.bk _ _ e5) e6 e7 e8 ?_
    intro h' hns hsb
    have hsz' : h'.objs.size = h3.objs.size + 1 := by rw [hsb.1, Heap.size_push]
    have keep' : ∀ b o, h3.get? b = some o → h'.get? b = some o := fun b o e => hsb.extBut b o (Nat.ne_of_lt (Heap.lt_size e)) (Heap.get?_push_of_some _ e)
    have main : ∀ (go : Obj), go.cls = .type "generator" → (∃ nm qn, go.data = .fields #[.int s2.gens.size 0, nm, qn]) → go.slots = #[] → (∀ h : Heap, (h.push go).get? h.objs.size = some go) → ∀ t',
        Q' (.ref h'.objs.size) { s2 with heap := h'.push go, toks := t', gens := s2.gens.push (.fresh (.compStart (.GeneratorExp elt [⟨tg, iter, ifs, 0⟩] scope gpos) 0 (.ref it) .none (genEnv scope (clC X scope) h3.objs.size code builtinsNs X.env))) } := by
      intro go gc ⟨nm, qn, gd⟩ gsl gp t'
      have hgp := gp h'
      rw [hsz'] at hgp ⊢
      have keep5 : ∀ b o, h3.get? b = some o → (h'.push go).get? b = some o := fun b o e => Heap.get?_push_of_some _ (keep' b o e)
      refine hQ J H1 (upd H1 P (.tbl (ps ++ more))) { s2 with heap := h3, toks := tk } _ code fp it tn go s2.gens.size q1 tab I3 f3 T (T.keep _ _ _ st3 fun b _ o e => keep5 b o e) (fun A hA hf => ?_) (fun h e => ⟨go, nm, qn, e, gc, gd, gsl⟩) (Array.getElem?_push_size ..)
      exact ge_startV (s := { s2 with heap := h3, toks := tk }) I3 S cp hA hf f3 (I2.bare.push rfl) (hns.push _) keep5 hgp (fun v z => by rw [gd] at z; cases z)
    exact main _ rfl ⟨_, _, rfl⟩ rfl (fun h => Heap.get?_push_size _ rfl) _
  refine ⟨I2.nolimit, ?_⟩
  cases hf : codeAmong gpos ps.toList with
  | none =>
    refine wpAny_genexprCodeX hcode (cd.code hPs ht) (cd.tab hPs) hf fun c' h' tk hx hge hlt hco' _ htab' _ => ?_
    obtain ⟨o1, vs, f1, tf, fl, tg', inF, tx, tt, op, _, _, _, _, _, _, _, _, _, htr, _⟩ := hco'
    exact cont _ h' tk _ hx (Nat.le_trans hge (Nat.le_of_lt hlt)) htab'.2 ⟨_, rfl⟩ htr
  | some cv =>
    refine wpAny_genexprCode_hit hcode (cd.code hPs ht) hf ?_
    exact cont cv s2.heap s2.toks ps (Heap.ExtBut.refl _ _) (Nat.le_refl _) hPs ⟨#[], by simp⟩ ht



def tGenV (P : Addr) (caps : List (Option Nat)) (wi : TI) (g : TG) (tt : TT) (te : TE) (Out : (Bool → Hp → Prop) → Unit → V → Hp → (Unit → Hp → Prop) → Prop) (fin : Bool) : TE := fun σ H Q => wi σ H fun J H1 => GxR.TabG H1 P ∧ ∀ H2, GxR.Tabbed P H1 H2 →
  ∃ W : Unit → Nat → Nat → Hp → Prop, (∃ m, W () 0 m H2) ∧ TurnV J (zet caps σ) g tt te (Out fun b H => Q (.bl b) H) (fun _ H => Q (.bl fin) H) W
theorem pe_allV {caps : List (Option Nat)} {N : List Str} {c P : Addr} {elt tg iter : Expr} {ifs : List Expr} {p pos gpos : Pos} {scope : Scope} {wi : TI} {g : TG} {tt : TT} {te : TE} {k : Nat}
    (hr : Room (k + 1) X.A) (hgl : Gl X "all") (hm : X.mg "all" = none) (TB : GxR.TabB X.base X.mg c P) (hcode : X.env.code = .ref c) (S : GSf X scope) (cp : Capt X scope N caps) (hi : PI X tg iter wi)
    (hg : ∀ (A : Around) (s : Shared) (H : Hp) (C : Addr) (code : Value) (fp : List Addr) (pn : List (Addr × Obj)), Room k (A.deeper (ceC X scope C code)) → PG (gx X A N s H (ceC X scope C code) fp pn) tg g)
    (ht : ∀ (A : Around) (s : Shared) (H : Hp) (C : Addr) (code : Value) (fp : List Addr) (pn : List (Addr × Obj)), Room k (A.deeper (ceC X scope C code)) → PTs (gx X A N s H (ceC X scope C code) fp pn) ifs tt)
    (he : ∀ (A : Around) (s : Shared) (H : Hp) (C : Addr) (code : Value) (fp : List Addr) (pn : List (Addr × Obj)), Room k (A.deeper (ceC X scope C code)) → PE (gx X A N s H (ceC X scope C code) fp pn) elt te)
    (hs : ∀ v, genFold iter X.env v = pure v := by intro _; rfl)
    (hb : bootBuiltins "all" = some (.builtin "all") := by decide +kernel)
    (hst : starEach [.GeneratorExp elt [⟨tg, iter, ifs, 0⟩] scope gpos] X.env = (false, eval (.GeneratorExp elt [⟨tg, iter, ifs, 0⟩] scope gpos) X.env) :: starEach [] X.env := by rfl) :
    PE X (.Call (.Name "all" p) [.GeneratorExp elt [⟨tg, iter, ifs, 0⟩] scope gpos] [] pos) (tGenV P caps wi g tt te outAll true) := by
  refine ⟨fun pins s σ H Q I h => ?_⟩
  refine wpAny_Call_Name_kw (ld_blt I hgl hm hb ?_)
  refine PyProof.Rows.callWith_builtin1 ?_ hst (by rfl)
  rw [hst]
  show wpAny _ _ (spliced ((false, eval (.GeneratorExp elt [⟨tg, iter, ifs, 0⟩] scope gpos) X.env) :: backTo pos (starEach [] X.env))) _ _ s
  refine Calls.spliced_cons (gen_makeV hr TB hcode S cp hi hs I h fun J H1 H2 s4 s5 code fp it tn go gn hR tab I4 f4 T st5 mk hgo hgs => ?_)
  refine Calls.spliced_nil ?_
  obtain ⟨W, ⟨m0, w0⟩, turn⟩ := hR H2 tab
  have rY := room3 hr (ceC X scope s4.heap.objs.size code)
  have I5 := mk X.A.in1.in1 hr.hd I.ok.frames
  generalize hpn : [(s4.heap.objs.size + 1, go)] = pn at I5
  have hpm : (s4.heap.objs.size + 1, go) ∈ pn := by rw [← hpn]; exact List.mem_singleton.mpr rfl
  have hpf : ∀ p ∈ pn, p.1 ∉ fp := fun p hp z => by
    rw [← hpn] at hp
    rw [List.mem_singleton.mp hp] at z
    exact absurd (f4 _ z).2 (Nat.not_lt.mpr (Nat.le_succ _))
  have gi0 : GI (zet caps σ) (gx X X.A.in1.in1 N s4 H2 (ceC X scope s4.heap.objs.size code) fp pn) conU fp tn () 0 H2 s5 := ⟨I5, trivial, st5, fun b hb => (f4 b hb).1.1⟩
  have isg := hgo _ (I5.pin _ (List.mem_append_left _ hpm)).1
  refine call_function_tree F.kind_all F.plain_all F.entry_all (F.args_all1 _) ?_
  unfold Builtin.«all»
  refine wpAny_bind (m := oneArg "all" _) (wpAny_pure ?_)
  refine wpAny_bind (wpAny_pyIter_gen isg ?_)
  refine wpAny_pure ⟨plainId_quiet F.plain_all_loop _, ?_⟩
  refine all_loop (ζ := zet caps σ) (Y := gx X X.A.in1.in1 N s4 H2 (ceC X scope s4.heap.objs.size code) fp pn) (A := X.A) (g := gn) (QB := fun b H => Q (.bl b) H) hr.hd hr.depth hpm hgo (fun b s' H' I' q => ?_) (m0 + 1) 0 H2 (fun a H => W a 0 m0 H) s5 _ hgs gi0 w0 (fun a' s'' gi' w' => ?_)
  · exact ⟨.bl b, H', ge_back I4 f4 I', rfl, q⟩
  · exact ⟨rfl, seg_start (ζ := zet caps σ) (Y := gx X X.A.in1.in1 N s4 H2 (ceC X scope s4.heap.objs.size code) fp pn) conU_ok rfl T (hg _ _ _ _ _ _ _ rY) (ht _ _ _ _ _ _ _ rY) (he _ _ _ _ _ _ _ rY) rfl (fun b hb => hb) (fun b hb => nomatch hb) hpf rfl S.co (by show (zet caps σ).length = N.length; unfold zet; rw [List.length_map]; exact cp.len) turn m0 a' (m0 + 1) H2 s'' (Nat.lt_succ_self _) w' gi'⟩
end
end GV
set_option Elab.async false
set_option linter.all false
set_option maxRecDepth 100000
set_option maxHeartbeats 4000000
namespace CL
open PySem PySem.Spec PyProof.Rows L2 GE
abbrev sLine : Stmt := topS 42
abbrev nLine : List Str := ["pieces", "moment", "people", "left", "person", "place"]
theorem scLine : FnScope nLine ["pieces", "moment"] (defScope sLine) := ⟨rfl, rfl, rfl, by decide +kernel, rfl, by decide +kernel, by decide +kernel⟩
abbrev sLet : Stmt := topS 41
theorem scLet : FnScope ["left", "place"] ["left"] (defScope sLet) := ⟨rfl, rfl, rfl, by decide +kernel, rfl, by decide +kernel, by decide +kernel⟩
/-! ### xs[i] -= e -/
theorem get_list {X : Cx} : PGet X (fun x y H Q => ∃ p xs, ∃ i : Nat, ∃ v, x = .ref p ∧ y = .int (i : Int) ∧ SqL X.K H p xs ∧ xs[i]? = some v ∧ Q v H) := by
  intro pins s σ H o k ov iv Q I ro ri h
  obtain ⟨p, xs, i, v, rfl, rfl, hs, hv, q⟩ := h
  cases ro
  obtain ⟨t, rfl⟩ := ri
  obtain ⟨its, r, pl, hz⟩ := I.list hs
  obtain ⟨w, ew, rw'⟩ := r.get hv
  have hn := line63
  have hl : i < xs.length := (List.getElem?_eq_some_iff.mp hv).1
  exact wpAny_getItem_list pl.isList (by omega) (by omega) (by simpa using ew) ⟨v, H, I, rw', q⟩
/-! ### who comes goes past all that let it -/
def goes : Nat → List (Option Int) → Nat × List (Option Int)
  | 0, l => (0, l)
  | p + 1, l => match l[p]? with
    | some (some k) => if k = 0 then (p + 1, l) else goes p (l.set p (some (k - 1)))
    | some none => goes p l
    | none => (p + 1, l)
theorem goes_le : ∀ (p : Nat) (l : List (Option Int)), (goes p l).1 ≤ p ∧ (goes p l).2.length = l.length
  | 0, l => ⟨Nat.le_refl 0, rfl⟩
  | p + 1, l => by
    unfold goes
    split
    · split
      · exact ⟨Nat.le_refl _, rfl⟩
      · have h := goes_le p (l.set p (some (‹Int› - 1)))
        exact ⟨Nat.le_succ_of_le h.1, by rw [h.2, List.length_set]⟩
    · have h := goes_le p l
      exact ⟨Nat.le_succ_of_le h.1, h.2⟩
    · exact ⟨Nat.le_refl _, rfl⟩
def stand (st : List Int × List (Option Int)) (who : Int) (e : Option Int) : List Int × List (Option Int) :=
  (st.1.take (goes st.1.length st.2).1 ++ [who] ++ st.1.drop (goes st.1.length st.2).1, (goes st.1.length st.2).2.take (goes st.1.length st.2).1 ++ [e] ++ (goes st.1.length st.2).2.drop (goes st.1.length st.2).1)
def lined (pat : Nat → Option Int) : Nat → List Int × List (Option Int)
  | 0 => ([], [])
  | n + 1 => stand (lined pat n) (n : Int) (pat n)
theorem lined_len (pat : Nat → Option Int) : ∀ n, (lined pat n).1.length = n ∧ (lined pat n).2.length = n
  | 0 => ⟨rfl, rfl⟩
  | n + 1 => by
    obtain ⟨h1, h2⟩ := lined_len pat n
    obtain ⟨g1, g2⟩ := goes_le (lined pat n).1.length (lined pat n).2
    rw [h1] at g1
    rw [h2] at g2
    unfold lined stand
    simp only [List.length_append, List.length_take, List.length_drop, List.length_singleton, h1]
    rw [h1] at g2
    constructor <;> omega
theorem rp_opt2 {H : Hp} : ∀ o : Option Int, Rp H (optV o) (optD o)
  | none => .non
  | some i => .int i
def spLet : Sp := fun vs H Q _ => ∃ (L : Addr) (l : List (Option Int)), vs = [.ref L] ∧ H L = some (.lst (l.map optV)) ∧ l.length ≤ 2000 ∧ ∀ H', (∀ b, b ≠ L → H' b = H b) → H' L = some (.lst ((goes l.length l).2.map optV)) → Q (.int ((goes l.length l).1 : Int)) H'
def spLine : Sp := fun vs H Q _ => ∃ a ps, ∃ m : Nat, ∃ pat : Nat → Option Int, vs = [.ref a, .int (m : Int)] ∧ PcsAt H a ps ∧ m ≤ 2000 ∧ (∀ n : Nat, n < m → HasP ps (n : Int) (optD (pat n))) ∧
  ∀ p L1 L2 H', Same H H' → H L1 = none → H L2 = none → L1 ≠ L2 → H' p = some (.tup [.ref L1, .ref L2]) → H' L1 = some (.lst ((lined pat m).1.map V.int)) → H' L2 = some (.lst ((lined pat m).2.map optV)) → Q (.ref p) H'
theorem optV_dp {K : PySem.W.Frag} {H : Hp} : ∀ o : Option Int, Dp K H (optV o) (optD o)
  | none => .non
  | some i => .int i
theorem optD_shaped : ∀ o : Option Int, SeqAt.shaped (optD o) = true
  | none => by decide
  | some i => by unfold SeqAt.shaped; simp [optD, PyData.canLay0, PyData.depth]
theorem optV_ne0 : ∀ o : Option Int, (!PyData.eqv (optD o) (.int 0)) = !decide (o = some 0)
  | none => by simp [optD, PyData.eqv]
  | some i => by
    by_cases h : i = 0
    · subst h; simp [optD, PyData.eqv]
    · simp [optD, PyData.eqv, h]
theorem rp_optV {H : Hp} {v : V} : ∀ {o : Option Int}, Rp H v (optD o) → v = optV o
  | none, h => by cases h; rfl
  | some i, h => by cases h; rfl
theorem stand_fin {st : List Int × List (Option Int)} {i k : Nat} {l : List (Option Int)} {e : Option Int} (l1 : st.1.length = i) (h : (k, l) = goes i st.2) :
    (st.1.map V.int).take k ++ [V.int (0 + (i : Int))] ++ (st.1.map V.int).drop k = (stand st (i : Int) e).1.map V.int ∧ (l.map optV).take k ++ [optV e] ++ (l.map optV).drop k = (stand st (i : Int) e).2.map optV := by
  unfold stand
  rw [l1, ← h]
  simp only [List.map_append, List.map_take, List.map_drop, List.map_cons, List.map_nil, Int.zero_add, and_self]
theorem ixN_nat {n j : Nat} (h : j < n) : ixN n (j : Int) = some j := by
  unfold ixN
  rw [if_pos (by omega)]
  simp [h]
section
variable {P : Program} {w : World} {K : PySem.W.Frag} {mg : Str → Option Value} {base : Heap}
theorem ok_let {f : Addr} {fd : FuncData} (F : Fun K "let_past" "let_past" sLet f fd) (T : Nm mg) : FnOk P w K mg base CX0 1 f fd ["left"] spLet := by
  refine F.ok scLet (fun vs H Q E ⟨L, l, e, _⟩ => by rw [e]; rfl) (fun cdv A outer s H vs Q E hr h => ?_)
  obtain ⟨L2, l0, rfl, eL, hl0, q⟩ := h
  have nd := scLet.nd
  refine ⟨_, (pss_cons (ps_set (i := 1) nd rfl (.inl rfl) (pe_callB call_len_seq (by rfl) T.len PySem.boot_len (pa_cons (pv 0) pa_nil)))
      (pss_cons (ps_while PassesOwn.never (PW.pt (pw_and (pt_cmpR op_gt (pv 1) pe_int (nomark _)) (pw_and1 (pt_cmpR (op_neD hr.units) (pe_ix ix_list (pv 0) (pe_op op_sub (pv 1) pe_int) (fun _ _ => rfl)) pe_int (nomark _)))))
        (pss_cons (ps_aug (i := 1) nd rfl (.inl rfl) pe_int ip_sub)
        (pss_one (ps_if (pt_cmp (pc_notN (pe_ix ix_list (pv 0) (pv 1) (fun _ _ => rfl)))) (pss_one (ps_augS (pv 0) (pv 1) get_list pe_int ip_sub set_list)) pss_nil))))
      (pss_one (ps_ret (pv 1))))), ?_⟩
  refine ⟨.ref L2, rfl, L2, _, rfl, .inl (SqL.of eL), ?_⟩
  rw [List.length_map]
  refine ⟨fun k σ H3 => ∃ l : List (Option Int), σ = [some (.ref L2), some (.int (k : Int))] ∧ (∀ b, b ≠ L2 → H3 b = H b) ∧ H3 L2 = some (.lst (l.map optV)) ∧ l.length = l0.length ∧ k ≤ l0.length ∧ goes k l = goes l0.length l0,
      ⟨l0.length, l0, rfl, fun b _ => rfl, eL, rfl, Nat.le_refl _, rfl⟩, fun k σ H3 hW => ?_⟩
  obtain ⟨l, rfl, s3, f2, hl, hk, hg⟩ := hW
  have ix : ∀ {b : Nat} {o : Option Int}, l[b]? = some o → (l.map optV)[b]? = some (optV o) := fun {b o} e => by rw [List.getElem?_map, e]; rfl
  have fin : ∀ {k : Nat}, (k, l) = goes l0.length l0 → Q (.int (k : Int)) H3 := fun {k} e => by
    have q' := q H3 s3
    rw [← e] at q'
    exact q' f2
  cases k with
  | zero =>
    refine ⟨.int ((0 : Nat) : Int), rfl, ((0 : Nat) : Int), 0, rfl, rfl, decide ((0 : Int) < ((0 : Nat) : Int)), rfl, iteF ?_⟩
    exact ⟨.int ((0 : Nat) : Int), rfl, fin hg⟩
  | succ k' =>
    have hk' : k' < l.length := by omega
    obtain ⟨o, ho⟩ : ∃ o, l[k']? = some o := ⟨_, List.getElem?_eq_getElem hk'⟩
    have hi1 : ((k' + 1 : Nat) : Int) - 1 = (k' : Int) := by omega
    refine ⟨.int ((k' + 1 : Nat) : Int), rfl, ((k' + 1 : Nat) : Int), 0, rfl, rfl, decide ((0 : Int) < ((k' + 1 : Nat) : Int)), rfl, ?_⟩
    rw [decide_eq_true (by omega : (0 : Int) < ((k' + 1 : Nat) : Int))]
    refine iteT ⟨.ref L2, rfl, .int ((k' + 1 : Nat) : Int), rfl, ((k' + 1 : Nat) : Int), 1, rfl, rfl, L2, _, ((k' + 1 : Nat) : Int) - 1, optV o, rfl, rfl, SqL.of f2, by rw [hi1]; exact atI_nat (ix ho), optD o, .int 0, optV_dp o, .int 0, optD_shaped o, optD_shaped (some 0), _, rfl, ?_⟩
    rw [optV_ne0]
    by_cases hz : o = some 0
    · rw [decide_eq_true hz]
      have hg2 : (k' + 1, l) = goes l0.length l0 := by
        rw [← hg]
        unfold goes
        rw [ho, hz]
        rfl
      exact iteF ⟨.int ((k' + 1 : Nat) : Int), rfl, fin hg2⟩
    · rw [decide_eq_false hz]
      cases o with
      | none =>
        have hg2 : goes k' l = goes l0.length l0 := by
          rw [← hg]
          conv => rhs; unfold goes
          rw [ho]
        refine iteT ⟨fun σ' H'' => σ' = [some (.ref L2), some (.int (((k' + 1 : Nat) : Int) - 1))] ∧ H'' = H3, fun σ' H'' z => ⟨k', Nat.lt_succ_self k', l, by rw [z.1, hi1], by rw [z.2]; exact s3, by rw [z.2]; exact f2, hl, by omega, hg2⟩, ?_⟩
        refine ⟨.int ((k' + 1 : Nat) : Int), rfl, ((k' + 1 : Nat) : Int), 1, rfl, rfl, .ref L2, rfl, .int (((k' + 1 : Nat) : Int) - 1), rfl, L2, _, ((k' + 1 : Nat) : Int) - 1, optV none, rfl, rfl, SqL.of f2, by rw [hi1]; exact atI_nat (ix ho), _, rfl, iteF ⟨rfl, rfl⟩⟩
      | some j =>
        have hj0 : j ≠ 0 := fun z => hz (by rw [z])
        have hg2 : goes k' (l.set k' (some (j - 1))) = goes l0.length l0 := by
          rw [← hg]
          conv => rhs; unfold goes
          rw [ho]
          exact (if_neg hj0).symm
        refine iteT ⟨fun σ' H'' => σ' = [some (.ref L2), some (.int (((k' + 1 : Nat) : Int) - 1))] ∧ H'' = upd H3 L2 (.lst ((l.set k' (some (j - 1))).map optV)), fun σ' H'' z => ⟨k', Nat.lt_succ_self k', l.set k' (some (j - 1)), by rw [z.1, hi1], by rw [z.2]; exact fun b hb => by rw [upd_ne hb]; exact s3 b hb, by rw [z.2]; exact upd_same, by rw [List.length_set]; exact hl, by omega, hg2⟩, ?_⟩
        refine ⟨.int ((k' + 1 : Nat) : Int), rfl, ((k' + 1 : Nat) : Int), 1, rfl, rfl, .ref L2, rfl, .int (((k' + 1 : Nat) : Int) - 1), rfl, L2, _, ((k' + 1 : Nat) : Int) - 1, optV (some j), rfl, rfl, SqL.of f2, by rw [hi1]; exact atI_nat (ix ho), _, rfl, iteT ?_⟩
        refine ⟨.ref L2, rfl, .int (((k' + 1 : Nat) : Int) - 1), rfl, L2, _, k', optV (some j), rfl, by rw [hi1], SqL.of f2, ix ho, j, 1, rfl, rfl, L2, _, (k' : Int), k', rfl, by rw [hi1], f2, ixN_nat (by rw [List.length_map]; exact hk'), rfl, ?_⟩
        rw [List.map_set]
        first | rfl | exact ⟨rfl, rfl⟩
theorem ok_line {f : Addr} {fd : FuncData} (F : Fun K "line_up" "line_up" sLine f fd) (T : Nm mg) (hrange : mg "range" = none) (CA : Cal P w K mg base 3 "patience_at" ["pieces", "person"] spPatAt) (CT : Cal P w K mg base 3 "let_past" ["left"] spLet) : FnOk P w K mg base CX0 4 f fd ["pieces", "moment"] spLine := by
  refine F.ok scLine (fun vs H Q E ⟨a, ps, m, pat, e, _⟩ => by rw [e]; rfl) (fun cdv A outer s H vs Q E hr h => ?_)
  obtain ⟨a, ps, m, pat, rfl, hp, hm, hh, q⟩ := h
  have nd := scLine.nd
  have sz : 2001 ≤ sizeLine := by decide
  refine ⟨_, (pss_cons (ps_set (i := 2) nd rfl (.inl rfl) (pe_lst pa_nil)) (pss_cons (ps_set (i := 3) nd rfl (.inl rfl) (pe_lst pa_nil))
    (pss_cons (ps_for PassesOwn.never rfl (pi_range1 (by rfl) hrange (pa_cons (pv 1) pa_nil)) (pg_name (i := 4) nd rfl (.inl rfl))
      (pss_cons (ps_set (i := 5) nd rfl (.inl rfl) (pe_cal CT hr (by rfl) (pa_cons (pv 3) pa_nil)))
      (pss_cons (ps_expr (pe_bm PySem.F.plainAttrs_list PySem.F.slot_list_insert PySem.F.type_list_insert mt_insert (pv 2) (pa_cons (pv 5) (pa_cons (pv 4) pa_nil))))
      (pss_one (ps_expr (pe_bm PySem.F.plainAttrs_list PySem.F.slot_list_insert PySem.F.type_list_insert mt_insert (pv 3) (pa_cons (pv 5) (pa_cons (pe_cal CA hr (by rfl) (pa_cons (pv 0) (pa_cons (pv 4) pa_nil))) pa_nil))))))))
    (pss_one (ps_ret (pe_tup (pa_cons (pv 2) (pa_cons (pv 3) pa_nil)))))))), ?_⟩
  refine ⟨Nat.zero_le _, fun L1 n1 => ⟨Nat.zero_le _, fun L2 n2 => ?_⟩⟩
  have s1 : Same H (upd H L1 (.lst [])) := same_upd n1
  have n2' : H L2 = none := by
    cases z : H L2 with
    | none => rfl
    | some o => rw [s1 _ _ z] at n2; cases n2
  have ne12 : L1 ≠ L2 := fun z => by rw [← z, upd_same] at n2; cases n2
  show tSeq _ _ _ [some (.ref a), some (.int (m : Int)), some (.ref L1), some (.ref L2), none, none] (upd (upd H L1 (.lst [])) L2 (.lst []))
  have s0 : Same H (upd (upd H L1 (.lst [])) L2 (.lst [])) := s1.trans (same_upd n2)
  have e1 : (upd (upd H L1 (.lst [])) L2 (.lst [])) L1 = some (.lst []) := by rw [upd_ne ne12]; exact upd_same
  have e2 : (upd (upd H L1 (.lst [])) L2 (.lst [])) L2 = some (.lst []) := upd_same
  generalize hG : upd (upd H L1 (.lst [])) L2 (.lst []) = G at s0 e1 e2
  have keep : ∀ {G1 : Hp} {o1 o2 : HO}, Same H G1 → Same H (upd (upd G1 L1 o1) L2 o2) := fun {G1 o1 o2} s b o e => by
    rw [upd_ne (fun z => by rw [z, n2'] at e; cases e), upd_ne (fun z => by rw [z, n1] at e; cases e)]
    exact s b o e
  have keep2 : ∀ {G1 : Hp} {o2 : HO}, Same H G1 → Same H (upd G1 L2 o2) := fun {G1 o2} s b o e => by
    rw [upd_ne (fun z => by rw [z, n2'] at e; cases e)]
    exact s b o e
  have keep1 : ∀ {G1 : Hp} {o2 : HO}, Same H G1 → Same H (upd G1 L1 o2) := fun {G1 o2} s b o e => by
    rw [upd_ne (fun z => by rw [z, n1] at e; cases e)]
    exact s b o e
  refine ⟨.int (m : Int), rfl, (m : Int), rfl, by omega, by omega, ?_⟩
  refine for_range (lo := 0) (n := ((m : Int)).toNat) (fun i σ H2 => ∃ y4 y5, σ = [some (.ref a), some (.int (m : Int)), some (.ref L1), some (.ref L2), y4, y5] ∧ Same H H2 ∧ H2 L1 = some (.lst ((lined pat i).1.map V.int)) ∧ H2 L2 = some (.lst ((lined pat i).2.map optV)))
    ⟨none, none, rfl, s0, e1, e2⟩ (fun i σ H2 hi hP => ?_) (fun σ H2 hP => ?_)
  · obtain ⟨y4, y5, rfl, s2, eL1, eL2⟩ := hP
    have hi' : i < m := by
      have : ((m : Int)).toNat = m := rfl
      omega
    obtain ⟨l1, l2⟩ := lined_len pat i
    generalize hst : lined pat i = st at eL1 eL2 l1 l2
    refine ⟨.ref L2, rfl, L2, st.2, rfl, eL2, by rw [l2]; omega, fun H3 k3 f2 => ?_⟩
    rw [l2] at f2 ⊢
    obtain ⟨hk, glen⟩ := goes_le i st.2
    have hl := glen.trans l2
    generalize hg : goes i st.2 = g at f2 hk hl ⊢
    obtain ⟨k, l⟩ := g
    have hg := hg.symm
    have hl : l.length = i := hl
    have hk : k ≤ i := hk
    have f2 : H3 L2 = some (.lst (l.map optV)) := f2
    have f1 : H3 L1 = some (.lst (st.1.map V.int)) := (k3 L1 ne12).trans eL1
    have s3 : Same H H3 := fun b o e => by
      rw [k3 b (fun z => by rw [z, n2'] at e; cases e)]
      exact s2 b o e
    obtain ⟨pp, hf, hpl, he⟩ := hh i hi'
    have hpA : ∀ (H3 : Hp) {o : HO}, Same H H3 → PcsAt (upd H3 L1 o) a ps := fun H3 {o} s => by
      obtain ⟨xs, h1, h2⟩ := hp.ex
      exact ⟨xs, keep1 s _ _ h1, RpAll.sm (keep1 s) h2⟩
    show tSeq _ _ _ [some (.ref a), some (.int (m : Int)), some (.ref L1), some (.ref L2), some (.int (0 + (i : Int))), some (.int (k : Int))] H3
    refine ⟨.ref L1, rfl, .inl ⟨rfl, _, SqL.of f1⟩, .int (k : Int), rfl, .int (0 + (i : Int)), rfl, L1, _, (k : Int), _, rfl, rfl, f1, by rw [List.length_map, l1]; omega, by omega, by omega,
      .ref L2, rfl, .inl ⟨rfl, _, SqL.of (show upd H3 L1 _ L2 = _ by rw [upd_ne (Ne.symm ne12)]; exact f2)⟩, .int (k : Int), rfl, .ref a, rfl, .int (0 + (i : Int)), rfl, a, 0 + (i : Int), ps, pp, optD (pat i), rfl, hpA H3 s3, by rw [Int.zero_add]; exact hf, hpl, by rw [Int.zero_add]; exact he, fun x H4 s4 rx => ?_⟩
    obtain rfl := rp_optV rx
    have g2 := s4 L2 _ (show upd H3 L1 _ L2 = _ by rw [upd_ne (Ne.symm ne12)]; exact f2)
    have g1 := s4 L1 _ upd_same
    obtain ⟨z1, z2⟩ := stand_fin (e := pat i) l1 (hg : (k, l) = goes i st.2)
    refine ⟨L2, _, (k : Int), _, rfl, rfl, g2, by rw [List.length_map, hl]; omega, by omega, by omega, some (.int (0 + (i : Int))), some (.int (k : Int)), rfl, ?_, ?_, ?_⟩
    · exact keep2 (fun b o e => s4 _ _ (keep1 s3 b o e))
    · rw [upd_ne ne12, g1]
      show _ = some (HO.lst ((stand (lined pat i) (i : Int) (pat i)).1.map V.int))
      rw [hst, ← z1]
      rfl
    · rw [upd_same]
      show _ = some (HO.lst ((stand (lined pat i) (i : Int) (pat i)).2.map optV))
      rw [hst, ← z2]
      rfl
  · obtain ⟨y4, y5, rfl, s2, eL1, eL2⟩ := hP
    refine ⟨.ref L1, rfl, .ref L2, rfl, small_le (by show 2 ≤ 1000; decide), fun p np => ?_⟩
    exact q p L1 L2 _ (s2.trans (same_upd np)) n1 n2' ne12 upd_same (same_upd np _ _ eL1) (same_upd np _ _ eL2)
end
end CL
set_option Elab.async false
set_option linter.all false
set_option maxRecDepth 100000
set_option maxHeartbeats 4000000
namespace CL
open PySem PySem.Spec PyProof.Rows L2 GE
abbrev sListed : Stmt := topS 43
theorem scListed : FnScope ["plan", "moment", "pieces"] ["plan", "moment"] (defScope sListed) := ⟨rfl, rfl, rfl, by decide +kernel, rfl, by decide +kernel, by decide +kernel⟩
abbrev sQueue : Stmt := topS 44
theorem scQueue : FnScope ["plan", "moment", "people", "left"] ["plan", "moment"] (defScope sQueue) := ⟨rfl, rfl, rfl, by decide +kernel, rfl, by decide +kernel, by decide +kernel⟩
/-- raise C(), C a class of one's own over a built-in one -/
theorem pmk_own0 {X : Cx} {x : Str} {p pos : Pos} {B newId initId : String} {bmB : List Value} {C : Addr} (F : ExcBaseFacts B newId initId bmB) (q : PySem.W.excIn X.K C bmB newId = true) (gC : X.mg x = some (.ref C)) (kC : PySem.W.keepIn X.K (.ref C) = true) (r : Raises X (.ref C)) (hg : Gl X x)
    (hdb : (x == ("__debug__" : Str)) = false := by decide) : PMk X (.Call (.Name x p) [] [] pos) (fun _ H Q => Q (.ref C) none H) := by
  intro pins s σ H Q I h
  refine wpAny_Call_Name_kw (ld_glob I hg gC ?_ hdb)
  refine PySem.W.callWith_K0 I.kIn kC ?_
  show wpAny _ _ (call (.ref C) []) _ _ _
  obtain ⟨bm, N, nm, qn, bs, hdct, sn, sub, ab, col, dd, k0, k1, k2, k3, k5, mN, hC, hN, hni, T⟩ := exc_obj I.kIn q
  refine wpAny_call_exc_subT F T hC hN hni (fun h' e hm => ?_) (Nat.zero_le _)
  exact mk_of I hm r h (I.hok.gone hm.new)
/-! ### whoever comes by a plan has a patience -/
theorem turns_ok {d : PyData} (h : isPiece d = true) : 1 ≤ (turnsD d).length ∧ ∀ x ∈ turnsD d, isPatience x = true := by
  obtain ⟨t, m, e, ht, _⟩ := piece_parts h
  unfold turnsD
  rw [e]
  show 1 ≤ ((rowsD t).getD []).length ∧ ∀ x ∈ (rowsD t).getD [], isPatience x = true
  unfold isTurns at ht
  cases z : rowsD t with
  | none => rw [z] at ht; cases ht
  | some ts =>
    rw [z] at ht
    simp only [Bool.and_eq_true, decide_eq_true_eq, List.all_eq_true] at ht
    exact ⟨ht.1.1, ht.2⟩
theorem find_pcs (n : Int) : ∀ (ds : List PyData) (f : Int), ds.all isPiece = true → (ds.take (ds.length - 1)).any (fun d => isNone (sndD d)) = false → ∀ ps pc, pcs f ds = ps ++ [pc] → under pc.2.1 n = true → ∃ pp, (pcs f ds).find? (comes n) = some pp ∧ ∃ d ∈ ds, pp.2.2 = turnsD d
  | [], f, _, _, ps, pc, e, _ => by
    have := congrArg List.length e
    simp [pcs] at this
  | d :: ds, f, ha, hn, ps, pc, e, hu => by
    have hd : isPiece d = true := by
      simp only [List.all_cons, Bool.and_eq_true] at ha
      exact ha.1
    have hds : ds.all isPiece = true := by
      simp only [List.all_cons, Bool.and_eq_true] at ha
      exact ha.2
    have ec : pcs f (d :: ds) = (f, pastO f (sndD d), turnsD d) :: pcs (f + worth (sndD d)) ds := rfl
    rw [ec, List.find?_cons]
    cases hc : comes n (f, pastO f (sndD d), turnsD d) with
    | true => exact ⟨_, rfl, d, List.mem_cons_self, rfl⟩
    | false =>
      cases ds with
      | nil =>
        have e2 : [(f, pastO f (sndD d), turnsD d)] = ps ++ [pc] := e
        have e3 : pc = (f, pastO f (sndD d), turnsD d) := by
          cases ps with
          | nil => exact (List.cons.inj e2).1.symm
          | cons x xs =>
            have := congrArg List.length e2
            simp at this
        rw [e3] at hu
        exfalso
        unfold comes at hc
        cases hp : pastO f (sndD d) with
        | none => simp [hp] at hc
        | some m =>
          simp only [hp] at hc
          rw [hp] at hu
          have h1 : decide (n < m) = true := hu
          rw [h1] at hc
          cases hc
      | cons d2 ds2 =>
        obtain ⟨ps', e4⟩ : ∃ ps', pcs (f + worth (sndD d)) (d2 :: ds2) = ps' ++ [pc] := by
          cases ps with
          | nil =>
            have := congrArg List.length e
            simp [pcs] at this
          | cons x xs => exact ⟨xs, (List.cons.inj e).2⟩
        have hn2 : ((d2 :: ds2).take ((d2 :: ds2).length - 1)).any (fun d => isNone (sndD d)) = false := by
          have : (d :: d2 :: ds2).take ((d :: d2 :: ds2).length - 1) = d :: (d2 :: ds2).take ((d2 :: ds2).length - 1) := rfl
          rw [this, List.any_cons, Bool.or_eq_false_iff] at hn
          exact hn.2
        obtain ⟨pp, h1, d', h2, h3⟩ := find_pcs n (d2 :: ds2) _ hds hn2 ps' pc e4 hu
        exact ⟨pp, h1, d', List.mem_cons_of_mem _ h2, h3⟩
theorem plan_partsF {d : PyData} (h : isPlan d = true) : ∃ ds, rowsD d = some ds ∧ piecesOf d = pcs 0 ds ∧ 1 ≤ ds.length ∧ ds.length ≤ 8 ∧ ds.all isPiece = true ∧ (ds.take (ds.length - 1)).any (fun d => isNone (sndD d)) = false ∧ sumSnd ds ≤ GREAT := by
  cases z : rowsD d with
  | none => unfold isPlan at h; rw [z] at h; cases h
  | some ds =>
    have e : isPlan d = isPlanL ds := by unfold isPlan; rw [z]
    rw [e] at h
    unfold isPlanL at h
    simp only [Bool.and_eq_true, decide_eq_true_eq, Bool.not_eq_true'] at h
    obtain ⟨⟨⟨⟨l1, l8⟩, hpc⟩, hno⟩, hsum⟩ := h
    exact ⟨ds, rfl, by unfold piecesOf; rw [z]; rfl, l1, l8, hpc, hno, hsum⟩
theorem pcs_len : ∀ (f : Int) (ds : List PyData), (pcs f ds).length = ds.length
  | _, [] => rfl
  | f, d :: ds => congrArg (· + 1) (pcs_len _ ds)
theorem plan_last {d : PyData} (h : isPlan d = true) : ∃ ps pc, piecesOf d = ps ++ [pc] := by
  obtain ⟨ds, _, e, l1, _⟩ := plan_partsF h
  have hl : (piecesOf d).length = ds.length := by rw [e, pcs_len]
  have ne : piecesOf d ≠ [] := fun z => by rw [z] at hl; simp at hl; omega
  exact ⟨_, _, (List.dropLast_concat_getLast ne).symm⟩
/-- a patience as a value that may be none -/
def patO : PyData → Option Int
  | .int i => some i
  | _ => none
theorem pat_optD {d : PyData} (h : isPatience d = true) : d = optD (patO d) := by
  cases d <;> first | rfl | cases h
theorem plan_has {d : PyData} (h : isPlan d = true) {ps : List PieceT} {pc : PieceT} (e : piecesOf d = ps ++ [pc]) {n : Int} (hu : under pc.2.1 n = true) : ∃ o : Option Int, HasP (piecesOf d) n (optD o) := by
  obtain ⟨ds, _, e2, _, _, hpc, hno, _⟩ := plan_partsF h
  rw [e2] at e ⊢
  obtain ⟨pp, h1, d', h2, h3⟩ := find_pcs n ds 0 hpc hno ps pc e hu
  obtain ⟨t1, t2⟩ := turns_ok (List.all_eq_true.mp hpc d' h2)
  have hl : 0 < pp.2.2.length := by rw [h3]; omega
  have m1 : 0 ≤ (n - pp.1) % (pp.2.2.length : Int) := Int.emod_nonneg _ (by omega)
  have m2 : (n - pp.1) % (pp.2.2.length : Int) < (pp.2.2.length : Int) := Int.emod_lt_of_pos _ (by omega)
  have m3 : ((n - pp.1) % (pp.2.2.length : Int)).toNat < pp.2.2.length := by omega
  have m4 : isPatience (pp.2.2[((n - pp.1) % (pp.2.2.length : Int)).toNat]) = true := t2 _ (by rw [← h3]; exact List.getElem_mem m3)
  exact ⟨patO (pp.2.2[((n - pp.1) % (pp.2.2.length : Int)).toNat]), pp, h1, hl, by rw [List.getElem?_eq_getElem m3, ← pat_optD m4]⟩
/-- what is told at a moment, or which refusal -/
def MomP (P1 P2 C C3 C4 : Addr) (d c : PyData) (H : Hp) (E : XK) (R : (Nat → Option Int) → Nat → Prop) : Prop :=
  (isPlan d = false → ∀ H', Ex H H' → Tb P1 P2 H' → E (.ref C) none H') ∧ (isPlan d = true → ∃ ps pc, piecesOf d = ps ++ [pc] ∧ (momentOk pc.2.1 c = false → ∀ H', Ex H H' → Tb P1 P2 H' → E (.ref C3) none H') ∧
    (momentOk pc.2.1 c = true → ∃ n : Nat, c = .int (n : Int) ∧ (2000 < n → ∀ H', Ex H H' → Tb P1 P2 H' → E (.ref C4) none H') ∧ (n ≤ 2000 → ∀ pat : Nat → Option Int, (∀ k : Nat, k < n → HasP (piecesOf d) (k : Int) (optD (pat k))) → R pat n)))
def spListed (P1 P2 C C3 C4 : Addr) : Sp := fun vs H Q E => ∃ v u d c, vs = [v, u] ∧ Rp H v d ∧ Rp H u c ∧ Tb P1 P2 H ∧ MomP P1 P2 C C3 C4 d c H E fun pat n => ∀ p L1 L2 H', Ex H H' → Tb P1 P2 H' → H L1 = none → H L2 = none → L1 ≠ L2 → H' p = some (.tup [.ref L1, .ref L2]) →
  H' L1 = some (.lst ((lined pat n).1.map V.int)) → H' L2 = some (.lst ((lined pat n).2.map optV)) → Q (.ref p) H'
def spQueue (P1 P2 C C3 C4 : Addr) : Sp := fun vs H Q E => ∃ v u d c, vs = [v, u] ∧ Rp H v d ∧ Rp H u c ∧ Tb P1 P2 H ∧ MomP P1 P2 C C3 C4 d c H E fun pat n => ∀ L H', Ex H H' → Tb P1 P2 H' → H L = none → H' L = some (.lst ((lined pat n).1.map V.int)) → Q (.ref L) H'
theorem momentOk_nat {past : Option Int} {c : PyData} (h : momentOk past c = true) : ∃ n : Nat, c = .int (n : Int) := by
  cases c with
  | int i =>
    rw [momentOk_int] at h
    simp only [Bool.and_eq_true, decide_eq_true_eq] at h
    exact ⟨i.toNat, by rw [Int.toNat_of_nonneg h.1.1]⟩
  | _ => cases h
section
variable {P : Program} {w : World} {K : PySem.W.Frag} {mg : Str → Option Value} {base : Heap}
theorem ok_listed {f P1 P2 C C3 C4 : Addr} {fd : FuncData} (F : Fun K "listed_at" "listed_at" sListed f fd) (hmost : ∃ t, mg "MOST_LISTED" = some (.int 2000 t)) (X4 : ExcC K mg "TooMany" C4) (CP : CalX P w K mg base 9 "pieces_of" ["plan"] (spPieces P1 P2 C)) (CK : CalX P w K mg base 9 "check_moment" ["pieces", "moment"] (spCkM C3))
    (CL : Cal P w K mg base 9 "line_up" ["pieces", "moment"] spLine) : FnOk P w K mg base (L2.CX P w) 10 f fd ["plan", "moment"] (spListed P1 P2 C C3 C4) := by
  refine F.okX scListed (fun vs H Q E ⟨v, u, d, c, e, _⟩ => by rw [e]; rfl) (fun cdv A outer s H vs Q E hr h => ?_)
  obtain ⟨v, u, d, c, rfl, hR, hU, hT, qE0, q⟩ := h
  obtain ⟨tm, hmo⟩ := hmost
  have nd := scListed.nd
  refine ⟨_, (pss_cons (ps_set (i := 2) nd rfl (.inl rfl) (pe_calX CP hr (by rfl) (passes_call (takes_of rfl rfl rfl rfl) fun _ _ _ _ h => h) (pa_cons (pv 0) pa_nil)))
    (pss_cons (ps_expr (pe_calX CK hr (by rfl) (passes_call (takes_of rfl rfl rfl rfl) fun _ _ _ _ h => h) (pa_cons (pv 2) (pa_cons (pv 1) pa_nil))))
    (pss_cons (ps_if (pt_cmpR op_gt (pv 1) (pe_glob (v := .int 2000) (by rfl) hmo ⟨_, rfl⟩) (nomark _)) (pss_one (ps_raise rfl (takes_of rfl rfl rfl rfl) (pmk_own0 PySem.F.excBase_ValueError X4.x X4.g X4.k (raises_own X4.b X4.t) rfl))) pss_nil)
    (pss_one (ps_ret (pe_cal CL hr (by rfl) (pa_cons (pv 2) (pa_cons (pv 1) pa_nil)))))))), ?_⟩
  refine ⟨v, rfl, v, d, rfl, hR, hT, qE0, fun z0 p H1 e1 t1 np rp => ?_⟩
  obtain ⟨ps, pc, hps, qE, q⟩ := q z0
  have hU1 := Rp.ex e1 c u hU
  have rp' := rp
  rw [hps] at rp'
  obtain ⟨a, ea, h⟩ := PcsAt.of rp'
  obtain rfl : p = a := V.ref.inj ea
  refine ⟨.ref p, rfl, u, rfl, p, u, ps, pc, c, rfl, h, hU1, fun z H2 s2 => qE z H2 (e1.trans (Ex.of s2)) (t1.same s2), fun z H2 s2 => ?_⟩
  obtain ⟨n, rfl, qB, q⟩ := q z
  cases hU1
  have rp2 : Rp H2 (.ref p) (.list ((piecesOf d).map pieceD)) := Rp.sm s2 rp
  obtain ⟨a, ea, h2⟩ := PcsAt.of rp2
  obtain rfl : p = a := V.ref.inj ea
  refine ⟨.int (n : Int), rfl, (n : Int), 2000, rfl, rfl, decide ((2000 : Int) < (n : Int)), rfl, ite2 (fun e2 => ?_) (fun e2 => ?_)⟩
  · exact qB (by have := of_decide_eq_true e2; omega) H2 (e1.trans (Ex.of s2)) (t1.same s2)
  · have hn : n ≤ 2000 := by
      have : ¬ (2000 : Int) < (n : Int) := fun z => e2 (decide_eq_true z)
      omega
    have hall : ∀ k : Nat, ∃ o : Option Int, k < n → HasP (piecesOf d) (k : Int) (optD o) := fun k => by
      by_cases hk : k < n
      · have hu : under pc.2.1 (k : Int) = true := by
          rw [momentOk_int] at z
          simp only [Bool.and_eq_true, decide_eq_true_eq] at z
          have z2 := z.2
          cases hp : pc.2.1 with
          | none => rfl
          | some m =>
            rw [hp] at z2
            have z3 : (n : Int) ≤ m := of_decide_eq_true z2
            exact decide_eq_true (by omega)
        obtain ⟨o, ho⟩ := plan_has z0 hps hu
        exact ⟨o, fun _ => ho⟩
      · exact ⟨none, fun z => absurd z hk⟩
    obtain ⟨pat, hpat⟩ : ∃ pat : Nat → Option Int, ∀ k : Nat, k < n → HasP (piecesOf d) (k : Int) (optD (pat k)) := ⟨fun k => Classical.choose (hall k), fun k => Classical.choose_spec (hall k)⟩
    refine ⟨.ref p, rfl, .int (n : Int), rfl, p, piecesOf d, n, pat, rfl, h2, hn, hpat, fun p2 L1 L2 H3 s3 m1 m2 ne a1 a2 a3 => ?_⟩
    have e3 := e1.trans (Ex.of s2)
    exact q hn pat hpat p2 L1 L2 H3 (e3.trans (Ex.of s3)) ((t1.same s2).same s3) (e3.free m1) (e3.free m2) ne a1 a2 a3
theorem MomP.imp {P1 P2 C C3 C4 : Addr} {d c : PyData} {H : Hp} {E : XK} {R R' : (Nat → Option Int) → Nat → Prop} (m : MomP P1 P2 C C3 C4 d c H E R) (h : ∀ pat n, R pat n → R' pat n) : MomP P1 P2 C C3 C4 d c H E R' :=
  ⟨m.1, fun z => let ⟨ps, pc, e, a, b⟩ := m.2 z; ⟨ps, pc, e, a, fun y => let ⟨n, e2, a2, b2⟩ := b y; ⟨n, e2, a2, fun l pat hp => h _ _ (b2 l pat hp)⟩⟩⟩
theorem ok_queue {f P1 P2 C C3 C4 : Addr} {fd : FuncData} (F : Fun K "queue_at" "queue_at" sQueue f fd) (CL : CalX P w K mg base 10 "listed_at" ["plan", "moment"] (spListed P1 P2 C C3 C4)) : FnOk P w K mg base (L2.CX P w) 11 f fd ["plan", "moment"] (spQueue P1 P2 C C3 C4) := by
  refine F.okX scQueue (fun vs H Q E ⟨v, u, d, c, e, _⟩ => by rw [e]; rfl) (fun cdv A outer s H vs Q E hr h => ?_)
  obtain ⟨v, u, d, c, rfl, hR, hU, hT, hm⟩ := h
  have nd := scQueue.nd
  refine ⟨_, (pss_cons (ps_asg (pe_calX CL hr (by rfl) (passes_call (takes_of rfl rfl rfl rfl) fun _ _ _ _ h => h) (pa_cons (pv 0) (pa_cons (pv 1) pa_nil))) (pg_tup rfl (pgs_cons (pg_name (i := 2) nd rfl (.inl rfl)) (pgs_cons (pg_name (i := 3) nd rfl (.inl rfl)) pgs_nil))))
    (pss_one (ps_ret (pv 2)))), ?_⟩
  refine ⟨v, rfl, u, rfl, v, u, d, c, rfl, hR, hU, hT, hm.imp fun pat n q p L1 L2 H' e1 t1 m1 m2 ne a1 a2 a3 => ?_⟩
  exact ⟨p, _, rfl, SqT.of a1, rfl, .ref L1, _, rfl, .ref L2, _, rfl, rfl, .ref L1, rfl, q L1 H' e1 t1 m1 a2⟩
end
end CL
set_option Elab.async false
set_option linter.all false
set_option maxRecDepth 100000
set_option maxHeartbeats 4000000
namespace CL
open PySem PySem.Spec PyProof.Rows L2 GE
abbrev sReel : Stmt := topS 52
abbrev sDraw : Stmt := topS 53
abbrev nReel : List Str := ["cell", "k"]
theorem scReel : FnScope nReel ["cell", "k"] (defScope sReel) := ⟨rfl, rfl, rfl, by decide +kernel, rfl, by decide +kernel, by decide +kernel⟩
theorem scDraw : FnScope ["reel", "many", "found", "stirred"] ["reel", "many"] (defScope sDraw) := ⟨rfl, rfl, rfl, by decide +kernel, rfl, by decide +kernel, by decide +kernel⟩
abbrev MRL : Int := 2147483647
theorem t64 : (2 : Int) ^ 64 = 18446744073709551616 := by decide +kernel
/-- the reel: a great cell, a number stirred -/
structure ReelAt (H : Hp) (r : Addr) : Prop where
  ex : ∃ x y : Int, H r = some (.lst [.int x, .int y]) ∧ 0 ≤ x ∧ 0 ≤ y ∧ y < MRL
/-- all but the spring stays -/
structure Mv (r : Addr) (H H' : Hp) : Prop where
  keep : ∀ b o, b ≠ r → H b = some o → H' b = some o
theorem Mv.refl (r : Addr) (H : Hp) : Mv r H H := ⟨fun _ _ _ h => h⟩
theorem Mv.of {r : Addr} {H H' : Hp} (s : Same H H') : Mv r H H' := ⟨fun b o _ h => s b o h⟩
theorem Mv.trans {r : Addr} {H H1 H2 : Hp} (a : Mv r H H1) (b : Mv r H1 H2) : Mv r H H2 := ⟨fun c o n h => b.keep c o n (a.keep c o n h)⟩
theorem ReelAt.same {r : Addr} {H H' : Hp} (s : Same H H') (hr : ReelAt H r) : ReelAt H' r := by
  obtain ⟨f, st, er, h⟩ := hr
  exact ⟨f, st, s _ _ er, h⟩
theorem ReelAt.some {r : Addr} {H : Hp} (hr : ReelAt H r) : H r ≠ none := by
  obtain ⟨f, st, er, h⟩ := hr
  rw [er]
  exact nofun
theorem ReelAt.new {r p : Addr} {H : Hp} (hr : ReelAt H r) (np : H p = none) : p ≠ r := fun z => hr.some (by rw [← z]; exact np)
theorem ReelAt.store {r p : Addr} {H : Hp} {o : HO} (hr : ReelAt H r) (f : p ≠ r) : ReelAt (upd H p o) r := by
  obtain ⟨f', st, er, h⟩ := hr
  exact ⟨f', st, by rw [upd_ne (Ne.symm f)]; exact er, h⟩
theorem ReelAt.kx {r : Addr} {H H' : Hp} (h : ReelAt H r) (e : Ex H H') : ReelAt H' r := by
  obtain ⟨f, st, er, h⟩ := h
  exact ⟨f, st, e.lst er, h⟩
theorem mem_keep {r b : Addr} {H H' : Hp} (m : Mv r H H') (n : b ≠ r) (h : H b ≠ none) : H' b ≠ none := fun z => by
  cases q : H b with
  | none => exact h q
  | some o =>
    rw [m.keep b o n q] at z
    cases z
def spDraw (r : Addr) : Sp := fun vs H Q _ => ∃ m : Int, vs = [.ref r, .int m] ∧ ReelAt H r ∧ 1 ≤ m ∧ m < 2 ^ 140 ∧ ∀ x H', ReelAt H' r → Mv r H H' → 0 ≤ x → x < m → Q (.int x) H'
/-- a reel that is made anew -/
def spReel : Sp := fun vs H Q _ => ∃ (c : Int) (k : Nat), vs = [.int c, .int (k : Int)] ∧ k ≤ 60 ∧ ∀ r H', Same H H' → H r = none → ReelAt H' r → Q (.ref r) H'
section
variable {P : Program} {w : World} {K : PySem.W.Frag} {mg : Str → Option Value} {base : Heap}
theorem ok_reel {f : Addr} {fd : FuncData} (F : Fun K "_law_reel" "_law_reel" sReel f fd) (habs : mg "abs" = none) : FnOk P w K mg base CX0 1 f fd ["cell", "k"] spReel := by
  refine F.ok scReel (fun vs H Q E ⟨c, k, e, _⟩ => by rw [e]; rfl) (fun cdv A outer s H vs Q E hr h => ?_)
  obtain ⟨c, k, rfl, hk, q⟩ := h
  have nd := scReel.nd
  refine ⟨_, (pss_one (ps_ret (pe_lst (pa_cons (pe_callB call_abs (by rfl) habs boot_abs (pa_cons (pv 0) pa_nil)) (pa_cons (pe_op op_mod (pe_op op_mul (pe_op op_add (pe_op op_mod (pe_callB call_abs (by rfl) habs boot_abs (pa_cons (pv 0) pa_nil)) pe_int) pe_int) (pe_op op_add (pe_op op_mul pe_int (pv 1)) pe_int)) pe_int) pa_nil))))), ?_⟩
  have c0 : 0 ≤ (if c < 0 then -c else c) := by split <;> omega
  have m0 := Int.emod_nonneg (if c < 0 then -c else c) (show (2147483629 : Int) ≠ 0 by decide)
  have m1 := Int.emod_lt_of_pos (if c < 0 then -c else c) (show (0 : Int) < 2147483629 by decide)
  refine ⟨.int c, rfl, c, rfl, .int c, rfl, c, rfl, _, 2147483629, rfl, rfl, (by show (0 : Int) < 2147483629; decide), _, 1, rfl, rfl, .int (k : Int), rfl, 2, (k : Int), rfl, rfl, .inl ⟨by decide, by decide⟩, _, 16807, rfl, rfl, _, _, rfl, rfl, .inl ⟨by rw [t64]; omega, by rw [t64]; omega⟩, _, 2147483647, rfl, rfl, (by show (0 : Int) < 2147483647; decide), small_le (by show 2 ≤ 1000; decide), fun r nr => ?_⟩
  exact q r _ (same_upd nr) nr ⟨_, _, upd_same, c0, Int.emod_nonneg _ (by decide), Int.emod_lt_of_pos _ (by decide)⟩
theorem ok_draw {f r : Addr} {fd : FuncData} (F : Fun K "_law_draw" "_law_draw" sDraw f fd) : FnOk P w K mg base CX0 1 f fd ["reel", "many"] (spDraw r) := by
  refine F.ok scDraw (fun vs H Q E ⟨m, e, _⟩ => by rw [e]; rfl) (fun cdv A outer s H vs Q E hr h => ?_)
  obtain ⟨m, rfl, ⟨f, st, er, f0, st0, st1⟩, m1, m2, q⟩ := h
  have nd := scDraw.nd
  refine ⟨_, (pss_cons (ps_if (pt_cmpR op_ge (pe_ix ix_list (pv 0) pe_int (fun _ _ => rfl)) (pe_op op_pow pe_int pe_int) (nomark _)) (pss_cons (ps_set (i := 2) nd rfl (.inl rfl) (pe_op op_mod (pe_ix ix_list (pv 0) pe_int (fun _ _ => rfl)) (pv 1)))
      (pss_cons (ps_asg (pe_op op_fdivW (pe_ix ix_list (pv 0) pe_int (fun _ _ => rfl)) (pv 1)) (pg_sub (pv 0) pe_int set_list))
      (pss_one (ps_ret (pv 2))))) pss_nil)
      (pss_cons (ps_asg (pe_op op_mod (pe_op op_mul (pe_op op_add (pe_ix ix_list (pv 0) pe_int (fun _ _ => rfl)) pe_int) pe_int) pe_int) (pg_sub (pv 0) pe_int set_list))
      (pss_cons (ps_set (i := 3) nd rfl (.inl rfl) (pe_op op_mod (pe_op op_mul (pe_ix ix_list (pv 0) pe_int (fun _ _ => rfl)) (pe_ix ix_list (pv 0) pe_int (fun _ _ => rfl))) pe_int))
      (pss_one (ps_ret (pe_op op_mod (pe_op op_fdiv (pe_op op_mod (pe_op op_mul (pv 3) pe_int) pe_int) pe_int) (pv 1))))))), ?_⟩
  have mdiv : CDivW f m := wide_div (b := 140) (by omega) (by omega) (by decide) (by decide)
  have st1' : st < 2147483647 := st1
  refine ⟨.ref r, rfl, r, _, 0, .int f, rfl, rfl, SqL.of er, atI_nat (j := 0) rfl, 10, 18, rfl, rfl, ⟨by decide, by decide, by decide⟩, f, _, rfl, rfl, _, rfl, ite2 (fun _ => ?_) (fun _ => ?_)⟩
  · refine ⟨.ref r, rfl, r, _, 0, .int f, rfl, rfl, SqL.of er, atI_nat (j := 0) rfl, .int m, rfl, f, m, rfl, rfl, (by show (0 : Int) < m; omega), ?_⟩
    refine ⟨.ref r, rfl, r, _, 0, .int f, rfl, rfl, SqL.of er, atI_nat (j := 0) rfl, .int m, rfl, f, m, rfl, rfl, mdiv, .ref r, rfl, r, _, 0, 0, rfl, rfl, er, rfl, .int (f % m), rfl, ?_⟩
    exact q _ _ ⟨f / m, st, upd_same, Int.ediv_nonneg f0 (by omega), st0, st1⟩ ⟨fun b o nb e => by rw [upd_ne nb]; exact e⟩ (Int.emod_nonneg _ (by omega)) (Int.emod_lt_of_pos _ (by omega))
  · refine ⟨.ref r, rfl, r, _, 1, .int st, rfl, rfl, SqL.of er, atI_nat (j := 1) rfl, st, 1, rfl, rfl, st + 1, 48271, rfl, rfl, .inr ⟨by decide, by decide⟩, _, 2147483647, rfl, rfl, (by show (0 : Int) < 2147483647; decide), .ref r, rfl, r, _, 1, 1, rfl, rfl, er, rfl, ?_⟩
    have z0 := Int.emod_nonneg ((st + 1) * 48271) (show (2147483647 : Int) ≠ 0 by decide)
    have z1 := Int.emod_lt_of_pos ((st + 1) * 48271) (show (0 : Int) < 2147483647 by decide)
    show tSeq _ _ _ _ (upd H r (.lst [.int f, .int ((st + 1) * 48271 % 2147483647)]))
    generalize (st + 1) * 48271 % 2147483647 = y at z0 z1 ⊢
    have m2' : ∀ b o, b ≠ r → H b = some o → upd H r (.lst [.int f, .int y]) b = some o := fun b o nb e => by rw [upd_ne nb]; exact e
    have er2 : (upd H r (.lst [.int f, .int y])) r = some (.lst [.int f, .int y]) := upd_same
    generalize upd H r (.lst [.int f, .int y]) = H2 at m2' er2 ⊢
    refine ⟨.ref r, rfl, r, _, 1, .int y, rfl, rfl, SqL.of er2, atI_nat (j := 1) rfl, .ref r, rfl, r, _, 1, .int y, rfl, rfl, SqL.of er2, atI_nat (j := 1) rfl, y, y, rfl, rfl, .inl ⟨by rw [t64]; omega, by rw [t64]; omega⟩, _, 2147483629, rfl, rfl, (by show (0 : Int) < 2147483629; decide), ?_⟩
    refine ⟨_, rfl, _, 69621, rfl, rfl, .inr ⟨by decide, by decide⟩, _, 2147483587, rfl, rfl, (by show (0 : Int) < 2147483587; decide), _, 8, rfl, rfl, ⟨by decide, by decide⟩, .int m, rfl, _, m, rfl, rfl, (by show (0 : Int) < m; omega), ?_⟩
    exact q _ H2 ⟨f, y, er2, f0, z0, z1⟩ ⟨m2'⟩ (Int.emod_nonneg _ (by omega)) (Int.emod_lt_of_pos _ (by omega))
end
end CL
set_option Elab.async false
set_option linter.all false
set_option maxRecDepth 100000
set_option maxHeartbeats 4000000
namespace CL
open PySem PySem.Spec PyProof.Rows L2 GE
/-! ### who comes goes past all that let it -/
theorem goes_zero : ∀ (p : Nat) (l : List (Option Int)) (j : Nat), l[j]? = some (some 0) → (goes p l).2[j]? = some (some 0)
  | 0, l, j, h => h
  | p + 1, l, j, h => by
    unfold goes
    split
    · rename_i k hk
      split
      · exact h
      · rename_i k0
        refine goes_zero p _ j ?_
        rw [List.getElem?_set, if_neg (fun z => ?_)]
        · exact h
        · rw [z, h] at hk
          cases hk
          exact k0 rfl
    · exact goes_zero p l j h
    · exact h
/-- where a nought stands behind, or at, the last of the first g: these are let be -/
theorem goes_drop (g : Nat) : ∀ (p : Nat) (l : List (Option Int)), g + p ≤ l.length → (∃ j, g ≤ j + 1 ∧ j < g + p ∧ l[j]? = some (some 0)) →
    goes p (l.drop g) = ((goes (g + p) l).1 - g, (goes (g + p) l).2.drop g) ∧ g ≤ (goes (g + p) l).1 ∧ (goes (g + p) l).2.take g = l.take g
  | 0, l, hl, ⟨j, h1, h2, h3⟩ => by
    obtain ⟨g', rfl⟩ : ∃ g', g = g' + 1 := ⟨g - 1, by omega⟩
    obtain rfl : j = g' := by omega
    have e : goes (j + 1 + 0) l = (j + 1, l) := by
      show goes (j + 1) l = _
      unfold goes
      rw [h3]
      rfl
    rw [e]
    exact ⟨by simp [goes], Nat.le_refl _, rfl⟩
  | p + 1, l, hl, ⟨j, h1, h2, h3⟩ => by
    have hlt : g + p < l.length := by omega
    have ed : (l.drop g)[p]? = l[g + p]? := List.getElem?_drop
    have es : goes (g + (p + 1)) l = goes (g + p + 1) l := rfl
    rw [es]
    conv => lhs; lhs; unfold goes
    rw [ed]
    have eu : goes (g + p + 1) l = match l[g + p]? with
      | some (some k) => if k = 0 then (g + p + 1, l) else goes (g + p) (l.set (g + p) (some (k - 1)))
      | some none => goes (g + p) l
      | none => (g + p + 1, l) := by
      conv => lhs; unfold goes
      all_goals (rcases l[g + p]? with _ | (_ | _) <;> rfl)
    rw [eu]
    cases q : l[g + p]? with
    | none => rw [List.getElem?_eq_getElem hlt] at q; cases q
    | some o =>
      cases o with
      | none =>
        refine goes_drop g p l (by omega) ⟨j, h1, ?_, h3⟩
        rcases Nat.lt_or_ge j (g + p) with z | z
        · exact z
        · obtain rfl : j = g + p := by omega
          rw [q] at h3; cases h3
      | some k =>
        dsimp only
        by_cases hk : k = 0
        · rw [if_pos hk, if_pos hk]
          exact ⟨by congr 1; show p + 1 = g + p + 1 - g; omega, by show g ≤ g + p + 1; omega, rfl⟩
        · rw [if_neg hk, if_neg hk]
          have hj : j ≠ g + p := fun z => by rw [z, q] at h3; cases h3; exact hk rfl
          obtain ⟨i1, i2, i3⟩ := goes_drop g p (l.set (g + p) (some (k - 1))) (by rw [List.length_set]; omega) ⟨j, h1, by omega, by rw [List.getElem?_set, if_neg (Ne.symm hj)]; exact h3⟩
          have e2 : (l.drop g).set p (some (k - 1)) = (l.set (g + p) (some (k - 1))).drop g := by
            rw [List.drop_set]
            rw [if_neg (by omega)]
            congr 1
            omega
          rw [e2]
          refine ⟨i1, i2, ?_⟩
          rw [i3, List.take_set_of_le (by omega)]
/-! ### a line's state -/
inductive Deed where
  | come (p : Option Int)
  | serve
structure LS where
  xs : List Nat
  rs : List (Option Int)
  ps : List Nat
  sv : List (Nat × Option Int)
  ds : List Deed
def LS.nil : LS := ⟨[], [], [], [], []⟩
def bump (ps : List Nat) : List Nat → List Nat
  | [] => ps
  | y :: ys => bump (ps.set y (ps.getD y 0 + 1)) ys
theorem bump_len : ∀ (ys ps : List Nat), (bump ps ys).length = ps.length
  | [], _ => rfl
  | y :: ys, ps => by
    unfold bump
    rw [bump_len ys, List.length_set]
abbrev LS.k (s : LS) : Nat := (goes s.rs.length s.rs).1
def comeS (s : LS) (p : Option Int) : LS :=
  ⟨s.xs.take s.k ++ s.ps.length :: s.xs.drop s.k, (goes s.rs.length s.rs).2.take s.k ++ p :: (goes s.rs.length s.rs).2.drop s.k, bump s.ps (s.xs.drop s.k) ++ [0], s.sv, s.ds ++ [.come p]⟩
def serveS (s : LS) (x : Nat) (r : Option Int) : LS := ⟨s.xs.tail, s.rs.tail, s.ps, s.sv ++ [(x, r)], s.ds ++ [.serve]⟩
structure LS.Ok (s : LS) : Prop where
  len : s.xs.length = s.rs.length
  lt : ∀ x ∈ s.xs, x < s.ps.length
  tot : s.xs.length + s.sv.length = s.ps.length
  dl : s.ds.length = s.ps.length + s.sv.length
theorem nil_ok : LS.nil.Ok := ⟨rfl, (fun x h => nomatch h), rfl, rfl⟩
theorem LS.Ok.come {s : LS} (h : s.Ok) (p : Option Int) : (comeS s p).Ok := by
  obtain ⟨g1, g2⟩ := goes_le s.rs.length s.rs
  have hl := h.len
  have hps : (comeS s p).ps.length = s.ps.length + 1 := by
    show (bump _ _ ++ [0]).length = _
    rw [List.length_append, bump_len]; rfl
  have hxs : (comeS s p).xs.length = s.xs.length + 1 := by
    show (_ ++ _ :: _).length = _
    rw [List.length_append, List.length_cons, List.length_take, List.length_drop]
    omega
  refine ⟨?_, fun x hx => ?_, ?_, ?_⟩
  · rw [hxs]
    show _ = (_ ++ _ :: _).length
    rw [List.length_append, List.length_cons, List.length_take, List.length_drop, g2]
    omega
  · rw [hps]
    rcases List.mem_append.mp (show x ∈ s.xs.take s.k ++ s.ps.length :: s.xs.drop s.k from hx) with z | z
    · exact Nat.lt_succ_of_lt (h.lt x (List.mem_of_mem_take z))
    · rcases List.mem_cons.mp z with z | z
      · rw [z]; exact Nat.lt_succ_self _
      · exact Nat.lt_succ_of_lt (h.lt x (List.mem_of_mem_drop z))
  · rw [hxs, hps]
    have := h.tot
    show s.xs.length + 1 + s.sv.length = _
    omega
  · rw [hps]
    show (s.ds ++ [_]).length = s.ps.length + 1 + s.sv.length
    rw [List.length_append, h.dl, List.length_singleton]
    omega
theorem LS.Ok.serve {s : LS} (h : s.Ok) {x : Nat} {r : Option Int} {xs : List Nat} (e : s.xs = x :: xs) : (serveS s x r).Ok := by
  have hl := h.len
  refine ⟨?_, fun y hy => h.lt y (List.mem_of_mem_tail (show y ∈ s.xs.tail from hy)), ?_, ?_⟩
  · show s.xs.tail.length = s.rs.tail.length
    rw [List.length_tail, List.length_tail, hl]
  · show s.xs.tail.length + (s.sv ++ [_]).length = s.ps.length
    have := h.tot
    rw [List.length_append, List.length_singleton, List.length_tail, e, List.length_cons] at *
    omega
  · show (s.ds ++ [_]).length = s.ps.length + (s.sv ++ [_]).length
    rw [List.length_append, List.length_append, h.dl, List.length_singleton, List.length_singleton]
    omega
/-! ### the one line serves its front where that is safe -/
structure Beh (g : Nat) (s t : LS) : Prop where
  xs : s.xs = t.xs.drop g
  rs : s.rs = t.rs.drop g
  ps : s.ps = t.ps
  le : g ≤ t.xs.length
  zero : g = 0 ∨ ∃ j, g ≤ j + 1 ∧ t.rs[j]? = some (some 0)
theorem Beh.goes {g : Nat} {s t : LS} (b : Beh g s t) (ht : t.Ok) : CL.goes s.rs.length s.rs = ((CL.goes t.rs.length t.rs).1 - g, (CL.goes t.rs.length t.rs).2.drop g) ∧ g ≤ (CL.goes t.rs.length t.rs).1 ∧ (CL.goes t.rs.length t.rs).2.take g = t.rs.take g := by
  have hl := ht.len
  have hg := b.le
  rw [b.rs]
  rcases b.zero with z | ⟨j, h1, h2⟩
  · subst z
    exact ⟨by simp, Nat.zero_le _, rfl⟩
  · have hj := (List.getElem?_eq_some_iff.mp h2).1
    have h := goes_drop g (t.rs.length - g) t.rs (by omega) ⟨j, h1, by omega, h2⟩
    have e : g + (t.rs.length - g) = t.rs.length := by omega
    rw [e] at h
    rw [List.length_drop]
    exact h
theorem drop_take_cons {α : Type} (l : List α) (a : α) (g k : Nat) (h : g ≤ k) (hk : k ≤ l.length) : (l.take k ++ a :: l.drop k).drop g = (l.drop g).take (k - g) ++ a :: (l.drop g).drop (k - g) := by
  rw [List.drop_append_of_le_length (by rw [List.length_take]; omega), List.drop_take, List.drop_drop]
  congr 3
  omega
theorem take_take_cons {α : Type} (l : List α) (a : α) (g k : Nat) (h : g ≤ k) (hk : k ≤ l.length) : (l.take k ++ a :: l.drop k).take g = l.take g := by
  rw [List.take_append_of_le_length (by rw [List.length_take]; omega), List.take_take, Nat.min_eq_left h]
theorem Beh.come {g : Nat} {s t : LS} (b : Beh g s t) (ht : t.Ok) (p : Option Int) : Beh g (comeS s p) (comeS t p) ∧ (comeS t p).xs.take g = t.xs.take g := by
  obtain ⟨h1, h2, h3⟩ := b.goes ht
  obtain ⟨k1, k2⟩ := goes_le t.rs.length t.rs
  have hl := ht.len
  have hk : s.k = t.k - g := by show (CL.goes s.rs.length s.rs).1 = _; rw [h1]
  have hr : (CL.goes s.rs.length s.rs).2 = (CL.goes t.rs.length t.rs).2.drop g := by rw [h1]
  have hx : (s.xs.drop s.k) = t.xs.drop t.k := by
    rw [hk, b.xs, List.drop_drop]
    congr 1
    show g + ((CL.goes t.rs.length t.rs).1 - g) = (CL.goes t.rs.length t.rs).1
    omega
  refine ⟨⟨?_, ?_, ?_, ?_, ?_⟩, take_take_cons _ _ _ _ h2 (by show (CL.goes t.rs.length t.rs).1 ≤ _; omega)⟩
  · show s.xs.take s.k ++ s.ps.length :: s.xs.drop s.k = (t.xs.take t.k ++ t.ps.length :: t.xs.drop t.k).drop g
    rw [drop_take_cons _ _ _ _ h2 (by show (CL.goes t.rs.length t.rs).1 ≤ _; omega), hk, b.xs, b.ps]
  · show (CL.goes s.rs.length s.rs).2.take s.k ++ p :: (CL.goes s.rs.length s.rs).2.drop s.k = ((CL.goes t.rs.length t.rs).2.take t.k ++ p :: (CL.goes t.rs.length t.rs).2.drop t.k).drop g
    rw [drop_take_cons _ _ _ _ h2 (by show (CL.goes t.rs.length t.rs).1 ≤ _; omega), hk, hr]
  · show bump s.ps (s.xs.drop s.k) ++ [0] = bump t.ps (t.xs.drop t.k) ++ [0]
    rw [hx, b.ps]
  · show g ≤ (_ ++ _ :: _).length
    have := b.le
    rw [List.length_append, List.length_cons, List.length_take, List.length_drop]
    omega
  · rcases b.zero with z | ⟨j, j1, j2⟩
    · exact .inl z
    · refine .inr ?_
      have hz := goes_zero t.rs.length t.rs j j2
      have hkk : t.k = (CL.goes t.rs.length t.rs).1 := rfl
      by_cases hj : j < t.k
      · refine ⟨j, j1, ?_⟩
        show (_ ++ _ :: _)[j]? = _
        rw [List.getElem?_append_left (by rw [List.length_take]; omega), List.getElem?_take, if_pos hj]
        exact hz
      · refine ⟨j + 1, by omega, ?_⟩
        show (_ ++ _ :: _)[j + 1]? = _
        rw [List.getElem?_append_right (by rw [List.length_take]; omega), List.length_take, Nat.min_eq_left (by omega)]
        have e : j + 1 - t.k = (j - t.k) + 1 := by omega
        rw [e, List.getElem?_cons_succ, List.getElem?_drop]
        rw [show t.k + (j - t.k) = j by omega]
        exact hz
theorem Beh.serve {g : Nat} {s t : LS} (b : Beh g s t) (h0 : some 0 ∈ s.rs) {x : Nat} {r : Option Int} {xs : List Nat} (e : s.xs = x :: xs) : Beh (g + 1) (serveS s x r) t ∧ t.xs.take (g + 1) = t.xs.take g ++ [x] := by
  have hx : t.xs.drop g = x :: xs := by rw [← b.xs]; exact e
  have hlt : g < t.xs.length := by
    rcases Nat.lt_or_ge g t.xs.length with z | z
    · exact z
    · rw [List.drop_of_length_le z] at hx; cases hx
  have hget : t.xs[g]? = some x := by
    have : (t.xs.drop g)[0]? = some x := by rw [hx]; rfl
    rw [List.getElem?_drop] at this
    exact this
  refine ⟨⟨?_, ?_, b.ps, hlt, .inr ?_⟩, by rw [List.take_add_one, hget]; rfl⟩
  · show s.xs.tail = _
    rw [b.xs, List.tail_drop]
  · show s.rs.tail = _
    rw [b.rs, List.tail_drop]
  · obtain ⟨j, hj⟩ := List.getElem?_of_mem h0
    rw [b.rs, List.getElem?_drop] at hj
    exact ⟨g + j, by omega, hj⟩
end CL
set_option Elab.async false
set_option linter.all false
set_option maxRecDepth 100000
set_option maxHeartbeats 4000000
namespace CL
open PySem PySem.Spec PyProof.Rows L2 GE
abbrev sLn : Stmt := topS 46
abbrev sInitL : Stmt := inClass sLn 0
abbrev sComeM : Stmt := inClass sLn 1
abbrev sServeM : Stmt := inClass sLn 2
abbrev sQueM : Stmt := inClass sLn 5
abbrev sLeftM : Stmt := inClass sLn 6
abbrev sWentM : Stmt := inClass sLn 7
abbrev sLenM : Stmt := inClass sLn 9
theorem scInitL : FnScope ["self"] ["self"] (defScope sInitL) := ⟨rfl, rfl, rfl, by decide +kernel, rfl, by decide +kernel, by decide +kernel⟩
theorem scComeM : FnScope ["self", "patience", "newcomer", "place", "person"] ["self", "patience"] (defScope sComeM) := ⟨rfl, rfl, rfl, by decide +kernel, rfl, by decide +kernel, by decide +kernel⟩
theorem scServeM : FnScope ["self", "person"] ["self"] (defScope sServeM) := ⟨rfl, rfl, rfl, by decide +kernel, rfl, by decide +kernel, by decide +kernel⟩
theorem scQueM : FnScope ["self"] ["self"] (defScope sQueM) := ⟨rfl, rfl, rfl, by decide +kernel, rfl, by decide +kernel, by decide +kernel⟩
theorem scLeftM : FnScope ["self"] ["self"] (defScope sLeftM) := ⟨rfl, rfl, rfl, by decide +kernel, rfl, by decide +kernel, by decide +kernel⟩
theorem scWentM : FnScope ["self", "person"] ["self", "person"] (defScope sWentM) := ⟨rfl, rfl, rfl, by decide +kernel, rfl, by decide +kernel, by decide +kernel⟩
theorem scLenM : FnScope ["self"] ["self"] (defScope sLenM) := ⟨rfl, rfl, rfl, by decide +kernel, rfl, by decide +kernel, by decide +kernel⟩
/-! ### xs[i] -= e -/
section
variable {P : Program} {w : World} {K : PySem.W.Frag} {mg : Str → Option Value} {base : Heap}
end
/-- people by their numbers, as values -/
def ppl (xs : List Nat) : List V := xs.map fun x : Nat => V.int (x : Int)
theorem ppl_len (xs : List Nat) : (ppl xs).length = xs.length := List.length_map ..
theorem ppl_get {xs : List Nat} {i : Nat} (h : i < xs.length) : (ppl xs)[i]? = some (.int (xs[i] : Int)) := by
  unfold ppl
  rw [List.getElem?_map, List.getElem?_eq_getElem h]
  rfl
theorem small1000 {n : Nat} (h : n < 1000) : n < sizeLine := by
  have : 1000 ≤ sizeLine := by decide
  omega
theorem seq_nat {n j : Nat} (h : j < n) : seqIndex? (j : Int) n = some j := by
  unfold seqIndex?
  have h1 : ¬ ((j : Int) < 0) := by omega
  simp [h1, h]
theorem bump_snoc : ∀ (ys ps : List Nat) (y : Nat), bump ps (ys ++ [y]) = (bump ps ys).set y ((bump ps ys).getD y 0 + 1)
  | [], ps, y => rfl
  | x :: ys, ps, y => bump_snoc ys _ y
/-! ### the class, and a line's places -/
structure LnT (K : PySem.W.Frag) (mg : Str → Option Value) (C : Addr) : Prop where
  cl : Cls K C
  n_pe : NoAttr K C "people"
  n_re : NoAttr K C "rest"
  n_pa : NoAttr K C "past"
  n_se : NoAttr K C "served"
  n_de : NoAttr K C "deeds"
  mgC : mg "Line" = some (.ref C)
structure LnA where
  o : Addr
  pe : Addr
  re : Addr
  pa : Addr
  se : Addr
  de : Addr
def LnA.has (L : LnA) (b : Addr) : Prop := b = L.pe ∨ b = L.re ∨ b = L.pa ∨ b = L.se ∨ b = L.de
structure Flds (fs : List (Str × V)) (L : LnA) : Prop where
  pe : fs.lookup ("people" : Str) = some (V.ref L.pe)
  re : fs.lookup ("rest" : Str) = some (V.ref L.re)
  pa : fs.lookup ("past" : Str) = some (V.ref L.pa)
  se : fs.lookup ("served" : Str) = some (V.ref L.se)
  de : fs.lookup ("deeds" : Str) = some (V.ref L.de)
  no : ∀ m : Str, m ≠ "people" → m ≠ "rest" → m ≠ "past" → m ≠ "served" → m ≠ "deeds" → fs.lookup m = none
def ServV (H : Hp) (v : V) (x : Nat × Option Int) : Prop := ∃ t, v = .ref t ∧ H t = some (.tup [.int (x.1 : Int), optV x.2])
def DeedV (H : Hp) (v : V) : Deed → Prop
  | .come p => ∃ t, v = .ref t ∧ H t = some (.tup [.str "come", optV p])
  | .serve => ∃ t, v = .ref t ∧ H t = some (.tup [.str "serve"])
inductive All2 {α : Type} (R : V → α → Prop) : List V → List α → Prop
  | nil : All2 R [] []
  | cons {v : V} {x : α} {vs : List V} {xs : List α} : R v x → All2 R vs xs → All2 R (v :: vs) (x :: xs)
theorem All2.length {α : Type} {R : V → α → Prop} : ∀ {vs : List V} {xs : List α}, All2 R vs xs → vs.length = xs.length
  | _, _, .nil => rfl
  | _, _, .cons _ t => congrArg (· + 1) (All2.length t)
theorem All2.imp {α : Type} {R R' : V → α → Prop} (h : ∀ v x, R v x → R' v x) : ∀ {vs : List V} {xs : List α}, All2 R vs xs → All2 R' vs xs
  | _, _, .nil => .nil
  | _, _, .cons a t => .cons (h _ _ a) (All2.imp h t)
theorem All2.snoc {α : Type} {R : V → α → Prop} : ∀ {vs : List V} {xs : List α} {v : V} {x : α}, All2 R vs xs → R v x → All2 R (vs ++ [v]) (xs ++ [x])
  | _, _, _, _, .nil, h => .cons h .nil
  | _, _, _, _, .cons a t, h => .cons a (All2.snoc t h)
structure LineAt (C : Addr) (H : Hp) (L : LnA) (s : LS) : Prop where
  ob : ∃ dx fs, H L.o = some (.ins C dx fs) ∧ Flds fs L
  pe : H L.pe = some (.lst (ppl s.xs))
  re : H L.re = some (.lst (s.rs.map optV))
  pa : H L.pa = some (.lst (ppl s.ps))
  se : ∃ vs, H L.se = some (.lst vs) ∧ All2 (ServV H) vs s.sv
  de : ∃ vs, H L.de = some (.lst vs) ∧ All2 (DeedV H) vs s.ds
  nd : [L.pe, L.re, L.pa, L.se, L.de].Nodup
  ok : s.Ok
/-- all but a line's own lists stays -/
structure MvL (L : LnA) (H H' : Hp) : Prop where
  keep : ∀ b o, ¬ L.has b → H b = some o → H' b = some o
theorem MvL.refl (L : LnA) (H : Hp) : MvL L H H := ⟨fun _ _ _ h => h⟩
theorem MvL.trans {L : LnA} {H H1 H2 : Hp} (a : MvL L H H1) (b : MvL L H1 H2) : MvL L H H2 := ⟨fun c o n h => b.keep c o n (a.keep c o n h)⟩
theorem MvL.of {L : LnA} {H H' : Hp} (s : Same H H') : MvL L H H' := ⟨fun b o _ h => s b o h⟩
theorem MvL.upd {L : LnA} {H H' : Hp} {p : Addr} {o : HO} (m : MvL L H H') (h : L.has p) : MvL L H (L2.upd H' p o) := ⟨fun b x nb e => by
  rw [upd_ne fun z => nb (by rw [z]; exact h)]
  exact m.keep b x nb e⟩
theorem MvL.new {L : LnA} {H H' : Hp} {p : Addr} {o : HO} (m : MvL L H H') (h : H' p = none) : MvL L H (L2.upd H' p o) := m.trans (MvL.of (same_upd h))
section
variable {C : Addr} {H H' : Hp} {L : LnA} {s : LS}
theorem LineAt.isl (h : LineAt C H L s) {b : Addr} (hb : L.has b) : ∃ vs, H b = some (.lst vs) := by
  rcases hb with rfl | rfl | rfl | rfl | rfl
  · exact ⟨_, h.pe⟩
  · exact ⟨_, h.re⟩
  · exact ⟨_, h.pa⟩
  · obtain ⟨vs, e, _⟩ := h.se; exact ⟨vs, e⟩
  · obtain ⟨vs, e, _⟩ := h.de; exact ⟨vs, e⟩
theorem LineAt.nol (h : LineAt C H L s) {b : Addr} {o : HO} (e : H b = some o) (n : ∀ vs, o ≠ .lst vs) : ¬ L.has b := fun hb => by
  obtain ⟨vs, z⟩ := h.isl hb
  rw [e] at z
  exact n vs (Option.some.inj z)
theorem ServV.kx {v : V} {x : Nat × Option Int} (k : ∀ t ys, H t = some (.tup ys) → H' t = some (.tup ys)) (h : ServV H v x) : ServV H' v x := by
  obtain ⟨t, e, q⟩ := h
  exact ⟨t, e, k t _ q⟩
theorem DeedV.kx {v : V} {d : Deed} (k : ∀ t ys, H t = some (.tup ys) → H' t = some (.tup ys)) (h : DeedV H v d) : DeedV H' v d := by
  cases d with
  | come p => obtain ⟨t, e, q⟩ := h; exact ⟨t, e, k t _ q⟩
  | serve => obtain ⟨t, e, q⟩ := h; exact ⟨t, e, k t _ q⟩
/-- a line whose own places stay, stays -/
theorem LineAt.kx (h : LineAt C H L s) (k : ∀ b o, (L.has b ∨ ∀ vs, o ≠ .lst vs) → H b = some o → H' b = some o) : LineAt C H' L s := by
  obtain ⟨dx, fs, ho, hf⟩ := h.ob
  obtain ⟨vs, e1, a1⟩ := h.se
  obtain ⟨ws, e2, a2⟩ := h.de
  have kt : ∀ t ys, H t = some (.tup ys) → H' t = some (.tup ys) := fun t ys e => k t _ (.inr fun _ => nofun) e
  exact ⟨⟨dx, fs, k _ _ (.inr fun _ => nofun) ho, hf⟩, k _ _ (.inl (.inl rfl)) h.pe, k _ _ (.inl (.inr (.inl rfl))) h.re, k _ _ (.inl (.inr (.inr (.inl rfl)))) h.pa, ⟨vs, k _ _ (.inl (.inr (.inr (.inr (.inl rfl))))) e1, a1.imp fun _ _ => ServV.kx kt⟩, ⟨ws, k _ _ (.inl (.inr (.inr (.inr (.inr rfl))))) e2, a2.imp fun _ _ => DeedV.kx kt⟩, h.nd, h.ok⟩
theorem LineAt.same (h : LineAt C H L s) (m : Same H H') : LineAt C H' L s := h.kx fun b o _ e => m b o e
/-- one line's deeds are nothing to another one -/
theorem LineAt.other {C' : Addr} {L' : LnA} {s' : LS} (h : LineAt C H L s) (h' : LineAt C' H L' s') (d : ∀ b, L.has b → ¬ L'.has b) (m : MvL L' H H') : LineAt C H' L s := h.kx fun b o hb e => m.keep b o (hb.elim (d b) (h'.nol e)) e
theorem nodup5 {a b c d e : Addr} (h : [a, b, c, d, e].Nodup) : a ≠ b ∧ a ≠ c ∧ a ≠ d ∧ a ≠ e ∧ b ≠ c ∧ b ≠ d ∧ b ≠ e ∧ c ≠ d ∧ c ≠ e ∧ d ≠ e := by
  simp only [List.nodup_cons, List.mem_cons, List.not_mem_nil, or_false, not_or, List.nodup_nil, and_true] at h
  obtain ⟨⟨h1, h2, h3, h4⟩, ⟨h5, h6, h7⟩, ⟨h8, h9⟩, h10, _⟩ := h
  exact ⟨h1, h2, h3, h4, h5, h6, h7, h8, h9, h10⟩
end
/-! ### what each method promises -/
def spInitL (C : Addr) : Sp := fun vs H Q _ => ∃ o dx, vs = [.ref o] ∧ H o = some (.ins C dx []) ∧ ∀ (L : LnA) H', L.o = o → (∀ b, L.has b → H b = none) → LineAt C H' L LS.nil → (∀ b x, b ≠ o → H b = some x → H' b = some x) → Q .non H'
def spComeM (C : Addr) : Sp := fun vs H Q _ => ∃ (L : LnA) (s : LS) (p : Option Int), vs = [.ref L.o, optV p] ∧ LineAt C H L s ∧ isPatience (optD p) = true ∧ s.ps.length ≤ 400 ∧ ∀ H', LineAt C H' L (comeS s p) → MvL L H H' → Q (.int (s.ps.length : Int)) H'
def spServeM (C : Addr) : Sp := fun vs H Q _ => ∃ (L : LnA) (s : LS) (x : Nat) (xs : List Nat), vs = [.ref L.o] ∧ LineAt C H L s ∧ s.xs = x :: xs ∧ s.ps.length ≤ 400 ∧ ∀ H' r, s.rs.head? = some r → LineAt C H' L (serveS s x r) → MvL L H H' → Q (.int (x : Int)) H'
def spQueM (C : Addr) : Sp := fun vs H Q _ => ∃ (L : LnA) (s : LS), vs = [.ref L.o] ∧ LineAt C H L s ∧ ∀ p, H p = none → Q (.ref p) (upd H p (.lst (ppl s.xs)))
def spLeftM (C : Addr) : Sp := fun vs H Q _ => ∃ (L : LnA) (s : LS), vs = [.ref L.o] ∧ LineAt C H L s ∧ ∀ p, H p = none → Q (.ref p) (upd H p (.lst (s.rs.map optV)))
def spWentM (C : Addr) : Sp := fun vs H Q _ => ∃ (L : LnA) (s : LS) (x : Nat) (h : x < s.ps.length), vs = [.ref L.o, .int (x : Int)] ∧ LineAt C H L s ∧ ∀ H', Same H H' → Q (.int (s.ps[x] : Int)) H'
def spLenM (C : Addr) : Sp := fun vs H Q _ => ∃ (L : LnA) (s : LS), vs = [.ref L.o] ∧ LineAt C H L s ∧ Q (.int (s.xs.length : Int)) H
theorem init_one {K : PySem.W.Frag} {D : Ends} {σ : L2.St} {G : Hp} {o C dx : Addr} {fs : List (Str × V)} {f : Str} {n : Nat} (h0 : σ[0]? = some (some (.ref o))) (ho : G o = some (.ins C dx fs)) (hc : Cls K C) (hn : NoAttr K C f) (hl : fs.length ≤ n) (h9 : n < 900)
    (q : ∀ p, G p = none → ∀ G', G' o = some (.ins C dx (putF f (.ref p) fs)) → G' p = some (.lst []) → (∀ b x, b ≠ o → G b = some x → G' b = some x) → (putF f (.ref p) fs).length ≤ n + 1 → D.nx σ G') : sFld K (tVar 0) (tLst tNil) f D σ G := by
  refine ⟨Nat.zero_le _, fun p np => ?_⟩
  have hpo : p ≠ o := fun z => by rw [z, ho] at np; cases np
  refine ⟨.ref o, h0, o, C, dx, fs, rfl, by rw [upd_ne (Ne.symm hpo)]; exact ho, hc, hn, by omega, q p np _ upd_same (by rw [upd_ne hpo]; exact upd_same) (fun b x hb e => ?_) (Nat.le_trans (length_putF _ _ _) (Nat.succ_le_succ hl))⟩
  rw [upd_ne hb, upd_ne (ne_of_none e np)]
  exact e
theorem nameq : (("people" : Str) ≠ "rest" ∧ ("people" : Str) ≠ "past" ∧ ("people" : Str) ≠ "served" ∧ ("people" : Str) ≠ "deeds") ∧ (("rest" : Str) ≠ "past" ∧ ("rest" : Str) ≠ "served" ∧ ("rest" : Str) ≠ "deeds") ∧ (("past" : Str) ≠ "served" ∧ ("past" : Str) ≠ "deeds") ∧ ("served" : Str) ≠ "deeds" := by decide +kernel
section
variable {P : Program} {w : World} {K : PySem.W.Frag} {mg : Str → Option Value} {base : Heap} {C : Addr}
theorem ok_initL {f : Addr} {fd : FuncData} (F : Fun K "__init__" "Line.__init__" sInitL f fd) (T : LnT K mg C) : FnOk P w K mg base CX0 1 f fd ["self"] (spInitL C) := by
  refine F.ok scInitL (fun vs H Q E ⟨o, dx, e, _⟩ => by rw [e]; rfl) (fun cdv A outer s H vs Q E hr h => ?_)
  obtain ⟨o, dx, rfl, ho, q⟩ := h
  refine ⟨_, (pss_cons (ps_fld (pv 0) (pe_lst pa_nil) rfl) (pss_cons (ps_fld (pv 0) (pe_lst pa_nil) rfl) (pss_cons (ps_fld (pv 0) (pe_lst pa_nil) rfl) (pss_cons (ps_fld (pv 0) (pe_lst pa_nil) rfl) (pss_one (ps_fld (pv 0) (pe_lst pa_nil) rfl)))))), ?_⟩
  refine init_one (o := o) rfl ho T.cl T.n_pe (Nat.le_refl 0) (by decide) fun p1 n1 G1 a1 b1 k1 l1 => ?_
  refine init_one (o := o) rfl a1 T.cl T.n_re l1 (by decide) fun p2 n2 G2 a2 b2 k2 l2 => ?_
  refine init_one (o := o) rfl a2 T.cl T.n_pa l2 (by decide) fun p3 n3 G3 a3 b3 k3 l3 => ?_
  refine init_one (o := o) rfl a3 T.cl T.n_se l3 (by decide) fun p4 n4 G4 a4 b4 k4 l4 => ?_
  refine init_one (o := o) rfl a4 T.cl T.n_de l4 (by decide) fun p5 n5 G5 a5 b5 k5 l5 => ?_
  have ne : ∀ {G : Hp} {p q : Addr} {vs : List V}, G p = some (.lst vs) → G q = none → p ≠ q := fun {G p q vs} e n z => by rw [z, n] at e; cases e
  have no : ∀ {G : Hp} {p : Addr} {fs : List (Str × V)}, G o = some (.ins C dx fs) → G p = none → p ≠ o := fun {G p fs} e n z => by rw [z, e] at n; cases n
  have o1 := no ho n1
  have o2 := no a1 n2
  have o3 := no a2 n3
  have o4 := no a3 n4
  have o5 := no a4 n5
  have b12 := k2 _ _ o1 b1
  have b13 := k3 _ _ o1 b12
  have b14 := k4 _ _ o1 b13
  have b15 := k5 _ _ o1 b14
  have b23 := k3 _ _ o2 b2
  have b24 := k4 _ _ o2 b23
  have b25 := k5 _ _ o2 b24
  have b34 := k4 _ _ o3 b3
  have b35 := k5 _ _ o3 b34
  have b45 := k5 _ _ o4 b4
  have fr : ∀ {G G' : Hp} {p : Addr}, p ≠ o → (∀ b x, b ≠ o → G b = some x → G' b = some x) → G' p = none → G p = none := fun {G G' p} hp k n => by
    cases z : G p with
    | none => rfl
    | some x => rw [k p x hp z] at n; cases n
  have m2 := fr o2 k1 n2
  have m3 := fr o3 k1 (fr o3 k2 n3)
  have m4 := fr o4 k1 (fr o4 k2 (fr o4 k3 n4))
  have m5 := fr o5 k1 (fr o5 k2 (fr o5 k3 (fr o5 k4 n5)))
  obtain ⟨⟨q1, q2, q3, q4⟩, ⟨q5, q6, q7⟩, ⟨q8, q9⟩, q10⟩ := nameq
  refine q ⟨o, p1, p2, p3, p4, p5⟩ G5 rfl (fun b hb => ?_) ⟨⟨dx, _, a5, ?_⟩, b15, b25, b35, ⟨[], b45, .nil⟩, ⟨[], b5, .nil⟩, ?_, nil_ok⟩ fun b x hb e => k5 b x hb (k4 b x hb (k3 b x hb (k2 b x hb (k1 b x hb e))))
  · rcases hb with rfl | rfl | rfl | rfl | rfl
    · exact n1
    · exact m2
    · exact m3
    · exact m4
    · exact m5
  · refine ⟨?_, ?_, ?_, ?_, ?_, fun m h1 h2 h3 h4 h5 => ?_⟩
    · rw [lookup_putF, if_neg q4, lookup_putF, if_neg q3, lookup_putF, if_neg q2, lookup_putF, if_neg q1, lookup_putF, if_pos rfl]
    · rw [lookup_putF, if_neg q7, lookup_putF, if_neg q6, lookup_putF, if_neg q5, lookup_putF, if_pos rfl]
    · rw [lookup_putF, if_neg q9, lookup_putF, if_neg q8, lookup_putF, if_pos rfl]
    · rw [lookup_putF, if_neg q10, lookup_putF, if_pos rfl]
    · rw [lookup_putF, if_pos rfl]
    · rw [lookup_putF, if_neg h5, lookup_putF, if_neg h4, lookup_putF, if_neg h3, lookup_putF, if_neg h2, lookup_putF, if_neg h1]
      rfl
  · have c12 : p1 ≠ p2 := ne b1 n2
    have c13 : p1 ≠ p3 := ne b12 n3
    have c14 : p1 ≠ p4 := ne b13 n4
    have c15 : p1 ≠ p5 := ne b14 n5
    have c23 : p2 ≠ p3 := ne b2 n3
    have c24 : p2 ≠ p4 := ne b23 n4
    have c25 : p2 ≠ p5 := ne b24 n5
    have c34 : p3 ≠ p4 := ne b3 n4
    have c35 : p3 ≠ p5 := ne b34 n5
    have c45 : p4 ≠ p5 := ne b4 n5
    simp [c12, c13, c14, c15, c23, c24, c25, c34, c35, c45]
theorem ok_comeM {f : Addr} {fd : FuncData} (F : Fun K "come" "Line.come" sComeM f fd) (hT : Nm mg) (T : LnT K mg C) (CP : Cal P w K mg base 2 "is_patience" ["thing"] (spOne isPatience)) (CL : Cal P w K mg base 1 "let_past" ["left"] spLet) : FnOk P w K mg base CX0 3 f fd ["self", "patience"] (spComeM C) := by
  refine F.ok scComeM (fun vs H Q E ⟨L, s, p, e, _⟩ => by rw [e]; rfl) (fun cdv A outer s H vs Q E hr h => ?_)
  obtain ⟨L, s, p, rfl, hL, hp, hn, q⟩ := h
  have nd := scComeM.nd
  refine ⟨_, (pss_cons (ps_if (pt_not (pt_val (pe_cal CP (hr.mono (by decide)) (by rfl) (pa_cons (pv 1) pa_nil)))) (pss_one ps_never) pss_nil)
      (pss_cons (ps_set (i := 2) nd rfl (.inl rfl) (pe_callB call_len_seq (by rfl) hT.len PySem.boot_len (pa_cons (pe_fld (pv 0) rfl) pa_nil)))
      (pss_cons (ps_set (i := 3) nd rfl (.inl rfl) (pe_cal CL (hr.mono (by decide)) (by rfl) (pa_cons (pe_fld (pv 0) rfl) pa_nil)))
      (pss_cons (ps_for PassesOwn.never rfl (pi_list (pe_slice sl_list (pe_fld (pv 0) rfl) (po_some (pv 3)) po_none)) (pg_name (i := 4) nd rfl (.inl rfl)) (pss_one (ps_augS (pe_fld (pv 0) rfl) (pv 4) get_list pe_int ip_add set_list)))
      (pss_cons (ps_expr (pe_bm PySem.F.plainAttrs_list PySem.F.slot_list_insert PySem.F.type_list_insert mt_insert (pe_fld (pv 0) rfl) (pa_cons (pv 3) (pa_cons (pv 2) pa_nil))))
      (pss_cons (ps_expr (pe_bm PySem.F.plainAttrs_list PySem.F.slot_list_insert PySem.F.type_list_insert mt_insert (pe_fld (pv 0) rfl) (pa_cons (pv 3) (pa_cons (pv 1) pa_nil))))
      (pss_cons (ps_expr (pe_bm PySem.F.plainAttrs_list PySem.F.slot_list_append PySem.F.type_list_append mt_append (pe_fld (pv 0) rfl) (pa_cons pe_int pa_nil)))
      (pss_cons (ps_expr (pe_bm PySem.F.plainAttrs_list PySem.F.slot_list_append PySem.F.type_list_append mt_append (pe_fld (pv 0) rfl) (pa_cons (pe_tup (pa_cons pe_str (pa_cons (pv 1) pa_nil))) pa_nil)))
      (pss_one (ps_ret (pv 2))))))))))), ?_⟩
  obtain ⟨d1, d2, d3, d4, d5, d6, d7, d8, d9, d10⟩ := nodup5 hL.nd
  have ok := hL.ok
  have hxl : s.xs.length ≤ 400 := by have := ok.tot; omega
  have hrl : s.rs.length ≤ 400 := by rw [← ok.len]; exact hxl
  have hdl : s.ds.length ≤ 800 := by have := ok.dl; have := ok.tot; omega
  refine ⟨optV p, rfl, optV p, optD p, rfl, rp_opt2 p, fun H1 s1 => ⟨_, rfl, ?_⟩⟩
  rw [hp]
  refine iteF ?_
  have hL1 := hL.same s1
  obtain ⟨⟨dx, fs, hob, hf⟩, e_pe, e_re, e_pa, ⟨vs, e_se, a_se⟩, ⟨ws, e_de, a_de⟩, _, _⟩ := hL1
  refine ⟨.ref L.o, rfl, L.o, C, dx, fs, .ref L.pa, rfl, hob, T.cl, T.n_pa, hf.pa, L.pa, _, rfl, .inl (SqL.of e_pa), ?_⟩
  rw [ppl_len]
  refine ⟨.ref L.o, rfl, L.o, C, dx, fs, .ref L.re, rfl, hob, T.cl, T.n_re, hf.re, L.re, s.rs, rfl, e_re, by omega, fun H2 k2 f2 => ?_⟩
  obtain ⟨g1, g2⟩ := goes_le s.rs.length s.rs
  have hk : s.k ≤ s.xs.length := by rw [ok.len]; exact g1
  show tSeq _ _ _ [some (.ref L.o), some (optV p), some (.int (s.ps.length : Int)), some (.int (s.k : Int)), none] H2
  have nli : ∀ {b : Addr} {o : HO} {vs : List V}, H1 b = some o → (∀ vs, o ≠ .lst vs) → H1 L.re = some (.lst vs) → b ≠ L.re := fun {b o vs} e n e2 z => by rw [z, e2] at e; exact n _ (Option.some.inj e).symm
  have hob2 : H2 L.o = some (.ins C dx fs) := by rw [k2 _ (nli hob (fun _ => nofun) e_re)]; exact hob
  have e_pe2 : H2 L.pe = some (.lst (ppl s.xs)) := by rw [k2 _ d1]; exact e_pe
  have e_pa2 : H2 L.pa = some (.lst (ppl s.ps)) := by rw [k2 _ (Ne.symm d5)]; exact e_pa
  have e_se2 : H2 L.se = some (.lst vs) := by rw [k2 _ (Ne.symm d6)]; exact e_se
  have e_de2 : H2 L.de = some (.lst ws) := by rw [k2 _ (Ne.symm d7)]; exact e_de
  have m2 : MvL L H H2 := (MvL.of s1).trans ⟨fun b o nb e => by rw [k2 b fun z => nb (.inr (.inl z))]; exact e⟩
  have kt2 : ∀ t ys, H1 t = some (.tup ys) → H2 t = some (.tup ys) := fun t ys e => by rw [k2 t (nli e (fun _ => nofun) e_re)]; exact e
  refine ⟨.ref L.o, rfl, L.o, C, dx, fs, .ref L.pe, rfl, hob2, T.cl, T.n_pe, hf.pe, .int (s.k : Int), rfl, (s.k : Int), rfl, L.pe, _, rfl, SqL.of e_pe2, fun D nD => ?_⟩
  rw [cut_from]
  have ed : (ppl s.xs).drop s.k = ppl (s.xs.drop s.k) := List.map_drop.symm
  rw [ed]
  have sD : Same H2 (upd H2 D (.lst (ppl (s.xs.drop s.k)))) := same_upd nD
  have eD : (upd H2 D (.lst (ppl (s.xs.drop s.k)))) D = some (.lst (ppl (s.xs.drop s.k))) := upd_same
  have nDpa : D ≠ L.pa := fun z => by rw [z, e_pa2] at nD; cases nD
  generalize upd H2 D (.lst (ppl (s.xs.drop s.k))) = H3 at sD eD
  refine ⟨D, rfl, ⟨_, SqL.of eD⟩, for_list (xs := ppl (s.xs.drop s.k)) (fun i σ G => (∃ y, σ = [some (.ref L.o), some (optV p), some (.int (s.ps.length : Int)), some (.int (s.k : Int)), y]) ∧ (∀ b, b ≠ L.pa → G b = H3 b) ∧ G L.pa = some (.lst (ppl (bump s.ps ((s.xs.drop s.k).take i)))))
    ⟨⟨_, rfl⟩, fun _ _ => rfl, sD _ _ e_pa2⟩ (fun i σ G _ ⟨_, k, _⟩ => SqL.of (by rw [k _ nDpa]; exact eD)) (fun i x σ G hx hP => ?_) (fun σ G hP => ?_)⟩
  · obtain ⟨⟨y, rfl⟩, kG, eG⟩ := hP
    have il : i < (s.xs.drop s.k).length := by rw [← ppl_len]; exact (List.getElem?_eq_some_iff.mp hx).1
    rw [ppl_get il] at hx
    obtain rfl := (Option.some.inj hx).symm
    have hsn : (s.xs.drop s.k).take (i + 1) = (s.xs.drop s.k).take i ++ [(s.xs.drop s.k)[i]] := by rw [List.take_add_one, List.getElem?_eq_getElem il]; rfl
    have hlt : (s.xs.drop s.k)[i] < s.ps.length := ok.lt _ (List.mem_of_mem_drop (List.getElem_mem il))
    rw [hsn, bump_snoc]
    have hbl := bump_len ((s.xs.drop s.k).take i) s.ps
    generalize bump s.ps ((s.xs.drop s.k).take i) = ps at eG hbl
    generalize (s.xs.drop s.k)[i] = y at hlt
    have hob3 : G L.o = some (.ins C dx fs) := by rw [kG _ (fun z => by rw [z, e_pa2] at hob2; cases hob2)]; exact sD _ _ hob2
    have hg : (ppl ps)[y]? = some (.int ((ps.getD y 0 : Nat) : Int)) := by
      rw [ppl_get (by omega)]
      rw [List.getD_eq_getElem?_getD, List.getElem?_eq_getElem (by omega)]
      rfl
    refine ⟨.ref L.o, rfl, L.o, C, dx, fs, .ref L.pa, rfl, hob3, T.cl, T.n_pa, hf.pa, .int (y : Int), rfl, L.pa, _, y, _, rfl, rfl, SqL.of eG, hg, _, 1, rfl, rfl, L.pa, _, (y : Int), y, rfl, rfl, eG, ixN_nat (by rw [ppl_len]; omega), ⟨_, rfl⟩, fun b nb => by rw [upd_ne nb]; exact kG b nb, ?_⟩
    rw [upd_same]
    unfold ppl
    rw [List.map_set]
    rfl
  · obtain ⟨⟨y, rfl⟩, kG, eG⟩ := hP
    rw [ppl_len, List.take_length] at eG
    have up : ∀ {b : Addr} {o : HO}, b ≠ L.pa → H2 b = some o → G b = some o := fun {b o} n e => by rw [kG b n]; exact sD _ _ e
    have hob3 : G L.o = some (.ins C dx fs) := up (fun z => by rw [z, e_pa2] at hob2; cases hob2) hob2
    have e_pe3 := up d2 e_pe2
    have e_re3 := up d5 f2
    have e_se3 := up (Ne.symm d8) e_se2
    have e_de3 := up (Ne.symm d9) e_de2
    have m3 : MvL L H G := m2.trans ⟨fun b o nb e => up (fun z => nb (.inr (.inr (.inl z)))) e⟩
    have kt3 : ∀ t ys, H2 t = some (.tup ys) → G t = some (.tup ys) := fun t ys e => up (fun z => by rw [z, e_pa2] at e; cases e) e
    have b1 : bump s.ps (s.xs.drop s.k) = bump s.ps (s.xs.drop s.k) := rfl
    have hbl := bump_len (s.xs.drop s.k) s.ps
    -- self.people.insert(place, newcomer)
    refine ⟨.ref L.o, rfl, L.o, C, dx, fs, .ref L.pe, rfl, hob3, T.cl, T.n_pe, hf.pe, .inl ⟨rfl, _, SqL.of e_pe3⟩, .int (s.k : Int), rfl, .int (s.ps.length : Int), rfl, L.pe, _, (s.k : Int), _, rfl, rfl, e_pe3, by rw [ppl_len]; exact small1000 (by omega), by omega, by omega, ?_⟩
    have ei : (ppl s.xs).take (s.k : Int).toNat ++ [V.int (s.ps.length : Int)] ++ (ppl s.xs).drop (s.k : Int).toNat = ppl (comeS s p).xs := by
      show _ = ppl (s.xs.take s.k ++ s.ps.length :: s.xs.drop s.k)
      unfold ppl
      rw [List.map_append, List.map_cons, List.map_take, List.map_drop, List.append_assoc]
      rfl
    rw [ei]
    have q_pe4 : (upd G L.pe (.lst (ppl (comeS s p).xs))) L.pe = some (.lst (ppl (comeS s p).xs)) := upd_same
    have k4 : ∀ b, b ≠ L.pe → (upd G L.pe (.lst (ppl (comeS s p).xs))) b = G b := fun b n => upd_ne n
    have m4 := m3.upd (o := .lst (ppl (comeS s p).xs)) (.inl rfl)
    generalize upd G L.pe (.lst (ppl (comeS s p).xs)) = G4 at q_pe4 k4 m4
    have hob4 : G4 L.o = some (.ins C dx fs) := by rw [k4 _ (fun z => by rw [z, e_pe3] at hob3; cases hob3)]; exact hob3
    have e_re4 : G4 L.re = _ := (k4 _ (Ne.symm d1)).trans e_re3
    -- self.rest.insert(place, patience)
    refine ⟨.ref L.o, rfl, L.o, C, dx, fs, .ref L.re, rfl, hob4, T.cl, T.n_re, hf.re, .inl ⟨rfl, _, SqL.of e_re4⟩, .int (s.k : Int), rfl, optV p, rfl, L.re, _, (s.k : Int), _, rfl, rfl, e_re4, by rw [List.length_map, g2]; exact small1000 (by omega), by omega, by omega, ?_⟩
    have er : ((goes s.rs.length s.rs).2.map optV).take (s.k : Int).toNat ++ [optV p] ++ ((goes s.rs.length s.rs).2.map optV).drop (s.k : Int).toNat = (comeS s p).rs.map optV := by
      show _ = ((goes s.rs.length s.rs).2.take s.k ++ p :: (goes s.rs.length s.rs).2.drop s.k).map optV
      rw [List.map_append, List.map_cons, List.map_take, List.map_drop, List.append_assoc]
      rfl
    rw [er]
    have q_re5 : (upd G4 L.re (.lst ((comeS s p).rs.map optV))) L.re = some (.lst ((comeS s p).rs.map optV)) := upd_same
    have k5 : ∀ b, b ≠ L.re → (upd G4 L.re (.lst ((comeS s p).rs.map optV))) b = G4 b := fun b n => upd_ne n
    have m5 := m4.upd (o := .lst ((comeS s p).rs.map optV)) (.inr (.inl rfl))
    generalize upd G4 L.re (.lst ((comeS s p).rs.map optV)) = G5 at q_re5 k5 m5
    have hob5 : G5 L.o = some (.ins C dx fs) := by rw [k5 _ (fun z => by rw [z, e_re4] at hob4; cases hob4)]; exact hob4
    have e_pa5 : G5 L.pa = _ := (k5 _ (Ne.symm d5)).trans ((k4 _ (Ne.symm d2)).trans eG)
    -- self.past.append(0)
    refine ⟨.ref L.o, rfl, L.o, C, dx, fs, .ref L.pa, rfl, hob5, T.cl, T.n_pa, hf.pa, .inl ⟨rfl, _, SqL.of e_pa5⟩, L.pa, _, _, rfl, rfl, e_pa5, by rw [ppl_len, hbl]; exact small1000 (by omega), ?_⟩
    have ep : ppl (bump s.ps (s.xs.drop s.k)) ++ [V.int 0] = ppl (comeS s p).ps := by
      show _ = ppl (bump s.ps (s.xs.drop s.k) ++ [0])
      unfold ppl
      rw [List.map_append]
      rfl
    rw [ep]
    have q_pa6 : (upd G5 L.pa (.lst (ppl (comeS s p).ps))) L.pa = some (.lst (ppl (comeS s p).ps)) := upd_same
    have k6 : ∀ b, b ≠ L.pa → (upd G5 L.pa (.lst (ppl (comeS s p).ps))) b = G5 b := fun b n => upd_ne n
    have m6 := m5.upd (o := .lst (ppl (comeS s p).ps)) (.inr (.inr (.inl rfl)))
    generalize upd G5 L.pa (.lst (ppl (comeS s p).ps)) = G6 at q_pa6 k6 m6
    have hob6 : G6 L.o = some (.ins C dx fs) := by rw [k6 _ (fun z => by rw [z, e_pa5] at hob5; cases hob5)]; exact hob5
    have e_de6 : G6 L.de = some (.lst ws) := (k6 _ (Ne.symm d9)).trans ((k5 _ (Ne.symm d7)).trans ((k4 _ (Ne.symm d4)).trans e_de3))
    have e_se6 : G6 L.se = some (.lst vs) := (k6 _ (Ne.symm d8)).trans ((k5 _ (Ne.symm d6)).trans ((k4 _ (Ne.symm d3)).trans e_se3))
    have e_pe6 : G6 L.pe = _ := (k6 _ d2).trans ((k5 _ d1).trans q_pe4)
    have e_re6 : G6 L.re = _ := (k6 _ d5).trans q_re5
    have kt6 : ∀ t ys, H1 t = some (.tup ys) → G6 t = some (.tup ys) := fun t ys e => by
      have e3 := kt3 _ _ (kt2 _ _ e)
      have n1 : t ≠ L.pe := fun z => by rw [z, e_pe3] at e3; cases e3
      have n2 : t ≠ L.re := fun z => by rw [z, e_re3] at e3; cases e3
      have n3 : t ≠ L.pa := fun z => by rw [z, eG] at e3; cases e3
      exact (k6 _ n3).trans ((k5 _ n2).trans ((k4 _ n1).trans e3))
    -- self.deeds.append(("come", patience))
    refine ⟨.ref L.o, rfl, L.o, C, dx, fs, .ref L.de, rfl, hob6, T.cl, T.n_de, hf.de, .inl ⟨rfl, _, SqL.of e_de6⟩, optV p, rfl, small_le (by show 2 ≤ 1000; decide), fun t nt => ⟨L.de, ws, .ref t, rfl, rfl, (same_upd nt) _ _ e_de6, by rw [a_de.length]; exact small1000 (by omega), ?_⟩⟩
    have st : Same G6 (upd G6 t (.tup [.str "come", optV p])) := same_upd nt
    have et : (upd G6 t (.tup [.str "come", optV p])) t = some (.tup [.str "come", optV p]) := upd_same
    have m7 := m6.new (o := .tup [.str "come", optV p]) nt
    generalize upd G6 t (.tup [.str "come", optV p]) = G7 at st et m7
    have ntd : t ≠ L.de := fun z => by rw [z, e_de6] at nt; cases nt
    have kt8 : ∀ t' ys, G7 t' = some (.tup ys) → (upd G7 L.de (.lst (ws ++ [.ref t]))) t' = some (.tup ys) := fun t' ys e => by
      rw [upd_ne (fun z => by rw [z, st _ _ e_de6] at e; cases e)]; exact e
    refine ⟨_, rfl, q _ ⟨⟨dx, fs, ?_, hf⟩, ?_, ?_, ?_, ⟨vs, ?_, a_se.imp fun _ _ => ServV.kx fun t' ys e => kt8 _ _ (st _ _ (kt6 _ _ e))⟩, ⟨ws ++ [.ref t], upd_same, All2.snoc (a_de.imp fun _ _ => DeedV.kx fun t' ys e => kt8 _ _ (st _ _ (kt6 _ _ e))) ⟨t, rfl, kt8 _ _ et⟩⟩, hL.nd, ok.come p⟩ (m7.upd (.inr (.inr (.inr (.inr rfl)))))⟩
    · rw [upd_ne (fun z => by rw [z, e_de6] at hob6; cases hob6)]; exact st _ _ hob6
    · rw [upd_ne d4]; exact st _ _ e_pe6
    · rw [upd_ne d7]; exact st _ _ e_re6
    · rw [upd_ne d9]; exact st _ _ q_pa6
    · rw [upd_ne d10]; exact st _ _ e_se6
end
end CL
set_option Elab.async false
set_option linter.all false
set_option maxRecDepth 100000
set_option maxHeartbeats 4000000
namespace CL
open PySem PySem.Spec PyProof.Rows L2 GE
/-- len(x) of an instance whose class has a __len__ of its own -/
theorem call_lenOwn {X : Cx} {C f : Addr} {fd : FuncData} {ps : List Str} {k : Nat} {CX : CXT} {E : XK} {sp : Sp} (F : FnOk X.prog X.w X.K X.mg X.base CX k f fd ps sp) (hr : Room (k + 1) X.A)
    (hs : PySem.W.findIn X.K (.ref C) "__len__" = some (some (.ref f))) (hf : PySem.W.isFn X.K (.ref f) = true) (hb : Binds X.K fd ps []) (hx : Passes CX X E) :
    CallR X (.builtin "len") (fun xs H Q => ∃ a dx fs, xs = [.ref a] ∧ H a = some (.ins C dx fs) ∧ sp [.ref a] H (fun v H' => ∃ n : Nat, v = .int (n : Int) ∧ n < 2 ^ 62 ∧ Q (.int (n : Int)) H') E) := by
  intro pins s σ H xs us Q I r h
  obtain ⟨a, dx, fs, rfl, ha, hsp⟩ := h
  obtain ⟨u, rfl, ru⟩ := vals1 r
  obtain rfl : u = Value.ref a := ru
  obtain ⟨mA, J, _⟩ := ins_get I.hok ha
  obtain ⟨od, J, _⟩ := J.look
  obtain ⟨m, hF⟩ := I.fr
  refine PySem.W.len_K hF I.ok.mod.kin J hs hf ?_
  have e0 : Env0 X.prog X.w X.K X.mg X.base X.A.in1 X.stack s H := by
    have e := I.env0
    exact ⟨e.frames, e.mod, e.bs, e.bsz, e.funs, e.frf, e.hok, e.bare⟩
  have hl := F.len _ _ _ _ hsp
  refine wpAny_call (codeAny_mono (F.run X.A.in1 X.stack s H ⟨[.ref a], []⟩ [.ref a] [.ref a] _ E hr.in1 e0 (by
    have := hb s [.ref a] I.kIn (by simpa using hl)
    simpa using this) (.cons rfl .nil) hsp) fun r s' hq => ?_)
  cases r with
  | error e => exact hx pins σ H s e s' I hq
  | ok fl =>
    cases fl with
    | ret w =>
      obtain ⟨z, H', I', rz, n, ez, hn, q⟩ := I.after hq
      subst ez
      obtain ⟨t, rfl⟩ := rz
      exact ⟨⟨Int.natCast_nonneg n, by omega⟩, .int (n : Int), H', I'.tok _, ⟨_, rfl⟩, q⟩
    | next => exact False.elim hq
    | brk => exact False.elim hq
    | cont => exact False.elim hq
section
variable {P : Program} {w : World} {K : PySem.W.Frag} {mg : Str → Option Value} {base : Heap} {C : Addr}
theorem ok_serveM {f : Addr} {fd : FuncData} (F : Fun K "serve" "Line.serve" sServeM f fd) (T : LnT K mg C) : FnOk P w K mg base CX0 1 f fd ["self"] (spServeM C) := by
  refine F.ok scServeM (fun vs H Q E ⟨L, s, x, xs, e, _⟩ => by rw [e]; rfl) (fun cdv A outer s H vs Q E hr h => ?_)
  obtain ⟨L, s, x, xs, rfl, hL, hx, hn, q⟩ := h
  have nd := scServeM.nd
  refine ⟨_, (pss_cons (ps_if (pt_not (pt_truth (pe_fld (pv 0) rfl) (by intro _; rfl))) (pss_one ps_never) pss_nil)
      (pss_cons (ps_set (i := 1) nd rfl (.inl rfl) (pe_bm PySem.F.plainAttrs_list PySem.F.slot_list_pop PySem.F.type_list_pop mt_popAt (pe_fld (pv 0) rfl) (pa_cons pe_int pa_nil)))
      (pss_cons (ps_expr (pe_bm PySem.F.plainAttrs_list PySem.F.slot_list_append PySem.F.type_list_append mt_append (pe_fld (pv 0) rfl) (pa_cons (pe_tup (pa_cons (pv 1) (pa_cons (pe_bm PySem.F.plainAttrs_list PySem.F.slot_list_pop PySem.F.type_list_pop mt_popAt (pe_fld (pv 0) rfl) (pa_cons pe_int pa_nil)) pa_nil))) pa_nil)))
      (pss_cons (ps_expr (pe_bm PySem.F.plainAttrs_list PySem.F.slot_list_append PySem.F.type_list_append mt_append (pe_fld (pv 0) rfl) (pa_cons (pe_tup (pa_cons pe_str pa_nil)) pa_nil)))
      (pss_one (ps_ret (pv 1))))))), ?_⟩
  obtain ⟨d1, d2, d3, d4, d5, d6, d7, d8, d9, d10⟩ := nodup5 hL.nd
  have ok := hL.ok
  have hxl : s.xs.length ≤ 400 := by have := ok.tot; omega
  have hdl : s.ds.length ≤ 800 := by have := ok.dl; have := ok.tot; omega
  have hsl : s.sv.length ≤ 400 := by have := ok.tot; omega
  obtain ⟨r, rs, hr'⟩ : ∃ r rs, s.rs = r :: rs := by
    have hlen := ok.len
    rw [hx, List.length_cons] at hlen
    cases z : s.rs with
    | nil => rw [z] at hlen; cases hlen
    | cons r rs => exact ⟨r, rs, rfl⟩
  obtain ⟨⟨dx, fs, hob, hf⟩, e_pe, e_re, e_pa, ⟨vs, e_se, a_se⟩, ⟨ws, e_de, a_de⟩, _, _⟩ := id hL
  rw [hx] at e_pe
  rw [hr'] at e_re
  refine ⟨.ref L.o, rfl, L.o, C, dx, fs, .ref L.pe, rfl, hob, T.cl, T.n_pe, hf.pe, true, .inl ⟨_, SqL.of e_pe, rfl⟩, ?_⟩
  refine iteF ?_
  refine ⟨.ref L.o, rfl, L.o, C, dx, fs, .ref L.pe, rfl, hob, T.cl, T.n_pe, hf.pe, .inl ⟨rfl, _, SqL.of e_pe⟩, L.pe, _, 0, 0, .int (x : Int), rfl, rfl, e_pe, by decide, by decide, seq_nat (j := 0) (Nat.succ_pos _), rfl, ?_⟩
  have ep : (ppl (x :: xs)).eraseIdx 0 = ppl (serveS s x r).xs := by
    show ppl xs = ppl s.xs.tail
    rw [hx]
    rfl
  rw [ep]
  have q_pe1 : (upd H L.pe (.lst (ppl (serveS s x r).xs))) L.pe = some (.lst (ppl (serveS s x r).xs)) := upd_same
  have k1 : ∀ b, b ≠ L.pe → (upd H L.pe (.lst (ppl (serveS s x r).xs))) b = H b := fun b n => upd_ne n
  have m1 := (MvL.refl L H).upd (o := .lst (ppl (serveS s x r).xs)) (.inl rfl)
  dsimp only [gName]
  show tSeq _ _ _ [some (.ref L.o), some (.int (x : Int))] (upd H L.pe (.lst (ppl (serveS s x r).xs)))
  generalize upd H L.pe (.lst (ppl (serveS s x r).xs)) = G1 at q_pe1 k1 m1
  have hob1 : G1 L.o = some (.ins C dx fs) := by rw [k1 _ (fun z => by rw [z, e_pe] at hob; cases hob)]; exact hob
  have e_se1 : G1 L.se = some (.lst vs) := (k1 _ (Ne.symm d3)).trans e_se
  have e_re1 : G1 L.re = _ := (k1 _ (Ne.symm d1)).trans e_re
  -- self.served.append((person, self.rest.pop(0)))
  refine ⟨.ref L.o, rfl, L.o, C, dx, fs, .ref L.se, rfl, hob1, T.cl, T.n_se, hf.se, .inl ⟨rfl, _, SqL.of e_se1⟩, .int (x : Int), rfl, .ref L.o, rfl, L.o, C, dx, fs, .ref L.re, rfl, hob1, T.cl, T.n_re, hf.re, .inl ⟨rfl, _, SqL.of e_re1⟩, L.re, _, 0, 0, optV r, rfl, rfl, e_re1, by decide, by decide, seq_nat (j := 0) (Nat.succ_pos _), rfl, ?_⟩
  have er : ((r :: rs).map optV).eraseIdx 0 = (serveS s x r).rs.map optV := by
    show rs.map optV = s.rs.tail.map optV
    rw [hr']
    rfl
  rw [er]
  have q_re2 : (upd G1 L.re (.lst ((serveS s x r).rs.map optV))) L.re = some (.lst ((serveS s x r).rs.map optV)) := upd_same
  have k2 : ∀ b, b ≠ L.re → (upd G1 L.re (.lst ((serveS s x r).rs.map optV))) b = G1 b := fun b n => upd_ne n
  have m2 := m1.upd (o := .lst ((serveS s x r).rs.map optV)) (.inr (.inl rfl))
  generalize upd G1 L.re (.lst ((serveS s x r).rs.map optV)) = G2 at q_re2 k2 m2
  have hob2 : G2 L.o = some (.ins C dx fs) := by rw [k2 _ (fun z => by rw [z, e_re1] at hob1; cases hob1)]; exact hob1
  have e_se2 : G2 L.se = some (.lst vs) := (k2 _ (Ne.symm d6)).trans e_se1
  refine ⟨small_le (by show 2 ≤ 1000; decide), fun t nt => ⟨L.se, vs, .ref t, rfl, rfl, (same_upd nt) _ _ e_se2, by rw [a_se.length]; exact small1000 (by omega), ?_⟩⟩
  have st : Same G2 (upd G2 t (.tup [.int (x : Int), optV r])) := same_upd nt
  have et : (upd G2 t (.tup [.int (x : Int), optV r])) t = some (.tup [.int (x : Int), optV r]) := upd_same
  have m3 := m2.new (o := .tup [.int (x : Int), optV r]) nt
  generalize upd G2 t (.tup [.int (x : Int), optV r]) = G3 at st et m3
  have e_se3 := st _ _ e_se2
  have q_se4 : (upd G3 L.se (.lst (vs ++ [.ref t]))) L.se = some (.lst (vs ++ [.ref t])) := upd_same
  have k4 : ∀ b, b ≠ L.se → (upd G3 L.se (.lst (vs ++ [.ref t]))) b = G3 b := fun b n => upd_ne n
  have m4 := m3.upd (o := .lst (vs ++ [.ref t])) (.inr (.inr (.inr (.inl rfl))))
  generalize upd G3 L.se (.lst (vs ++ [.ref t])) = G4 at q_se4 k4 m4
  have up4 : ∀ {b : Addr} {o : HO}, b ≠ L.se → G2 b = some o → G4 b = some o := fun {b o} n e => by rw [k4 b n]; exact st _ _ e
  have hob4 : G4 L.o = some (.ins C dx fs) := up4 (fun z => by rw [z, e_se2] at hob2; cases hob2) hob2
  have e_de4 : G4 L.de = some (.lst ws) := up4 (Ne.symm d10) ((k2 _ (Ne.symm d7)).trans ((k1 _ (Ne.symm d4)).trans e_de))
  have e_pa4 : G4 L.pa = _ := up4 d8 ((k2 _ (Ne.symm d5)).trans ((k1 _ (Ne.symm d2)).trans e_pa))
  have e_pe4 : G4 L.pe = _ := up4 d3 ((k2 _ d1).trans q_pe1)
  have e_re4 : G4 L.re = _ := up4 d6 q_re2
  have kt4 : ∀ t ys, H t = some (.tup ys) → G4 t = some (.tup ys) := fun t ys e => by
    have n1 : t ≠ L.pe := fun z => by rw [z, e_pe] at e; cases e
    have n2 : t ≠ L.re := fun z => by rw [z, e_re] at e; cases e
    have n3 : t ≠ L.se := fun z => by rw [z, e_se] at e; cases e
    exact up4 n3 ((k2 _ n2).trans ((k1 _ n1).trans e))
  have et4 : G4 t = some (.tup [.int (x : Int), optV r]) := by rw [k4 t (fun z => by rw [z, e_se3] at et; cases et)]; exact et
  have a4 := All2.snoc (a_se.imp fun _ _ => ServV.kx (H' := G4) fun t' ys e => kt4 _ _ e) (v := .ref t) (x := (x, r)) ⟨t, rfl, et4⟩
  -- self.deeds.append(("serve",))
  refine ⟨.ref L.o, rfl, L.o, C, dx, fs, .ref L.de, rfl, hob4, T.cl, T.n_de, hf.de, .inl ⟨rfl, _, SqL.of e_de4⟩, small_le (by show 1 ≤ 1000; decide), fun t' nt' => ⟨L.de, ws, .ref t', rfl, rfl, (same_upd nt') _ _ e_de4, by rw [a_de.length]; exact small1000 (by omega), ?_⟩⟩
  have st' : Same G4 (upd G4 t' (.tup [.str "serve"])) := same_upd nt'
  have et' : (upd G4 t' (.tup [.str "serve"])) t' = some (.tup [.str "serve"]) := upd_same
  have m5 := m4.new (o := .tup [.str "serve"]) nt'
  generalize upd G4 t' (.tup [.str "serve"]) = G5 at st' et' m5
  have kt8 : ∀ t' ys, G5 t' = some (.tup ys) → (upd G5 L.de (.lst (ws ++ [.ref t']))) t' = some (.tup ys) := fun t' ys e => by
    rw [upd_ne (fun z => by rw [z, st' _ _ e_de4] at e; cases e)]; exact e
  have kt8' : ∀ u ys, G5 u = some (.tup ys) → (upd G5 L.de (.lst (ws ++ [.ref t']))) u = some (.tup ys) := fun u ys e => by
    rw [upd_ne (fun z => by rw [z, st' _ _ e_de4] at e; cases e)]; exact e
  refine ⟨_, rfl, q _ r (by rw [hr']; rfl) ⟨⟨dx, fs, ?_, hf⟩, ?_, ?_, ?_, ⟨vs ++ [.ref t], ?_, a4.imp fun _ _ => ServV.kx fun u ys e => kt8' _ _ (st' _ _ e)⟩, ⟨ws ++ [.ref t'], upd_same, All2.snoc (a_de.imp fun _ _ => DeedV.kx fun u ys e => kt8' _ _ (st' _ _ (kt4 _ _ e))) ⟨t', rfl, kt8' _ _ et'⟩⟩, hL.nd, ok.serve hx⟩ (m5.upd (.inr (.inr (.inr (.inr rfl)))))⟩
  · rw [upd_ne (fun z => by rw [z, e_de4] at hob4; cases hob4)]; exact st' _ _ hob4
  · rw [upd_ne d4]; exact st' _ _ e_pe4
  · rw [upd_ne d7]; exact st' _ _ e_re4
  · rw [upd_ne d9]; exact st' _ _ e_pa4
  · rw [upd_ne d10]; exact st' _ _ q_se4
theorem ok_queM {f : Addr} {fd : FuncData} (F : Fun K "queue" "Line.queue" sQueM f fd) (hT : Nm mg) (T : LnT K mg C) : FnOk P w K mg base CX0 1 f fd ["self"] (spQueM C) := by
  refine F.ok scQueM (fun vs H Q E ⟨L, s, e, _⟩ => by rw [e]; rfl) (fun cdv A outer s H vs Q E hr h => ?_)
  obtain ⟨L, s, rfl, hL, q⟩ := h
  refine ⟨_, pss_one (ps_ret (pe_callTy call_list_of (by rfl) hT.list (by decide +kernel) (pa_cons (pe_fld (pv 0) rfl) pa_nil))), ?_⟩
  obtain ⟨⟨dx, fs, hob, hf⟩, e_pe, e_re, _⟩ := id hL
  exact ⟨.ref L.o, rfl, L.o, C, dx, fs, .ref L.pe, rfl, hob, T.cl, T.n_pe, hf.pe, L.pe, _, rfl, .inl (SqL.of e_pe), fun p np => q p np⟩
theorem ok_leftM {f : Addr} {fd : FuncData} (F : Fun K "left" "Line.left" sLeftM f fd) (hT : Nm mg) (T : LnT K mg C) : FnOk P w K mg base CX0 1 f fd ["self"] (spLeftM C) := by
  refine F.ok scLeftM (fun vs H Q E ⟨L, s, e, _⟩ => by rw [e]; rfl) (fun cdv A outer s H vs Q E hr h => ?_)
  obtain ⟨L, s, rfl, hL, q⟩ := h
  refine ⟨_, pss_one (ps_ret (pe_callTy call_list_of (by rfl) hT.list (by decide +kernel) (pa_cons (pe_fld (pv 0) rfl) pa_nil))), ?_⟩
  obtain ⟨⟨dx, fs, hob, hf⟩, e_pe, e_re, _⟩ := id hL
  exact ⟨.ref L.o, rfl, L.o, C, dx, fs, .ref L.re, rfl, hob, T.cl, T.n_re, hf.re, L.re, _, rfl, .inl (SqL.of e_re), fun p np => q p np⟩
theorem ok_lenM {f : Addr} {fd : FuncData} (F : Fun K "__len__" "Line.__len__" sLenM f fd) (hT : Nm mg) (T : LnT K mg C) : FnOk P w K mg base CX0 1 f fd ["self"] (spLenM C) := by
  refine F.ok scLenM (fun vs H Q E ⟨L, s, e, _⟩ => by rw [e]; rfl) (fun cdv A outer s H vs Q E hr h => ?_)
  obtain ⟨L, s, rfl, hL, q⟩ := h
  refine ⟨_, pss_one (ps_ret (pe_callB call_len_seq (by rfl) hT.len PySem.boot_len (pa_cons (pe_fld (pv 0) rfl) pa_nil))), ?_⟩
  obtain ⟨⟨dx, fs, hob, hf⟩, e_pe, e_re, _⟩ := id hL
  refine ⟨.ref L.o, rfl, L.o, C, dx, fs, .ref L.pe, rfl, hob, T.cl, T.n_pe, hf.pe, L.pe, _, rfl, .inl (SqL.of e_pe), ?_⟩
  rw [ppl_len]
  exact q
end
end CL
set_option Elab.async false
set_option linter.all false
set_option maxRecDepth 100000
set_option maxHeartbeats 4000000
namespace CL
open PySem PySem.Spec PyProof.Rows L2 GE
/-! ### a newcomer is taken back -/
def dec (o : Option Int) : Option Int := o.map (· - 1)
theorem goes_e0 {p : Nat} {l : List (Option Int)} (q : l[p]? = some (some 0)) : goes (p + 1) l = (p + 1, l) := by
  unfold goes
  rw [q]
  rfl
theorem goes_eN {p : Nat} {l : List (Option Int)} (q : l[p]? = some none) : goes (p + 1) l = goes p l := by
  conv => lhs; unfold goes
  rw [q]
theorem goes_eX {p : Nat} {l : List (Option Int)} (q : l[p]? = none) : goes (p + 1) l = (p + 1, l) := by
  unfold goes
  rw [q]
theorem goes_eS {p : Nat} {l : List (Option Int)} {v : Int} (q : l[p]? = some (some v)) (hv : v ≠ 0) : goes (p + 1) l = goes p (l.set p (some (v - 1))) := by
  conv => lhs; unfold goes
  rw [q]
  exact if_neg hv
theorem goes_at : ∀ (p : Nat) (l : List (Option Int)) (j : Nat), (goes p l).2[j]? = if (goes p l).1 ≤ j ∧ j < p then (l[j]?).map dec else l[j]?
  | 0, l, j => by rw [if_neg (by omega)]; rfl
  | p + 1, l, j => by
    cases q : l[p]? with
    | none =>
      rw [goes_eX q]
      dsimp only
      rw [if_neg (by omega)]
    | some o =>
      cases o with
      | none =>
        rw [goes_eN q, goes_at p l j]
        have hk := (goes_le p l).1
        by_cases e : j = p
        · subst e
          rw [if_neg (by omega), if_pos ⟨hk, Nat.lt_succ_self _⟩, q]
          rfl
        · by_cases h : (goes p l).1 ≤ j ∧ j < p
          · rw [if_pos h, if_pos ⟨h.1, by omega⟩]
          · rw [if_neg h, if_neg (by omega)]
      | some v =>
        by_cases hv : v = 0
        · subst hv
          rw [goes_e0 q]
          dsimp only
          rw [if_neg (by omega)]
        · rw [goes_eS q hv]
          have hlt := (List.getElem?_eq_some_iff.mp q).1
          have hk := (goes_le p (l.set p (some (v - 1)))).1
          rw [goes_at p (l.set p (some (v - 1))) j]
          by_cases e : j = p
          · subst e
            rw [if_neg (by omega), if_pos ⟨hk, Nat.lt_succ_self _⟩, q, List.getElem?_set, if_pos rfl, if_pos hlt]
            rfl
          · rw [List.getElem?_set, if_neg (Ne.symm e)]
            by_cases h : (goes p (l.set p (some (v - 1)))).1 ≤ j ∧ j < p
            · rw [if_pos h, if_pos ⟨h.1, by omega⟩]
            · rw [if_neg h, if_neg (by omega)]
theorem goes_take (s : LS) : (goes s.rs.length s.rs).2.take s.k = s.rs.take s.k := by
  refine List.ext_getElem? fun j => ?_
  rw [List.getElem?_take, List.getElem?_take]
  by_cases h : j < s.k
  · rw [if_pos h, if_pos h, goes_at, if_neg (fun z => ?_)]
    have : s.k ≤ j := z.1
    omega
  · rw [if_neg h, if_neg h]
theorem goes_behind (s : LS) {j : Nat} (h1 : s.k ≤ j) (h2 : j < s.rs.length) : (goes s.rs.length s.rs).2[j]? = some (dec s.rs[j]) := by
  rw [goes_at, if_pos ⟨h1, h2⟩, List.getElem?_eq_getElem h2]
  rfl
def part (R R' : List (Option Int)) (m : Nat) : List (Option Int) := R.take m ++ R'.drop m
theorem part_len {R R' : List (Option Int)} {m : Nat} (hl : R'.length = R.length) (hm : m ≤ R.length) : (part R R' m).length = R.length := by
  unfold part
  rw [List.length_append, List.length_take, List.length_drop]
  omega
theorem part_get {R R' : List (Option Int)} {m : Nat} (hm : m < R.length) (hl : R'.length = R.length) : (part R R' m)[m]? = R'[m]? := by
  unfold part
  rw [List.getElem?_append_right (by rw [List.length_take]; omega), List.length_take, Nat.min_eq_left (by omega), Nat.sub_self, List.getElem?_drop]
  rfl
theorem part_set {R R' : List (Option Int)} {m : Nat} (hm : m < R.length) (hl : R'.length = R.length) : (part R R' m).set m R[m] = part R R' (m + 1) := by
  refine List.ext_getElem? fun j => ?_
  have hpl := part_len (m := m) hl (by omega)
  unfold part at *
  rw [List.getElem?_set]
  by_cases e : m = j
  · subst e
    rw [if_pos rfl, if_pos (by omega), List.getElem?_append_left (by rw [List.length_take]; omega), List.getElem?_take, if_pos (Nat.lt_succ_self _), List.getElem?_eq_getElem hm]
  · rw [if_neg e]
    rcases Nat.lt_or_ge j m with z | z
    · rw [List.getElem?_append_left (by rw [List.length_take]; omega), List.getElem?_append_left (by rw [List.length_take]; omega), List.getElem?_take, List.getElem?_take, if_pos z, if_pos (by omega)]
    · rw [List.getElem?_append_right (by rw [List.length_take]; omega), List.getElem?_append_right (by rw [List.length_take]; omega), List.length_take, List.length_take, Nat.min_eq_left (by omega), Nat.min_eq_left (by omega), List.getElem?_drop, List.getElem?_drop]
      congr 1
      omega
theorem part_same {R R' : List (Option Int)} {m : Nat} (hm : m < R.length) (hl : R'.length = R.length) (e : R'[m]? = some R[m]) : part R R' m = part R R' (m + 1) := by
  rw [← part_set hm hl]
  refine List.ext_getElem? fun j => ?_
  rw [List.getElem?_set]
  by_cases z : m = j
  · subst z
    have hpl := part_len (m := m) hl (by omega)
    rw [if_pos rfl, if_pos (by omega), part_get hm hl, e]
  · rw [if_neg z]
theorem bump_comm : ∀ (ys ps : List Nat) (y : Nat), y < ps.length → bump (ps.set y (ps.getD y 0 + 1)) ys = (bump ps ys).set y ((bump ps ys).getD y 0 + 1)
  | [], ps, y, _ => rfl
  | z :: ys, ps, y, hy => by
    show bump ((ps.set y (ps.getD y 0 + 1)).set z ((ps.set y (ps.getD y 0 + 1)).getD z 0 + 1)) ys = (bump (ps.set z (ps.getD z 0 + 1)) ys).set y ((bump (ps.set z (ps.getD z 0 + 1)) ys).getD y 0 + 1)
    rw [← bump_comm ys (ps.set z (ps.getD z 0 + 1)) y (by rw [List.length_set]; exact hy)]
    congr 1
    by_cases e : y = z
    · subst e; rfl
    · have g1 : (ps.set y (ps.getD y 0 + 1)).getD z 0 = ps.getD z 0 := by
        simp [List.getD_eq_getElem?_getD, List.getElem?_set, e]
      have g2 : (ps.set z (ps.getD z 0 + 1)).getD y 0 = ps.getD y 0 := by
        simp [List.getD_eq_getElem?_getD, List.getElem?_set, Ne.symm e]
      rw [g1, g2, List.set_comm _ _ e]
theorem bump_back {ys ps : List Nat} {y : Nat} (hy : y < ps.length) : (bump ps (y :: ys))[y]? = some ((bump ps ys).getD y 0 + 1) ∧ (bump ps (y :: ys)).set y ((bump ps ys).getD y 0) = bump ps ys := by
  have hl := bump_len ys ps
  have e : bump ps (y :: ys) = (bump ps ys).set y ((bump ps ys).getD y 0 + 1) := bump_comm ys ps y hy
  rw [e]
  refine ⟨by rw [List.getElem?_set, if_pos rfl, if_pos (by omega)], ?_⟩
  rw [List.set_set]
  refine List.ext_getElem? fun j => ?_
  rw [List.getElem?_set]
  by_cases z : y = j
  · subst z
    rw [if_pos rfl, if_pos (by omega), List.getD_eq_getElem?_getD, List.getElem?_eq_getElem (by omega)]
    rfl
  · rw [if_neg z]
/-! ### what deeds come to -/
def stepS (s : LS) : Deed → LS
  | .come p => comeS s p
  | .serve => serveS s (s.xs.headD 0) (s.rs.headD none)
def stF (ds : List Deed) : LS := ds.foldl stepS LS.nil
theorem stF_snoc (ds : List Deed) (d : Deed) : stF (ds ++ [d]) = stepS (stF ds) d := by
  unfold stF
  rw [List.foldl_append]
  rfl
theorem stepS_ds (s : LS) (d : Deed) : (stepS s d).ds = s.ds ++ [d] := by cases d <;> rfl
theorem foldl_ds : ∀ (ds : List Deed) (s : LS), (ds.foldl stepS s).ds = s.ds ++ ds
  | [], s => (List.append_nil _).symm
  | d :: ds, s => by
    show (ds.foldl stepS (stepS s d)).ds = _
    rw [foldl_ds ds, stepS_ds, List.append_assoc]
    rfl
theorem stF_ds (ds : List Deed) : (stF ds).ds = ds := foldl_ds ds LS.nil
def Vd (ds : List Deed) : Prop := ∀ pre post, ds = pre ++ .serve :: post → (stF pre).xs ≠ []
theorem vd_nil : Vd [] := fun pre post e => by cases pre <;> cases e
theorem Vd.pre {ds es : List Deed} (h : Vd (ds ++ es)) : Vd ds := fun pre post e => h pre (post ++ es) (by rw [e]; simp)
theorem Vd.come {ds : List Deed} (h : Vd ds) (p : Option Int) : Vd (ds ++ [.come p]) := fun pre post e => by
  rcases List.eq_nil_or_concat post with z | ⟨post', d, z⟩
  · subst z
    have := List.append_inj_right' e rfl
    cases this
  · rw [List.concat_eq_append] at z
    subst z
    have e2 : ds ++ [.come p] = (pre ++ .serve :: post') ++ [d] := by rw [e]; simp
    exact h pre post' (List.append_inj_left' e2 rfl)
theorem Vd.serve {ds : List Deed} (h : Vd ds) (n : (stF ds).xs ≠ []) : Vd (ds ++ [.serve]) := fun pre post e => by
  rcases List.eq_nil_or_concat post with z | ⟨post', d, z⟩
  · subst z
    have := List.append_inj_left' e rfl
    rw [← this]
    exact n
  · rw [List.concat_eq_append] at z
    subst z
    have e2 : ds ++ [.serve] = (pre ++ .serve :: post') ++ [d] := by rw [e]; simp
    exact h pre post' (List.append_inj_left' e2 rfl)
theorem Vd.last {ds : List Deed} (h : Vd (ds ++ [.serve])) : (stF ds).xs ≠ [] := h ds [] rfl
theorem Vd.ok : ∀ {ds : List Deed}, Vd ds → (stF ds).Ok := by
  intro ds
  induction hn : ds.length generalizing ds with
  | zero =>
    intro _
    rw [List.eq_nil_of_length_eq_zero hn]
    exact nil_ok
  | succ n ih =>
    intro h
    rcases List.eq_nil_or_concat ds with z | ⟨es, d, z⟩
    · subst z; cases hn
    · rw [List.concat_eq_append] at z
      subst z
      have hes := ih (ds := es) (by rw [List.length_append] at hn; simp at hn; exact hn) h.pre
      rw [stF_snoc]
      cases d with
      | come p => exact hes.come p
      | serve =>
        have hx := h.last
        cases q : (stF es).xs with
        | nil => exact absurd q hx
        | cons x xs => exact hes.serve (xs := xs) (by rw [q]; rfl)
end CL
set_option Elab.async false
set_option linter.all false
set_option maxRecDepth 100000
set_option maxHeartbeats 4000000
namespace CL
open PySem PySem.Spec PyProof.Rows L2 GE
abbrev sHistM : Stmt := inClass sLn 8
theorem scHistM : FnScope ["self"] ["self"] (defScope sHistM) := ⟨rfl, rfl, rfl, by decide +kernel, rfl, by decide +kernel, by decide +kernel⟩
def spHistM (C : Addr) : Sp := fun vs H Q _ => ∃ (L : LnA) (s : LS), vs = [.ref L.o] ∧ LineAt C H L s ∧ ∀ p ws, H p = none → All2 (DeedV H) ws s.ds → Q (.ref p) (upd H p (.lst ws))
theorem ppl_flat : ∀ xs : List Nat, (ppl xs).all flatV = true
  | [] => rfl
  | _ :: xs => ppl_flat xs
theorem All2.unsnoc {α : Type} {R : V → α → Prop} : ∀ {xs : List α} {vs : List V} {x : α}, All2 R vs (xs ++ [x]) → ∃ ws v, vs = ws ++ [v] ∧ All2 R ws xs ∧ R v x
  | [], _, _, .cons h .nil => ⟨[], _, rfl, .nil, h⟩
  | _ :: _, _, _, .cons h t => by
    obtain ⟨ws, v, e, a, r⟩ := All2.unsnoc t
    exact ⟨_ :: ws, v, by rw [e]; rfl, .cons h a, r⟩
theorem erase_map {α β : Type} (f : α → β) : ∀ (l : List α) (j : Nat), (l.map f).eraseIdx j = (l.eraseIdx j).map f
  | [], _ => rfl
  | _ :: _, 0 => rfl
  | a :: l, j + 1 => congrArg (f a :: ·) (erase_map f l j)
theorem last_snoc {α : Type} (ws : List α) (v : α) : (ws ++ [v])[(ws ++ [v]).length - 1]? = some v := by simp
section
variable {P : Program} {w : World} {K : PySem.W.Frag} {mg : Str → Option Value} {base : Heap} {C : Addr}
theorem word_ne : ("serve" : Str) ≠ "come" := by decide +kernel
theorem ok_histM {f : Addr} {fd : FuncData} (F : Fun K "history" "Line.history" sHistM f fd) (hT : Nm mg) (T : LnT K mg C) : FnOk P w K mg base CX0 1 f fd ["self"] (spHistM C) := by
  refine F.ok scHistM (fun vs H Q E ⟨L, s, e, _⟩ => by rw [e]; rfl) (fun cdv A outer s H vs Q E hr h => ?_)
  obtain ⟨L, s, rfl, hL, q⟩ := h
  refine ⟨_, pss_one (ps_ret (pe_callTy call_list_of (by rfl) hT.list (by decide +kernel) (pa_cons (pe_fld (pv 0) rfl) pa_nil))), ?_⟩
  obtain ⟨⟨dx, fs, hob, hf⟩, e_pe, e_re, e_pa, _, ⟨ws, e_de, a_de⟩, _⟩ := id hL
  exact ⟨.ref L.o, rfl, L.o, C, dx, fs, .ref L.de, rfl, hob, T.cl, T.n_de, hf.de, L.de, _, rfl, .inl (SqL.of e_de), fun p np => q p ws np a_de⟩
end
end CL
set_option Elab.async false
set_option linter.all false
set_option maxRecDepth 100000
set_option maxHeartbeats 4000000
namespace CL
open PySem PySem.Spec PyProof.Rows L2 GE
theorem walk_seq {K : PySem.W.Frag} {a : Addr} {xs : List V} {J : It} {G : Hp → Prop} (h : ∀ H, G H → StandsAs K a xs J H) : Walk J xs.length G (YAt xs) :=
  ⟨fun i H hi g => (h H g).go (List.getElem?_eq_getElem hi), fun H g => (h H g).stop (Nat.le_refl _), fun i H x H' _ g y => (h H g).yld y⟩
abbrev sIsDeed : Stmt := topS 47
abbrev sIsCom : Stmt := topS 48
abbrev sIsHist : Stmt := topS 49
abbrev sLineOf : Stmt := topS 50
theorem scIsDeed : FnScope ["thing", "word", "many"] ["thing", "word", "many"] (defScope sIsDeed) := ⟨rfl, rfl, rfl, by decide +kernel, rfl, by decide +kernel, by decide +kernel⟩
theorem scIsCom : FnScope ["thing"] ["thing"] (defScope sIsCom) := ⟨rfl, rfl, rfl, by decide +kernel, rfl, by decide +kernel, by decide +kernel⟩
theorem scIsHist : FnScope ["thing", "standing", "deed"] ["thing"] (defScope sIsHist) := ⟨rfl, rfl, rfl, by decide +kernel, rfl, by decide +kernel, by decide +kernel⟩
theorem scLineOf : FnScope ["history", "line", "deed"] ["history"] (defScope sLineOf) := ⟨rfl, rfl, rfl, by decide +kernel, rfl, by decide +kernel, by decide +kernel⟩
/-! ### deeds, as data -/
def headIs (w : Str) : List PyData → Bool
  | .str z :: _ => decide (z = w)
  | _ => false
def isDeedD (d : PyData) (w : Str) (m : Nat) : Bool := match rowsD d with
  | some ds => decide (ds.length = m) && headIs w ds
  | none => false
def sndP : PyData → PyData := fun d => match rowsD d with
  | some (_ :: p :: _) => p
  | _ => .none
def isComD (d : PyData) : Bool := isDeedD d "come" 2 && isPatience (sndP d)
/-- how many stand behind so many deeds, none where they can't be done -/
def standF : List PyData → Nat → Option Nat
  | [], n => some n
  | d :: ds, n => if isComD d = true then standF ds (n + 1) else if isDeedD d "serve" 1 = true then (if 0 < n then standF ds (n - 1) else none) else none
def isHistD (d : PyData) : Bool := match rowsD d with
  | some ds => (standF ds 0).isSome
  | none => false
def patOf : PyData → Option Int
  | .int i => some i
  | _ => none
def toDeed (d : PyData) : Deed := if isComD d = true then .come (patOf (sndP d)) else .serve
theorem pat_of {d : PyData} (h : isPatience d = true) : d = optD (patOf d) ∧ isPatience (optD (patOf d)) = true := by
  cases d with
  | none => exact ⟨rfl, rfl⟩
  | int i => exact ⟨rfl, h⟩
  | _ => cases h
def isStrB : PyData → Bool
  | .str _ => true
  | _ => false
theorem kit_str {K : PySem.W.Frag} (d : PyData) : PySem.W.kitOne K (.type (tyName d)) (.type "str") = some (isStrB d) := by cases d <;> (refine kit_ty ?_; dsimp only [tyName, isStrB]; decide +kernel)
theorem rix_ofD {K : PySem.W.Frag} {H : Hp} {a : Addr} {xs : List V} {i : Nat} {v : V} {Q : VK} (h : H a = some (.lst xs) ∨ H a = some (.tup xs)) (e : xs[i]? = some v) (q : Q v H) : rIx K (.ref a) (.int (i : Int)) H Q := by
  rcases h with h | h
  · exact .inl ⟨a, xs, (i : Int), v, rfl, rfl, SqL.of h, atI_nat e, q⟩
  · exact .inr (.inl ⟨a, xs, (i : Int), v, rfl, rfl, SqT.of h, atI_nat e, q⟩)
/-- == of a text and what is there -/
def spIsDeed : Sp := fun vs H Q _ => ∃ (v : V) (d : PyData) (w : Str) (m : Nat), vs = [v, .str w, .int (m : Int)] ∧ Rp H v d ∧ 1 ≤ m ∧ ∀ H', Same H H' → Q (.bl (isDeedD d w m)) H'
theorem comD_toDeed {d : PyData} (h : isComD d = true) : ∃ p, toDeed d = .come p ∧ isPatience (optD p) = true ∧ sndP d = optD p := by
  have h2 : isPatience (sndP d) = true := by
    unfold isComD at h
    rw [Bool.and_eq_true] at h
    exact h.2
  obtain ⟨e1, e2⟩ := pat_of h2
  exact ⟨patOf (sndP d), by unfold toDeed; rw [if_pos h], e2, e1⟩
theorem comD_rows {d : PyData} (h : isComD d = true) : ∃ w p, rowsD d = some [w, p] ∧ sndP d = p := by
  unfold isComD isDeedD at h
  rw [Bool.and_eq_true] at h
  cases q : rowsD d with
  | none => rw [q] at h; cases h.1
  | some ds =>
    rw [q] at h
    have h1 := h.1
    simp only [Bool.and_eq_true, decide_eq_true_eq] at h1
    match ds, h1.1 with
    | [w, p], _ => exact ⟨w, p, rfl, by unfold sndP; rw [q]⟩
/-- a history, and what its deeds come to -/
theorem standF_ok : ∀ (ds : List PyData) (es : List Deed) (k : Nat), Vd es → (standF ds (stF es).xs.length) = some k → Vd (es ++ ds.map toDeed)
  | [], es, k, hv, _ => by rw [List.map_nil, List.append_nil]; exact hv
  | d :: ds, es, k, hv, h => by
    have e1 : es ++ (d :: ds).map toDeed = (es ++ [toDeed d]) ++ ds.map toDeed := by simp
    rw [e1]
    unfold standF at h
    have hl := hv.ok.len
    by_cases c : isComD d = true
    · rw [if_pos c] at h
      obtain ⟨p, e2, _, _⟩ := comD_toDeed c
      rw [e2]
      refine standF_ok ds (es ++ [.come p]) k (hv.come p) ?_
      rw [stF_snoc]
      have : (stepS (stF es) (.come p)).xs.length = (stF es).xs.length + 1 := by
        obtain ⟨g1, _⟩ := goes_le (stF es).rs.length (stF es).rs
        show (_ ++ _ :: _).length = _
        rw [List.length_append, List.length_cons, List.length_take, List.length_drop]
        omega
      rw [this]
      exact h
    · rw [if_neg c] at h
      by_cases c2 : isDeedD d "serve" 1 = true
      · rw [if_pos c2] at h
        by_cases c3 : 0 < (stF es).xs.length
        · rw [if_pos c3] at h
          have e2 : toDeed d = .serve := by unfold toDeed; rw [if_neg c]
          rw [e2]
          refine standF_ok ds (es ++ [.serve]) k (hv.serve fun z => by rw [z] at c3; exact absurd c3 (by decide)) ?_
          rw [stF_snoc]
          have : (stepS (stF es) .serve).xs.length = (stF es).xs.length - 1 := by
            show (stF es).xs.tail.length = _
            rw [List.length_tail]
          rw [this]
          exact h
        · rw [if_neg c3] at h; cases h
      · rw [if_neg c2] at h; cases h
theorem standF_take : ∀ (ds : List PyData) (n : Nat) (i : Nat), (standF ds n).isSome = true → (standF (ds.take i) n).isSome = true
  | [], n, i, h => by rw [List.take_nil]; exact h
  | d :: ds, n, 0, h => rfl
  | d :: ds, n, i + 1, h => by
    rw [List.take_succ_cons]
    unfold standF at h ⊢
    by_cases c : isComD d = true
    · rw [if_pos c] at h ⊢; exact standF_take ds _ i h
    · rw [if_neg c] at h ⊢
      by_cases c2 : isDeedD d "serve" 1 = true
      · rw [if_pos c2] at h ⊢
        by_cases c3 : 0 < n
        · rw [if_pos c3] at h ⊢; exact standF_take ds _ i h
        · rw [if_neg c3] at h; cases h
      · rw [if_neg c2] at h; cases h
def spLineOf (C : Addr) : Sp := fun vs H Q _ => ∃ (v : V) (d : PyData) (ds : List PyData), vs = [v] ∧ Rp H v d ∧ rowsD d = some ds ∧ (standF ds 0).isSome = true ∧ ds.length ≤ 310 ∧
  ∀ (L : LnA) H', Same H H' → (∀ b, L.has b → H b = none) → LineAt C H' L (stF (ds.map toDeed)) → Vd (ds.map toDeed) → Q (.ref L.o) H'
section
variable {P : Program} {w : World} {K : PySem.W.Frag} {mg : Str → Option Value} {base : Heap} {C : Addr}
theorem ok_isDeed {f : Addr} {fd : FuncData} (F : Fun K "is_deed" "is_deed" sIsDeed f fd) (hT : Nm mg) (hstr : mg "str" = none) (CR : Cal P w K mg base 1 "is_row" ["thing"] (spOne isRow)) : FnOk P w K mg base CX0 2 f fd ["thing", "word", "many"] spIsDeed := by
  refine F.ok scIsDeed (fun vs H Q E ⟨v, d, z, m, e, _⟩ => by rw [e]; rfl) (fun cdv A outer s H vs Q E hr h => ?_)
  obtain ⟨v, d, z, m, rfl, hR, hm, q⟩ := h
  refine ⟨_, pss_one (ps_ret (pe_and (pe_cal CR (hr.mono (by decide)) (by rfl) (pa_cons (pv 0) pa_nil)) (pe_and (pe_cmpR op_eq (pe_callB call_len_seq (by rfl) hT.len PySem.boot_len (pa_cons (pv 0) pa_nil)) (pv 2) (nomark _)) (pe_and (pe_callB call_isi (by rfl) hT.isi (by decide +kernel) (pa_cons (pe_ix ix_seq (pv 0) pe_int (fun _ _ => rfl)) (pa_cons (pe_bltn (v := .ty "str") (by rfl) hstr PyProof.Rows.boot_str rfl) pa_nil))) (pe_one (pe_cmpR op_eq (pe_ix ix_seq (pv 0) pe_int (fun _ _ => rfl)) (pv 1) (nomark _))))))), ?_⟩
  refine ⟨v, rfl, v, d, rfl, hR, fun H1 s1 => ⟨isRow d, rfl, ite2 (fun e => ?_) (fun e => ?_)⟩⟩
  · have q1 := q H1 s1
    have hR1 := Rp.sm s1 hR
    obtain ⟨ds, hds⟩ : ∃ ds, rowsD d = some ds := Option.isSome_iff_exists.mp e
    obtain ⟨a, xs, rfl, hx, hso⟩ := hR1.rows hds
    have hl := hx.length
    have hv : isDeedD d z m = (decide (ds.length = m) && headIs z ds) := by unfold isDeedD; rw [hds]
    rw [hv] at q1
    refine ⟨.ref a, rfl, a, xs, rfl, hso.elim (fun h => .inl (SqL.of h)) (fun h => .inr (SqT.of h)), .int (m : Int), rfl, rfl, _, rfl, ?_⟩
    have ed : decide (V.int (xs.length : Int) = V.int (m : Int)) = decide (ds.length = m) := by
      rw [hl]
      by_cases c : ds.length = m
      · rw [c]; simp
      · have : ¬ (V.int (ds.length : Int) = V.int (m : Int)) := fun z => c (by injection z with z; omega)
        rw [decide_eq_false c, decide_eq_false this]
    rw [ed]
    refine ite2 (fun c => ?_) (fun c => ?_)
    · have c' := of_decide_eq_true c
      rw [c, Bool.true_and] at q1
      obtain ⟨x, xs', rfl⟩ : ∃ x xs', xs = x :: xs' := by
        cases xs with
        | nil =>
          have h0 : ([] : List V).length = 0 := rfl
          omega
        | cons x xs' => exact ⟨x, xs', rfl⟩
      cases hx with
      | @cons _ _ d0 ds0 h0 ht =>
        refine ⟨.ref a, rfl, rix_ofD (i := 0) hso rfl ⟨x, .ty "str", _, _, isStrB d0, rfl, .ty _, h0.ty, kit_str d0, isStrB d0, rfl, ite2 (fun e2 => ?_) (fun e2 => ?_)⟩⟩
        · cases h0 with
          | str y =>
            refine ⟨.ref a, rfl, rix_ofD (i := 0) hso rfl ⟨.str z, rfl, rfl, ?_⟩⟩
            have e3 : decide (V.str y = V.str z) = decide (y = z) := by
              by_cases c : y = z
              · rw [c]; simp
              · have : ¬ (V.str y = V.str z) := fun q => c (by injection q)
                rw [decide_eq_false c, decide_eq_false this]
            rw [e3]
            exact q1
          | _ => exact absurd e2 Bool.false_ne_true
        · have e3 : headIs z (d0 :: ds0) = false := by
            cases h0 with
            | str y => exact absurd rfl e2
            | _ => rfl
          rw [e3] at q1
          exact q1
    · have c' : decide (ds.length = m) = false := Bool.eq_false_iff.mpr c
      rw [c', Bool.false_and] at q1
      exact q1
  · have hd : rowsD d = none := by
      cases z : rowsD d with
      | none => rfl
      | some ds => exact absurd (show isRow d = true by unfold isRow; rw [z]; rfl) e
    have q1 := q H1 s1
    have hv : isDeedD d z m = false := by unfold isDeedD; rw [hd]
    rw [hv] at q1
    exact q1
theorem ok_isCom {f : Addr} {fd : FuncData} (F : Fun K "is_coming" "is_coming" sIsCom f fd) (CD : Cal P w K mg base 2 "is_deed" ["thing", "word", "many"] spIsDeed) (CP : Cal P w K mg base 2 "is_patience" ["thing"] (spOne isPatience)) : FnOk P w K mg base CX0 3 f fd ["thing"] (spOne isComD) := by
  refine F.ok scIsCom spOne_len (fun cdv A outer s H vs Q E hr h => ?_)
  obtain ⟨v, d, rfl, hR, q⟩ := h
  refine ⟨_, pss_one (ps_ret (pe_and (pe_cal CD (hr.mono (by decide)) (by rfl) (pa_cons (pv 0) (pa_cons pe_str (pa_cons pe_int pa_nil)))) (pe_one (pe_cal CP (hr.mono (by decide)) (by rfl) (pa_cons (pe_ix ix_seq (pv 0) pe_int (fun _ _ => rfl)) pa_nil))))), ?_⟩
  refine ⟨v, rfl, v, d, "come", 2, rfl, hR, by decide, fun H1 s1 => ⟨_, rfl, ite2 (fun e => ?_) (fun e => ?_)⟩⟩
  · have hR1 := Rp.sm s1 hR
    have h2 : ∃ x p, rowsD d = some [x, p] := by
      unfold isDeedD at e
      cases z : rowsD d with
      | none => rw [z] at e; cases e
      | some ds =>
        rw [z] at e
        simp only [Bool.and_eq_true, decide_eq_true_eq] at e
        match ds, e.1 with
        | [x, p], _ => exact ⟨x, p, rfl⟩
    obtain ⟨x, p, hds⟩ := h2
    obtain ⟨a, xs, rfl, hx, hso⟩ := hR1.rows hds
    cases hx with
    | cons h0 ht =>
      cases ht with
      | cons h1 ht =>
        cases ht
        refine ⟨.ref a, rfl, rix_ofD (i := 1) hso rfl ⟨_, p, rfl, h1, fun H2 s2 => ?_⟩⟩
        have q2 := q H2 (s1.trans s2)
        have hv : isComD d = isPatience p := by
          unfold isComD
          rw [e, Bool.true_and]
          unfold sndP
          rw [hds]
        rw [hv] at q2
        exact q2
  · have q1 := q H1 s1
    have hv : isComD d = false := by
      unfold isComD
      rw [Bool.eq_false_iff.mpr e, Bool.false_and]
    rw [hv] at q1
    exact q1
theorem ok_isHist {f : Addr} {fd : FuncData} (F : Fun K "is_history" "is_history" sIsHist f fd) (CR : Cal P w K mg base 1 "is_row" ["thing"] (spOne isRow)) (CD : Cal P w K mg base 2 "is_deed" ["thing", "word", "many"] spIsDeed) (CC : Cal P w K mg base 3 "is_coming" ["thing"] (spOne isComD)) : FnOk P w K mg base CX0 4 f fd ["thing"] (spOne isHistD) := by
  refine F.ok scIsHist spOne_len (fun cdv A outer s H vs Q E hr h => ?_)
  obtain ⟨v, d, rfl, hR, q⟩ := h
  have nd := scIsHist.nd
  refine ⟨_, (pss_cons (ps_if (pt_not (pt_val (pe_cal CR (hr.mono (by decide)) (by rfl) (pa_cons (pv 0) pa_nil)))) (pss_one (ps_ret pe_bl)) pss_nil)
      (pss_cons (ps_set (i := 1) nd rfl (.inl rfl) pe_int)
      (pss_cons (ps_for PassesOwn.never rfl (pi_seq (pv 0)) (pg_name (i := 2) nd rfl (.inl rfl)) (pss_one (ps_if (pt_val (pe_cal CC (hr.mono (by decide)) (by rfl) (pa_cons (pv 2) pa_nil))) (pss_one (ps_aug (i := 1) nd rfl (.inl rfl) pe_int ip_add)) (pss_one (ps_if (PW.pt (pw_and (pt_val (pe_cal CD (hr.mono (by decide)) (by rfl) (pa_cons (pv 2) (pa_cons pe_str (pa_cons pe_int pa_nil))))) (pw_and1 (pt_cmpR op_gt (pv 1) pe_int (nomark _))))) (pss_one (ps_aug (i := 1) nd rfl (.inl rfl) pe_int ip_sub)) (pss_one (ps_ret pe_bl)))))))
      (pss_one (ps_ret pe_bl))))), ?_⟩
  refine ⟨v, rfl, v, d, rfl, hR, fun H1 s1 => ⟨isRow d, rfl, ?_⟩⟩
  cases hds : rowsD d with
  | none =>
    have e1 : isRow d = false := by unfold isRow; rw [hds]; rfl
    have e2 : isHistD d = false := by unfold isHistD; rw [hds]
    have q1 := q H1 s1
    rw [e2] at q1
    rw [e1]
    exact iteT q1
  | some ds =>
    have e1 : isRow d = true := by unfold isRow; rw [hds]; rfl
    have e2 : isHistD d = (standF ds 0).isSome := by unfold isHistD; rw [hds]
    rw [e1]
    refine iteF ?_
    have hR1 := Rp.sm s1 hR
    obtain ⟨a, xs, rfl, hx, hso⟩ := hR1.rows hds
    have st : StSeq H1 a xs := ⟨hso⟩
    refine ⟨.ref a, rfl, a, xs, rfl, st, fun J hJ => for_it (walk_seq hJ) (fun i σ G => (∃ (n : Nat) (y2 : Option V), σ = [some (.ref a), some (.int (n : Int)), y2] ∧ standF ds 0 = standF (ds.drop i) n) ∧ Same H1 G) ⟨⟨0, none, rfl, rfl⟩, Same.refl _⟩ (fun i σ G _ hP => Ex.of hP.2) (fun i x σ G G' hi hP hY => ?_) (fun σ G hP => ?_)⟩
    · obtain ⟨⟨n, y2, rfl, hst⟩, sG⟩ := hP
      obtain ⟨rfl, hxi⟩ := hY
      obtain ⟨di, hdi, hRi⟩ := hx.get hxi
      have hdr : ds.drop i = di :: ds.drop (i + 1) := by
        have hil := (List.getElem?_eq_some_iff.mp hdi)
        rw [List.drop_eq_getElem_cons hil.1, hil.2]
      rw [hdr] at hst
      have hRG := Rp.sm sG hRi
      refine ⟨x, rfl, x, di, rfl, hRG, fun H3 s3 => ⟨isComD di, rfl, ite2 (fun e => ?_) (fun e => ?_)⟩⟩
      · refine ⟨.int (n : Int), rfl, (n : Int), 1, rfl, rfl, ⟨n + 1, _, rfl, ?_⟩, sG.trans s3⟩
        rw [hst]
        conv => lhs; unfold standF
        rw [if_pos e]
      · have hRG3 := Rp.sm s3 hRG
        refine ⟨x, rfl, x, di, "serve", 1, rfl, hRG3, by decide, fun H4 s4 => ⟨_, rfl, ite2 (fun e2' => ?_) (fun e2' => ?_)⟩⟩
        · refine ⟨.int (n : Int), rfl, _, _, rfl, rfl, _, rfl, ite2 (fun e3 => ?_) (fun e3 => ?_)⟩
          · have e3 : (0 : Int) < (n : Int) := of_decide_eq_true e3
            refine ⟨.int (n : Int), rfl, (n : Int), 1, rfl, rfl, ⟨n - 1, some x, ?_, ?_⟩, (sG.trans s3).trans s4⟩
            · show [some (.ref a), some (.int ((n : Int) - 1)), some x] = _
              rw [show ((n - 1 : Nat) : Int) = (n : Int) - 1 by omega]
            · rw [hst]
              conv => lhs; unfold standF
              rw [if_neg e, if_pos e2', if_pos (by omega)]
          · have e3 : ¬ (0 : Int) < (n : Int) := fun z => e3 (decide_eq_true z)
            have q1 := q H4 (s1.trans ((sG.trans s3).trans s4))
            have : isHistD d = false := by
              rw [e2, hst]
              unfold standF
              rw [if_neg e, if_pos e2', if_neg (by omega)]
              rfl
            rw [this] at q1
            exact q1
        · have q1 := q H4 (s1.trans ((sG.trans s3).trans s4))
          have : isHistD d = false := by
            rw [e2, hst]
            unfold standF
            rw [if_neg e, if_neg e2']
            rfl
          rw [this] at q1
          exact q1
    · obtain ⟨⟨n, y2, rfl, hst⟩, sG⟩ := hP
      have q1 := q G (s1.trans sG)
      have : isHistD d = true := by
        rw [e2, hst, hx.length, List.drop_length]
        rfl
      rw [this] at q1
      exact q1
theorem Flds.comeX {fs : List (Str × V)} {L : LnA} (h : Flds fs L) : fs.lookup ("come" : Str) = none := h.no _ (by decide +kernel) (by decide +kernel) (by decide +kernel) (by decide +kernel) (by decide +kernel)
theorem Flds.serveX {fs : List (Str × V)} {L : LnA} (h : Flds fs L) : fs.lookup ("serve" : Str) = none := h.no _ (by decide +kernel) (by decide +kernel) (by decide +kernel) (by decide +kernel) (by decide +kernel)
theorem serve_eqX {s : LS} {x : Nat} {xs : List Nat} {r : Option Int} (h1 : s.xs = x :: xs) (h2 : s.rs.head? = some r) : serveS s x r = stepS s .serve := by
  show serveS s x r = serveS s (s.xs.headD 0) (s.rs.headD none)
  rw [h1, List.headD_cons, List.headD_eq_head?_getD, h2]
  rfl
theorem ok_lineOf {f fI fC fS : Addr} {fd fdI fdC fdS : FuncData} (F : Fun K "line_of" "line_of" sLineOf f fd) (T : LnT K mg C) (M : Mk K C fI)
    (GI : FnOk P w K mg base CX0 1 fI fdI ["self"] (spInitL C)) (bI : Binds K fdI ["self"] [])
    (mC : Meth K C "come" fC) (GC : FnOk P w K mg base CX0 3 fC fdC ["self", "patience"] (spComeM C)) (bC : Binds K fdC ["self", "patience"] [])
    (mS : Meth K C "serve" fS) (GS : FnOk P w K mg base CX0 1 fS fdS ["self"] (spServeM C)) (bS : Binds K fdS ["self"] [])
    (CH : Cal P w K mg base 4 "is_history" ["thing"] (spOne isHistD)) (CC : Cal P w K mg base 3 "is_coming" ["thing"] (spOne isComD)) : FnOk P w K mg base CX0 5 f fd ["history"] (spLineOf C) := by
  refine F.ok scLineOf (fun vs H Q E ⟨v, d, ds, e, _⟩ => by rw [e]; rfl) (fun cdv A outer s H vs Q E hr h => ?_)
  obtain ⟨v, d, ds, rfl, hR, hds, hst, hl, q⟩ := h
  have nd := scLineOf.nd
  refine ⟨_, (pss_cons (ps_if (pt_not (pt_val (pe_cal CH (hr.mono (by decide)) (by rfl) (pa_cons (pv 0) pa_nil)))) (pss_one ps_never) pss_nil)
      (pss_cons (ps_set (i := 1) nd rfl (.inl rfl) (pe_make0 M GI (hr.mono (by decide)) rfl T.mgC bI .nil pass0))
      (pss_cons (ps_for PassesOwn.never rfl (pi_seqW (pv 0)) (pg_name (i := 2) nd rfl (.inl rfl)) (pss_one (ps_if (pt_val (pe_cal CC (hr.mono (by decide)) (by rfl) (pa_cons (pv 2) pa_nil))) (pss_one (ps_expr (pe_meth (pv 1) T.cl mC GC (hr.mono (by decide)) bC .nil pass0 (pa_cons (pe_ix ix_seq (pv 2) pe_int (fun _ _ => rfl)) pa_nil)))) (pss_one (ps_expr (pe_meth0 (pv 1) T.cl mS GS (hr.mono (by decide)) bS .nil pass0))))))
      (pss_one (ps_ret (pv 1)))))), ?_⟩
  have e2 : isHistD d = true := by unfold isHistD; rw [hds]; exact hst
  refine ⟨v, rfl, v, d, rfl, hR, fun H1 s1 => ⟨isHistD d, rfl, ?_⟩⟩
  rw [e2]
  refine iteF ?_
  refine fun x1 dx1 nx1 nd1 ne1 => ⟨x1, dx1, rfl, upd_same, fun L G1 eA nA lA kA => ⟨rfl, ?_⟩⟩
  have s01 : Same H1 G1 := fun b o e => kA b o (ne_of_none e nx1) (by rw [upd_ne (ne_of_none e nx1), upd_ne (ne_of_none e nd1)]; exact e)
  have nA0 : ∀ b, L.has b → H1 b = none := fun b hb => by
    cases z : H1 b with
    | none => rfl
    | some o =>
      have := nA b hb
      rw [upd_ne (ne_of_none z nx1), upd_ne (ne_of_none z nd1), z] at this
      cases this
  subst eA
  have hR1 := Rp.sm s1 hR
  obtain ⟨a, xs, rfl, hx, hso⟩ := hR1.rows hds
  show tSeq _ _ _ [some (.ref a), some (.ref L.o), none] G1
  have stG : ∀ {G : Hp}, Same H1 G → StSeq G a xs := fun m => ⟨hso.imp (fun h => m _ _ h) (fun h => m _ _ h)⟩
  obtain ⟨kk, hkk⟩ := Option.isSome_iff_exists.mp hst
  have hvd : Vd (ds.map toDeed) := standF_ok ds [] kk vd_nil hkk
  refine ⟨.ref a, rfl, a, xs, rfl, stG s01, fun J hJ => ?_⟩
  have hja : ∀ G : Hp, Same H1 G → (∀ o, G1 a = some o → G a = some o) := fun G m o e => by
    rcases hso with h | h
    · rw [s01 _ _ h] at e; rw [← e]; exact m _ _ h
    · rw [s01 _ _ h] at e; rw [← e]; exact m _ _ h
  refine for_seq (K := K) (a := a) (xs := xs) (fun i σ G => (∃ y, σ = [some (.ref a), some (.ref L.o), y]) ∧ Same H1 G ∧ LineAt C G L (stF ((ds.take i).map toDeed)))
    ⟨⟨none, rfl⟩, s01, lA⟩ (fun i σ G hP => hJ G (hja G hP.2.1)) (fun i x σ G hxi hP => ?_) (fun σ G hP => ?_)
  · obtain ⟨⟨y, rfl⟩, sG, lG⟩ := hP
    obtain ⟨di, hdi, hRi⟩ := hx.get hxi
    have hil := (List.getElem?_eq_some_iff.mp hdi).1
    have hRG := Rp.sm sG hRi
    have hsn : (ds.take (i + 1)).map toDeed = (ds.take i).map toDeed ++ [toDeed di] := by rw [List.take_add_one, hdi, List.map_append]; rfl
    have hvt : ∀ j, Vd ((ds.take j).map toDeed) := fun j => Vd.pre (es := (ds.drop j).map toDeed) (by rw [← List.map_append, List.take_append_drop]; exact hvd)
    have hok := (hvt i).ok
    have hcn : (stF ((ds.take i).map toDeed)).ps.length ≤ 400 := by
      have h1 := hok.dl
      have h2 := hok.tot
      rw [stF_ds, List.length_map, List.length_take] at h1
      omega
    have hv1 := hvt (i + 1)
    rw [hsn] at hv1 ⊢
    rw [stF_snoc]
    have hxs : toDeed di = .serve → (stF ((ds.take i).map toDeed)).xs ≠ [] := fun z => by rw [z] at hv1; exact hv1.last
    generalize stF ((ds.take i).map toDeed) = s at lG hok hcn hxs
    refine ⟨x, rfl, x, di, rfl, hRG, fun H3 s3 => ⟨isComD di, rfl, ite2 (fun e => ?_) (fun e => ?_)⟩⟩
    · obtain ⟨p, e1, e2, e3⟩ := comD_toDeed e
      obtain ⟨w0, pd, hrw, hpd⟩ := comD_rows e
      have hRG3 := Rp.sm s3 hRG
      obtain ⟨t, ys, rfl, hys, hto⟩ := hRG3.rows hrw
      have lG3 := lG.same s3
      cases hys with
      | cons h0 ht =>
        cases ht with
        | @cons v1 _ _ _ h1 ht =>
          cases ht
          rw [← hpd, e3] at h1
          obtain rfl := rp_optV h1
          obtain ⟨dx, fs, hob, hf⟩ := lG3.ob
          refine ⟨.ref L.o, rfl, L.o, dx, fs, rfl, hob, hf.comeX, .ref t, rfl, rix_ofD (i := 1) hto rfl ⟨L, s, p, rfl, lG3, e2, hcn, fun H4 l4 m4 => ?_⟩⟩
          refine ⟨⟨_, rfl⟩, fun b o eb => m4.keep b o (fun z => by rw [nA0 b z] at eb; cases eb) (s3 _ _ (sG b o eb)), ?_⟩
          rw [e1]
          exact l4
    · have e1 : toDeed di = .serve := by unfold toDeed; rw [if_neg e]
      have hx0 := hxs e1
      rw [e1]
      obtain ⟨x0, xs0, ex⟩ : ∃ x0 xs0, s.xs = x0 :: xs0 := by
        cases z : s.xs with
        | nil => exact absurd z hx0
        | cons x0 xs0 => exact ⟨x0, xs0, rfl⟩
      have lG3 := lG.same s3
      obtain ⟨dx, fs, hob, hf⟩ := lG3.ob
      refine ⟨.ref L.o, rfl, L.o, dx, fs, rfl, hob, hf.serveX, L, s, x0, xs0, rfl, lG3, ex, hcn, fun H4 rr hrr l4 m4 => ?_⟩
      refine ⟨⟨_, rfl⟩, fun b o eb => m4.keep b o (fun z => by rw [nA0 b z] at eb; cases eb) (s3 _ _ (sG b o eb)), ?_⟩
      rw [← serve_eqX ex hrr]
      exact l4
  · obtain ⟨⟨y, rfl⟩, sG, lG⟩ := hP
    rw [hx.length, List.take_length] at lG
    exact ⟨_, rfl, q L G (s1.trans sG) (fun b hb => by
      cases z : H b with
      | none => rfl
      | some o =>
        have := s1 _ _ z
        rw [nA0 b hb] at this
        cases this) lG hvd⟩
end
end CL
set_option Elab.async false
set_option linter.all false
set_option maxRecDepth 100000
set_option maxHeartbeats 4000000
namespace CL
open PySem PySem.Spec PyProof.Rows L2 GE
abbrev RF := Nat → Option Int
structure NmO (mg : Str → Option Value) : Prop where
  isi : mg "isinstance" = none
  len : mg "len" = none
  all : mg "all" = none
  int : mg "int" = none
  bool : mg "bool" = none
  list : mg "list" = none
  tuple : mg "tuple" = none
  range : mg "range" = none
  sorted : mg "sorted" = none
  enum : mg "enumerate" = none
  min : mg "min" = none
  most : ∃ t, mg "MOST_PEOPLE" = some (.int 60 t)
abbrev Sta := List Nat × List (Option Int)
def put (st : Sta) (who : Nat) (e : Option Int) : Sta :=
  (st.1.take (goes st.1.length st.2).1 ++ who :: st.1.drop (goes st.1.length st.2).1, (goes st.1.length st.2).2.take (goes st.1.length st.2).1 ++ e :: (goes st.1.length st.2).2.drop (goes st.1.length st.2).1)
/-- the queue of the first so many -/
def lin (ps : List (Option Int)) : Nat → Sta
  | 0 => ([], [])
  | n + 1 => put (lin ps n) n (ps.getD n none)
def queueF (ps : List (Option Int)) : List Nat := (lin ps ps.length).1
theorem lin_perm (ps : List (Option Int)) : ∀ n, (lin ps n).1.Perm (List.range n) ∧ (lin ps n).2.length = n
  | 0 => ⟨.refl _, rfl⟩
  | n + 1 => by
    obtain ⟨h1, h2⟩ := lin_perm ps n
    have l1 := h1.length_eq
    rw [List.length_range] at l1
    obtain ⟨g1, g2⟩ := goes_le (lin ps n).1.length (lin ps n).2
    refine ⟨?_, ?_⟩
    · have h := List.perm_middle (a := n) (l₁ := (lin ps n).1.take (goes (lin ps n).1.length (lin ps n).2).1) (l₂ := (lin ps n).1.drop (goes (lin ps n).1.length (lin ps n).2).1)
      rw [List.take_append_drop] at h
      exact (h.trans (h1.cons n)).trans (by rw [List.range_succ]; exact (List.perm_append_singleton n (List.range n)).symm)
    · show (_ ++ _ :: _).length = n + 1
      rw [List.length_append, List.length_cons, List.length_take, List.length_drop, g2, h2]
      omega
end CL
set_option Elab.async false
set_option linter.all false
set_option maxRecDepth 100000
set_option maxHeartbeats 4000000
namespace CL
open PySem PySem.Spec PyProof.Rows L2 GE
theorem range_ppl (m : Nat) : rgV 0 (m : Int) = ppl (List.range m) := by
  unfold rgV ppl
  have e : ((m : Int) - 0).toNat = m := by omega
  rw [e]
  refine List.map_congr_left fun i _ => ?_
  rw [Int.zero_add]
theorem len_blk {X : Cx} {s : Shared} {H : Hp} {scope : Scope} {cenv : Env} {fp : List Addr} : CallR (X.blk s H scope cenv fp) (.builtin "len") (fun xs H Q => ∃ p ys, xs = [.ref p] ∧ (SqL X.K H p ys ∨ SqT X.K H p ys) ∧ Q (.int ys.length) H) := call_len_seq
theorem pop_blk {X : Cx} {s : Shared} {H : Hp} {scope : Scope} {cenv : Env} {fp : List Addr} {o e : Expr} {apos cpos : Pos} {to : TE} {t : TA} (ho : PE (X.blk s H scope cenv fp) o to) (ha : PA (X.blk s H scope cenv fp) [e] t)
    (hbase : attributeBase o "pop" (X.blk s H scope cenv fp).env (eval o (X.blk s H scope cenv fp).env) = eval o (X.blk s H scope cenv fp).env := by rfl)
    (hfew : ((backTo cpos (starEach [e] (X.blk s H scope cenv fp).env)).all (fun x => !x.1) && (backToKw cpos (keywordEach [] (X.blk s H scope cenv fp).env)).all (fun x => x.1.isSome)
      && decide ([e].length + ([] : List Keyword).length + (if ([] : List Keyword).isEmpty then 0 else 1) < 30)) = true := by rfl)
    (hline : (apos.endLine == cpos.line) = true := by rfl) (hs : starEach [e] (X.blk s H scope cenv fp).env = (false, eval e (X.blk s H scope cenv fp).env) :: starEach [] (X.blk s H scope cenv fp).env := by rfl) (hplain : (backTo cpos (starEach [] (X.blk s H scope cenv fp).env)).any (·.1) = false := by rfl) :
    PE (X.blk s H scope cenv fp) (.Call (.Attribute o "pop" apos) [e] [] cpos) (tBM X.K "list" rPopAt to t) :=
  pe_bm PySem.F.plainAttrs_list PySem.F.slot_list_pop PySem.F.type_list_pop mt_popAt ho ha hbase hfew hline hs hplain
theorem erase_ppl : ∀ (xs : List Nat) (j : Nat), (ppl xs).eraseIdx j = ppl (xs.eraseIdx j)
  | [], _ => rfl
  | _ :: _, 0 => rfl
  | x :: xs, j + 1 => congrArg (V.int (x : Int) :: ·) (erase_ppl xs j)
theorem perm_erase {xs : List Nat} : ∀ {j : Nat} (h : j < xs.length), xs.Perm ([xs[j]] ++ xs.eraseIdx j) := by
  induction xs with
  | nil => intro j h; exact absurd h (Nat.not_lt_zero j)
  | cons x xs ih =>
    intro j h
    cases j with
    | zero => exact .refl _
    | succ j => exact ((ih (j := j) (Nat.lt_of_succ_lt_succ h)).cons x).trans (List.Perm.swap _ _ _)
end CL
set_option Elab.async false
set_option linter.all false
set_option maxRecDepth 100000
set_option maxHeartbeats 4000000
namespace CL
open PySem PySem.Spec PyProof.Rows L2 GE
theorem rp_list {H : Hp} {v : V} {ds : List PyData} (h : Rp H v (.list ds)) : ∃ p xs, v = .ref p ∧ H p = some (.lst xs) ∧ RpAll H xs ds := by
  cases h with
  | lst h1 h2 => exact ⟨_, _, rfl, h1, h2⟩
theorem RpAll.drop {H : Hp} : ∀ {vs : List V} {ds : List PyData} (n : Nat), RpAll H vs ds → RpAll H (vs.drop n) (ds.drop n)
  | _, _, 0, h => h
  | _, _, _ + 1, .nil => .nil
  | _, _, n + 1, .cons _ t => RpAll.drop n t
theorem rp_intsA {H : Hp} : ∀ ns : List Int, RpAll H (ns.map V.int) (ns.map PyData.int)
  | [] => .nil
  | n :: ns => .cons (.int n) (rp_intsA ns)
end CL
set_option Elab.async false
set_option linter.all false
set_option maxRecDepth 100000
set_option maxHeartbeats 4000000
namespace CL
open PySem PySem.Spec PyProof.Rows L2 GE
/-- people as whole numbers -/
def ic (ys : List Nat) : List Int := ys.map fun y : Nat => (y : Int)
theorem ppl_ic (ys : List Nat) : ppl ys = (ic ys).map V.int := by
  unfold ppl ic
  rw [List.map_map]
  rfl
end CL
set_option Elab.async false
set_option linter.all false
set_option maxRecDepth 100000
set_option maxHeartbeats 4000000
namespace CL
open PySem PySem.Spec PyProof.Rows L2 GE
/-! ### sorted(row) of whole numbers, a list or a tuple -/
section
variable {P : Program} {w : World} {A : Around} {E : Value → Shared → Prop} {t : Shared}
/-- a fresh list of what a tuple holds -/
abbrev taken (h : Heap) (us : List Value) : Heap := Heap.update (Heap.push h (seqObj "list" #[] 0)) h.objs.size (Obj.mapSeq fun z => z ++ us.toArray)
theorem grab_tup {b : Addr} {us : List Value} {R : List Value → Shared → Prop} {ob : Obj} {c : Nat} (hob : t.heap.get? b = some ob) (hcl : ob.cls = .type "tuple") (hda : ob.data = .seq us.toArray c)
    (hle : us.length ≤ sizeLine) (hr : R us { t with heap := taken t.heap us }) : wpAny (model P w) A (collect (.ref b)) R E t := by
  have up : (t.heap.push (seqObj "list" #[] 0)).get? b = some ob := Heap.get?_push_of_some _ hob
  have own : (t.heap.push (seqObj "list" #[] 0)).get? t.heap.objs.size = some (seqObj "list" #[] 0) := Heap.get?_push_size _ rfl
  unfold collect
  refine wpAny_bind (wpAny_runValue (codeAny_builtin entry_proto_collect' (?_ : wpAny _ _ (do again (.builtin "list.__iadd__" ⟨[← newList [], .ref b], []⟩)) _ _ t)))
  refine wpAny_bind (wpAny_newList (wpAny_pure ⟨Code.quiet_builtin _ (by decide +kernel), codeAny_builtin entry_list_iadd' ?_⟩))
  show wpAny _ _ (Builtin.List.listExtendWith (.ref t.heap.objs.size) (.ref b) (.ref t.heap.objs.size)) _ _ { t with heap := Heap.push t.heap (seqObj "list" #[] 0) }
  unfold Builtin.List.listExtendWith
  refine wpAny_bind (wpAny_typeOf (T := "tuple") ⟨ob, up, hcl⟩ ?_)
  have isT : (Value.type "tuple" == Value.type "tuple") = true := by rfl
  rw [if_pos (show (Builtin.List.listSameRef (.ref t.heap.objs.size) (.ref b) || Value.type "tuple" == .type "list" || Value.type "tuple" == .type "tuple") = true by rw [isT, Bool.or_true])]
  refine wpAny_bind (listItems_at up hda (wpAny_bind (listItems_at (n := 0) (xs := #[]) own rfl ?_)))
  rw [if_neg (show ¬ (!(#[] : Array Value).isEmpty && Builtin.List.listTooLong ((#[] : Array Value).size + us.toArray.size)) = true by simp)]
  refine wpAny_bind (listUpdate_at (n := 0) (xs := #[]) own rfl (wpAny_pure ?_) (Nat.zero_le _) (Nat.le_succ_of_le (by simpa using hle)))
  have got : (taken t.heap us).get? t.heap.objs.size = some (Obj.mapSeq (fun z => z ++ us.toArray) (seqObj "list" #[] 0)) := Heap.get?_update_self _ own rfl
  show wpAny (model P w) A (load t.heap.objs.size >>= fun o => match o.data with
    | .seq xs _ => pure xs.toList
    | _ => unsupported "internal:collect") R E { t with heap := taken t.heap us }
  refine wpAny_bind (wpAny_load got ?_)
  have e : ((#[] : Array Value) ++ us.toArray).toList = us := by simp
  show wpAny _ _ (pure ((#[] : Array Value) ++ us.toArray).toList) R E _
  rw [e]
  exact wpAny_pure hr
theorem sorted_tup {b : Addr} {us : List Value} {ns : List Int} {R : Value → Shared → Prop} {ob : Obj} {c : Nat} (hob : t.heap.get? b = some ob) (hcl : ob.cls = .type "tuple") (hda : ob.data = .seq us.toArray c) (hI : IntsAre us ns) (hfew : us.length < 64)
    (hr : ∀ (out : Array Value) (ms : List Int), IntsAre out.toList ms → ms.Perm ns → ms.Pairwise (· ≤ ·) → R (.ref (t.heap.objs.size + 1)) { t with heap := sortedAll t.heap us out }) : wpAny (model P w) A (call (.builtin "sorted") [.ref b]) R E t := by
  have hle : us.length ≤ sizeLine := small64 hfew
  refine Calls.call_function_entry kind_sorted plain_sorted entry_sorted (args_sorted1 (.ref b)) ?_
  unfold Builtin.«sorted»
  refine wpAny_bind (m := checkCount "sorted" 1 1 _) (wpAny_pure (wpAny_bind (grab_tup hob hcl hda hle (wpAny_bind (wpAny_newList ?_ hle)))))
  have sz : (taken t.heap us).objs.size = t.heap.objs.size + 1 := (Heap.size_update ..).trans (size_push' ..)
  have mine : ((taken t.heap us).push (seqObj "list" us.toArray 0)).get? (t.heap.objs.size + 1) = some (seqObj "list" us.toArray 0) := by
    have z : ((taken t.heap us).push (seqObj "list" us.toArray 0)).get? (taken t.heap us).objs.size = some (seqObj "list" us.toArray 0) := Heap.get?_push_size _ rfl
    rwa [sz] at z
  show wpAny _ _ _ _ _ { t with heap := (taken t.heap us).push (seqObj "list" us.toArray 0) }
  rw [sz]
  exact wpAny_bind (wpAny_holding (wpAny_call_entry slot_list_sort ⟨_, mine, rfl⟩ entry_list_sort (list_sort_tree mine hI hfew fun out ms a1 a2 a3 => ⟨_, rfl, wpAny_pure ⟨_, rfl, hr out ms a1 a2 a3⟩⟩) (args_list_sort _)))
end
def rSortedX (K : PySem.W.Frag) : List V → Hp → VK → Prop := fun vs H Q => ∃ (a : Addr) (ns : List Int), vs = [V.ref a] ∧ (SqL K H a (ns.map V.int) ∨ SqT K H a (ns.map V.int)) ∧ ns.length < 64 ∧ ∀ (ms : List Int) (p : Addr), ms.Perm ns → ms.Pairwise (· ≤ ·) → H p = none → Q (.ref p) (upd H p (.lst (ms.map V.int)))
theorem cr_sortedX {X : Cx} : CallR X (.builtin "sorted") (rSortedX X.K) := by
  intro pins s σ H vs us Q I r ⟨a, ns, ev, hs, h64, q⟩
  subst ev
  rcases hs with hs | hs
  · exact cr_sorted pins s σ H _ us Q I r ⟨a, ns, rfl, hs, h64, q⟩
  · obtain ⟨its, rv, ⟨ob, hob, hcl, c, hda⟩, _⟩ := I.tuple hs
    have hi := rv.ints
    rw [Vals.ref1 r]
    refine sorted_tup hob hcl hda hi (by rw [hi.length]; exact h64) fun out ms h1 h2 h3 => ?_
    obtain ⟨ep, he⟩ := PyProof.Rows.sortedAll_at s.heap its out
    have few : (ms.map V.int).length ≤ sizeLine := by rw [List.length_map, h2.length_eq]; exact small64 h64
    have ok : ObjOk X.prog X.w (upd H (s.heap.objs.size + 1) (.lst (ms.map V.int))) (sortedAll s.heap its out) (s.heap.objs.size + 1) (.lst (ms.map V.int)) := ⟨few, out.toList, ep, vals_of_ints h1, he⟩
    exact ⟨.ref (s.heap.objs.size + 1), _, I.laid (t' := s.toks) (fun _ _ => PyProof.Rows.sortedAll_old) (Nat.le_succ _) ok, rfl, q ms _ h2 h3 (I.hok.fresh (Nat.le_succ _))⟩
end CL
set_option Elab.async false
set_option linter.all false
set_option maxRecDepth 100000
set_option maxHeartbeats 4000000
namespace CL
open PySem PySem.Spec PyProof.Rows L2 GE
/-! ### orders, as the document tells -/
theorem eqvAll_ints : ∀ as bs : List Int, PyData.eqvAll (as.map PyData.int) (bs.map PyData.int) = decide (as = bs)
  | [], [] => by simp [PyData.eqvAll]
  | [], b :: bs => by simp [PyData.eqvAll]
  | a :: as, [] => by simp [PyData.eqvAll]
  | a :: as, b :: bs => by
    have ih := eqvAll_ints as bs
    simp only [List.map_cons, PyData.eqvAll, ih, List.cons.injEq, PyData.eqv]
    by_cases h : a = b
    · simp [h]
    · simp [h]
theorem eqv_ints (as bs : List Int) : PyData.eqv (.list (as.map PyData.int)) (.list (bs.map PyData.int)) = decide (as = bs) := by
  have := eqvAll_ints as bs
  simp [PyData.eqv, this]
def up (n : Nat) : List Int := (List.range n).map fun i : Nat => (i : Int)
theorem up_len (n : Nat) : (up n).length = n := by unfold up; rw [List.length_map, List.length_range]
theorem up_mem {n : Nat} {x : Int} : x ∈ up n ↔ ∃ i < n, x = (i : Int) := by
  unfold up
  rw [List.mem_map]
  exact ⟨fun ⟨i, h, e⟩ => ⟨i, List.mem_range.mp h, e.symm⟩, fun ⟨i, h, e⟩ => ⟨i, List.mem_range.mpr h, e.symm⟩⟩
theorem up_pair : ∀ n, (up n).Pairwise (· ≤ ·)
  | 0 => .nil
  | n + 1 => by
    unfold up
    rw [List.range_succ, List.map_append, List.pairwise_append]
    refine ⟨up_pair n, by simp, fun a ha b hb => ?_⟩
    obtain ⟨i, hi, rfl⟩ := up_mem.mp ha
    have hb' : b = (n : Int) := by simpa using hb
    rw [hb']
    omega
theorem up_nodup (n : Nat) : (up n).Nodup := by
  unfold up
  refine List.pairwise_map.mpr ?_
  exact (List.nodup_range (n := n)).imp fun h z => h (by omega)
/-- what holds all of a list without doubles, and is no longer, is the same in another order -/
theorem perm_of_sub {α : Type} [BEq α] [LawfulBEq α] : ∀ {as bs : List α}, as.Nodup → (∀ x ∈ as, x ∈ bs) → bs.length ≤ as.length → bs.Perm as
  | [], bs, _, _, h => by
    obtain rfl := List.eq_nil_of_length_eq_zero (Nat.le_zero.mp h)
    exact .refl _
  | a :: as, bs, nd, h, hl => by
    have hm := h a List.mem_cons_self
    have p := List.perm_cons_erase hm
    obtain ⟨na, nd'⟩ := List.nodup_cons.mp nd
    have l := p.length_eq
    rw [List.length_cons] at l hl
    refine p.trans ((perm_of_sub nd' (fun x hx => ?_) (by omega)).cons a)
    exact (List.mem_erase_of_ne (fun z => na (by rw [← z]; exact hx))).mpr (h x (List.mem_cons_of_mem _ hx))
def isOrderI (ns : List Int) : Bool := (List.range ns.length).all fun i : Nat => decide ((i : Int) ∈ ns)
def isOrderL (ds : List PyData) : Bool := decide (ds.length ≤ 60) && ds.all isWhole && isOrderI (ds.map worth)
def isOrder (d : PyData) : Bool := match rowsD d with
  | some ds => isOrderL ds
  | none => false
theorem sorted_up {ns ms : List Int} (hp : ms.Perm ns) (hs : ms.Pairwise (· ≤ ·)) : decide (ms = up ns.length) = isOrderI ns := by
  have h : ms = up ns.length ↔ isOrderI ns = true := by
    constructor
    · intro e
      unfold isOrderI
      rw [List.all_eq_true]
      intro i hi
      refine decide_eq_true (hp.mem_iff.mp ?_)
      rw [e]
      exact up_mem.mpr ⟨i, List.mem_range.mp hi, rfl⟩
    · intro e
      unfold isOrderI at e
      rw [List.all_eq_true] at e
      have p : ns.Perm (up ns.length) := perm_of_sub (up_nodup _) (fun x hx => by
        obtain ⟨i, hi, rfl⟩ := up_mem.mp hx
        exact of_decide_eq_true (e i (List.mem_range.mpr hi))) (by rw [up_len]; exact Nat.le_refl _)
      exact List.Perm.eq_of_pairwise (fun a b _ _ h1 h2 => Int.le_antisymm h1 h2) hs (up_pair _) (hp.trans p)
  by_cases z : isOrderI ns = true
  · rw [z]; exact decide_eq_true (h.mpr z)
  · rw [Bool.eq_false_iff.mpr z]; exact decide_eq_false fun y => z (h.mp y)
/-- whole numbers, as values -/
theorem rp_ints {H : Hp} : ∀ {ds : List PyData} {vs : List V}, RpAll H vs ds → ds.all isWhole = true → vs = (ds.map worth).map V.int
  | [], _, .nil, _ => rfl
  | d :: ds, _, .cons h t, e => by
    rw [List.all_cons, Bool.and_eq_true] at e
    cases h with
    | int i => exact congrArg (V.int i :: ·) (rp_ints t e.2)
    | _ => exact absurd e.1 Bool.false_ne_true
theorem range_up (n : Nat) : rgV 0 (n : Int) = (up n).map V.int := by
  unfold rgV up
  have e : ((n : Int) - 0).toNat = n := by omega
  rw [e, List.map_map]
  refine List.map_congr_left fun i _ => ?_
  rw [Int.zero_add]
  rfl
abbrev sIsO : Stmt := topS 17
theorem scIsO : FnScope ["thing"] ["thing"] (defScope sIsO) := ⟨rfl, rfl, rfl, by decide +kernel, rfl, by decide +kernel, by decide +kernel⟩
def spIsO (P1 : Addr) : Sp := fun vs H Q _ => ∃ v d, vs = [v] ∧ Rp H v d ∧ GxR.TabG H P1 ∧ ∀ H', Ex H H' → GxR.TabG H' P1 → Q (.bl (isOrder d)) H'
section
variable {P : Program} {w : World} {K : PySem.W.Frag} {mg : Str → Option Value} {base : Heap}
theorem ok_isO {f c P1 : Addr} {fd : FuncData} (F : FunC K "is_order" "is_order" sIsO f fd c) (T : NmO mg) (TB : GxR.TabB base mg c P1) (CR : Cal P w K mg base 1 "is_row" ["thing"] (spOne isRow)) (CW : Cal P w K mg base 1 "is_whole" ["thing"] (spOne isWhole)) :
    FnOk P w K mg base CX0 4 f fd ["thing"] (spIsO P1) := by
  refine F.ok scIsO (fun vs H Q E ⟨v, d, e, _⟩ => by rw [e]; rfl) (fun A outer s H vs Q E hr h => ?_)
  obtain ⟨v, d, rfl, hR, hT, q⟩ := h
  obtain ⟨tl, hmo⟩ := T.most
  refine ⟨_, pss_cons (ps_if (PW.pt (pw_or (pt_not (pt_val (pe_cal (CR.mono (by decide)) hr (by rfl) (pa_cons (pv 0) pa_nil)))) (pw_or1 (pt_cmpR op_gt (pe_callB call_len_seq (by rfl) T.len PySem.boot_len (pa_cons (pv 0) pa_nil)) (pe_glob (v := .int 60) (by rfl) hmo ⟨_, rfl⟩) (nomark _)))))
      (pss_one (ps_ret pe_bl)) pss_nil)
    (pss_one (ps_ret (pe_and (pe_allG (N := ["person"]) hr (by rfl) T.all TB rfl (by exact ⟨rfl, rfl, by decide +kernel, rfl⟩) (pi_seq (pv 0))
        (fun A s H C code fp pn rY => pg_name (i := 0) nd1 rfl (.inl rfl) (.inr rfl)) (fun A s H C code fp pn rY => pts_nil)
        (fun A s H C code fp pn rY => pe_cal (CW.mono (by decide)) rY (by rfl) (pa_cons (pv 0) pa_nil)))
      (pe_one (pe_cmpR (op_eqD hr.units) (pe_callB cr_sortedX (by rfl) T.sorted (by decide +kernel) (pa_cons (pv 0) pa_nil)) (pe_listRg rfl (by rfl) T.list (prg_1 (by rfl) T.range (pe_callB call_len_seq (by rfl) T.len PySem.boot_len (pa_cons (pv 0) pa_nil)))) (nomark _)))))), ?_⟩
  refine ⟨v, rfl, v, d, rfl, hR, fun H1 s1 => ⟨isRow d, rfl, ?_⟩⟩
  have hT1 := tabG_same s1 hT
  have at_ : ∀ {H2 : Hp} {b : Bool}, Ex H1 H2 → GxR.TabG H2 P1 → isOrder d = b → Q (.bl b) H2 := fun {H2 b} e2 t2 z => by
    have q' := q H2 ((Ex.of s1).trans e2) t2
    rw [z] at q'
    exact q'
  cases hds : rowsD d with
  | none =>
    have e0 : isRow d = false := by unfold isRow; rw [hds]; rfl
    rw [e0]
    exact iteT (iteT (at_ (Ex.refl H1) hT1 (by unfold isOrder; rw [hds])))
  | some ds =>
    have e0 : isRow d = true := by unfold isRow; rw [hds]; rfl
    have val : isOrder d = isOrderL ds := by unfold isOrder; rw [hds]
    rw [e0]
    obtain ⟨a, xs, rfl, hA, hso⟩ := (Rp.ex (Ex.of s1) d v hR).rows hds
    have hst : StSeq H1 a xs := ⟨hso⟩
    have hlen := hA.length
    refine iteF ⟨.ref a, rfl, a, xs, rfl, hst.sq, xs.length, 60, rfl, rfl, _, rfl, ite2 (fun e1 => ?_) (fun e1 => ?_)⟩
    · refine at_ (Ex.refl H1) hT1 ?_
      rw [val]
      unfold isOrderL
      have : ¬ ds.length ≤ 60 := by have := of_decide_eq_true e1; omega
      rw [decide_eq_false this]
      rfl
    · have l60 : ds.length ≤ 60 := by
        rcases Nat.lt_or_ge 60 ds.length with z | z
        · exact absurd (decide_eq_true (by omega)) e1
        · exact z
      refine ⟨.ref a, rfl, a, xs, rfl, hst, fun J hJ => ⟨hT1, fun H2 tb => ⟨_, ⟨xs.length, rfl, Nat.zero_le _, ex_tabbed hT1 tb, tb.1, rfl⟩, turn_by (xs := xs) (fun _ i H => Ex H1 H ∧ GxR.TabG H P1 ∧ (ds.take i).all isWhole = true)
          (fun _ i H ⟨eH, _, _⟩ => hJ H eH) (fun _ i x H hx ⟨eH, tH, aH⟩ => ?_) (fun _ H ⟨eH, tH, aH⟩ => ?_)⟩⟩⟩
      · obtain ⟨dx, hdx, hRx⟩ := hA.get hx
        refine name_yes ?_
        refine ⟨x, rfl, x, dx, rfl, Rp.ex eH dx x hRx, fun H4 s4 => ⟨isWhole dx, rfl, ite2 (fun e4 => ?_) (fun e4 => ?_)⟩⟩
        · exact ⟨eH.trans (Ex.of s4), tabG_same s4 tH, by rw [all_take hdx, aH, e4]; rfl⟩
        · refine ⟨false, rfl, iteF (at_ (eH.trans (Ex.of s4)) (tabG_same s4 tH) ?_)⟩
          rw [val]
          unfold isOrderL
          rw [all_false hdx (Bool.eq_false_iff.mpr e4), Bool.and_false, Bool.false_and]
      · rw [hlen, List.take_length] at aH
        have hv := rp_ints hA aH
        have hst2 : StSeq H a xs := hst.ex eH
        refine ⟨true, rfl, iteT ?_⟩
        have lns : (ds.map worth).length = ds.length := List.length_map ..
        refine ⟨.ref a, rfl, a, ds.map worth, rfl, by rw [← hv]; exact hst2.sq, by omega, fun ms p hpm hpw np => ?_⟩
        have s5 : Same H (upd H p (.lst (ms.map V.int))) := same_upd np
        have e5 : (upd H p (.lst (ms.map V.int))) p = some (.lst (ms.map V.int)) := upd_same
        generalize upd H p (.lst (ms.map V.int)) = H5 at s5 e5
        refine ⟨.ref a, rfl, a, xs, rfl, (hst2.ex (Ex.of s5)).sq, xs.length, rfl, RgOk.of_le (by decide) (by omega) (by decide) (by omega), fun p2 np2 => ?_⟩
        rw [range_up, hlen]
        have s6 : Same H5 (upd H5 p2 (.lst ((up ds.length).map V.int))) := same_upd np2
        refine ⟨_, _, .lst (SqL.of (s6 _ _ e5)) (ints_dp ms), .lst (SqL.of upd_same) (ints_dp (up ds.length)), ints_shaped _, ints_shaped _, ?_⟩
        rw [eqv_ints]
        refine at_ (eH.trans (Ex.of (s5.trans s6))) (tabG_same (s5.trans s6) tH) ?_
        rw [val]
        unfold isOrderL
        rw [decide_eq_true l60, aH, ← sorted_up hpm hpw, lns]
        rfl
end
end CL
set_option Elab.async false
set_option linter.all false
set_option maxRecDepth 100000
set_option maxHeartbeats 4000000
namespace CL
open PySem PySem.Spec PyProof.Rows L2 GE
/-! ### a list of anything, and the empty list -/
def rNeE : R2 := fun x y H Q => ∃ (a b : Addr) (xs : List V), x = .ref a ∧ y = .ref b ∧ H a = some (.lst xs) ∧ H b = some (.lst []) ∧ Q (.bl (!xs.isEmpty)) H
theorem op_neE {X : Cx} (hu : X.A.units < cLine) : OpR X (compareOp .NotEq) rNeE := by
  intro pins s σ H x y v u Q I rx ry ⟨a, b, xs, ex, ey, ha, hb, q⟩
  subst ex ey
  obtain ⟨its, rv, p1, _⟩ := I.list (SqL.of ha)
  obtain ⟨jts, rw', p2, _⟩ := I.list (SqL.of hb)
  cases rx
  cases ry
  have l1 := rv.length
  have l2 := rw'.length
  cases xs with
  | nil =>
    have e : its.toArray.size = jts.toArray.size := by rw [List.size_toArray, List.size_toArray, ← l1, ← l2]
    have e0 : its.toArray.size = 0 := by rw [List.size_toArray, ← l1]; rfl
    have z := SeqAt.RcNeAt.lists (A := X.A) (e := fun _ => true) p1.isList p2.isList e hu (fun j h1 => absurd h1 (by rw [e0]; exact Nat.not_lt_zero j))
    refine z X.prog X.w _ _ ⟨.bl _, H, I, ?_, q⟩
    rw [e0]
    rfl
  | cons x xs =>
    have e : (its.toArray.size != jts.toArray.size) = true := by
      rw [List.size_toArray, List.size_toArray, ← l1, ← l2]
      rfl
    exact SeqAt.RcNeAt.lists_lengths (A := X.A) p1.isList p2.isList e hu X.prog X.w _ _ ⟨.bl _, H, I, rfl, q⟩
theorem isi_blk {X : Cx} {s : Shared} {H : Hp} {scope : Scope} {cenv : Env} {fp : List Addr} : CallR (X.blk s H scope cenv fp) (.builtin "isinstance") (rIsi X.K) := call_isi
theorem notin_blk {X : Cx} {s : Shared} {H : Hp} {scope : Scope} {cenv : Env} {fp : List Addr} : OpR (X.blk s H scope cenv fp) (compareOp .NotIn) (rIn X.K true) := op_notIn_seq
theorem inV_ints (i : Int) : ∀ ns : List Int, inV (.int i) (ns.map V.int) = decide (i ∈ ns)
  | [] => rfl
  | n :: ns => by
    have ih := inV_ints i ns
    unfold inV at ih ⊢
    rw [List.map_cons, List.any_cons, ih]
    show ((n == i) || decide (i ∈ ns)) = decide (i ∈ n :: ns)
    by_cases h : n = i
    · simp [h]
    · have h' : ¬ i = n := fun z => h z.symm
      simp [h, h']
theorem flat_ints : ∀ ns : List Int, (ns.map V.int).all flatV = true
  | [] => rfl
  | _ :: ns => flat_ints ns
theorem all_none {p : PyData → Bool} : ∀ {ds : List PyData}, (ds.filter fun d => !p d).isEmpty = ds.all p
  | [] => rfl
  | d :: ds => by
    have ih := all_none (p := p) (ds := ds)
    rw [List.filter_cons, List.all_cons]
    cases h : p d with
    | true => simpa [h] using ih
    | false => simp [h]
end CL
set_option Elab.async false
set_option linter.all false
set_option maxRecDepth 100000
set_option maxHeartbeats 4000000
namespace CL
open PySem PySem.Spec PyProof.Rows L2 GE
abbrev sPeople : Stmt := topS 18
abbrev sPlaces : Stmt := topS 19
abbrev sBarIt : Stmt := topS 20
abbrev sBars : Stmt := topS 22
abbrev nBars : List Str := ["order", "thing", "places"]
theorem scPeople : FnScope ["order"] ["order"] (defScope sPeople) := ⟨rfl, rfl, rfl, by decide +kernel, rfl, by decide +kernel, by decide +kernel⟩
theorem scPlaces : FnScope ["people", "person"] ["people"] (defScope sPlaces) := ⟨rfl, rfl, rfl, by decide +kernel, rfl, by decide +kernel, by decide +kernel⟩
theorem scBarIt : FnScope ["places", "youngest", "oldest", "between"] ["places", "youngest", "oldest", "between"] (defScope sBarIt) := ⟨rfl, rfl, rfl, by decide +kernel, rfl, by decide +kernel, by decide +kernel⟩
theorem scBars : FnScope nBars ["order", "thing"] (defScope sBars) := ⟨rfl, rfl, rfl, by decide +kernel, rfl, by decide +kernel, by decide +kernel⟩
/-! ### orders that are orders -/
def intsD (ns : List Int) : List PyData := ns.map PyData.int
def OrdV (H : Hp) (v : V) (ns : List Int) : Prop := Rp H v (.list (intsD ns)) ∨ Rp H v (.tuple (intsD ns))
theorem OrdV.ex {H H' : Hp} (e : Ex H H') {v : V} {ns : List Int} (h : OrdV H v ns) : OrdV H' v ns := h.elim (fun z => .inl (Rp.ex e _ _ z)) fun z => .inr (Rp.ex e _ _ z)
theorem ints_whole : ∀ ns : List Int, (intsD ns).all isWhole = true
  | [] => rfl
  | _ :: ns => ints_whole ns
theorem ints_worth : ∀ ns : List Int, (intsD ns).map worth = ns
  | [] => rfl
  | n :: ns => congrArg (n :: ·) (ints_worth ns)
theorem OrdV.data {H : Hp} {v : V} {ns : List Int} (h : OrdV H v ns) : ∃ d, Rp H v d ∧ rowsD d = some (intsD ns) := h.elim (fun z => ⟨_, z, rfl⟩) fun z => ⟨_, z, rfl⟩
theorem ord_yes {d : PyData} {ns : List Int} (e : rowsD d = some (intsD ns)) (h : isOrderI ns = true) (l : ns.length ≤ 60) : isOrder d = true := by
  unfold isOrder
  rw [e]
  show isOrderL (intsD ns) = true
  unfold isOrderL
  rw [ints_whole, ints_worth, h, show (intsD ns).length = ns.length from List.length_map .., decide_eq_true l]
  rfl
theorem rp_ints2 {H : Hp} {vs : List V} {ns : List Int} (h : RpAll H vs (intsD ns)) : vs = ns.map V.int := by
  have z := rp_ints h (ints_whole ns)
  rw [ints_worth] at z
  exact z
/-- the places by people's numbers -/
def plc (ns : List Int) : List Int := (List.range ns.length).map fun i : Nat => ((ns.findIdx (fun y => y == (i : Int)) : Nat) : Int)
theorem plc_len (ns : List Int) : (plc ns).length = ns.length := by unfold plc; rw [List.length_map, List.length_range]
theorem find_at {ns : List Int} (h : isOrderI ns = true) {i : Nat} (hi : i < ns.length) : ∃ hl : ns.findIdx (fun y => y == (i : Int)) < ns.length, ns[ns.findIdx (fun y => y == (i : Int))] = (i : Int) ∧ ∀ m, m < ns.findIdx (fun y => y == (i : Int)) → ∀ z, ns[m]? = some z → (z == (i : Int)) = false := by
  unfold isOrderI at h
  rw [List.all_eq_true] at h
  have hm : (i : Int) ∈ ns := of_decide_eq_true (h i (List.mem_range.mpr hi))
  have hl : ns.findIdx (fun y => y == (i : Int)) < ns.length := List.findIdx_lt_length_of_exists ⟨_, hm, by simp⟩
  refine ⟨hl, by simpa using List.findIdx_getElem (xs := ns) (p := fun y => y == (i : Int)) (w := hl), fun m lm z hz => ?_⟩
  have e := List.not_of_lt_findIdx lm
  obtain ⟨hm2, e2⟩ := List.getElem?_eq_some_iff.mp hz
  rw [e2] at e
  exact e
def barB (ps : List Int) (y o b : Nat) : Bool := (decide ((o : Int) < (b : Int)) && decide ((b : Int) < (y : Int))) && (decide (ps.getD y 0 < ps.getD o 0) && decide (ps.getD o 0 < ps.getD b 0))
def inR (n : Nat) : PyData → Bool
  | .int i => decide (0 ≤ i) && decide (i < (n : Int))
  | _ => false
def barsB (ns : List Int) (t : PyData) : Bool := match rowsD t with
  | some [a, b, c] => (inR ns.length a && inR ns.length b && inR ns.length c) && barB (plc ns) (worth a).toNat (worth b).toNat (worth c).toNat
  | _ => false
def spPeople (P1 : Addr) : Sp := fun vs H Q _ => ∃ v ns, vs = [v] ∧ OrdV H v ns ∧ isOrderI ns = true ∧ ns.length ≤ 60 ∧ GxR.TabG H P1 ∧ ∀ H1 t, Ex H H1 → GxR.TabG H1 P1 → H1 t = none → Q (.ref t) (upd H1 t (.lst (ns.map V.int)))
def spPlaces : Sp := fun vs H Q _ => ∃ (A : Addr) (ns : List Int), vs = [.ref A] ∧ H A = some (.lst (ns.map V.int)) ∧ isOrderI ns = true ∧ ns.length ≤ 60 ∧ ∀ H' t, Same H H' → H t = none → H' t = some (.lst ((plc ns).map V.int)) → Q (.ref t) H'
def spBarIt : Sp := fun vs H Q _ => ∃ (A : Addr) (ps : List Int) (y o b : Nat), vs = [.ref A, .int y, .int o, .int b] ∧ H A = some (.lst (ps.map V.int)) ∧ y < ps.length ∧ o < ps.length ∧ b < ps.length ∧ Q (.bl (barB ps y o b)) H
def spBars (P1 P2 : Addr) : Sp := fun vs H Q _ => ∃ v u ns t, vs = [v, u] ∧ OrdV H v ns ∧ isOrderI ns = true ∧ ns.length ≤ 60 ∧ Rp H u t ∧ GxR.TabG H P1 ∧ GxR.TabG H P2 ∧ ∀ H', Ex H H' → GxR.TabG H' P1 → GxR.TabG H' P2 → Q (.bl (barsB ns t)) H'
theorem index_blk {X : Cx} {s : Shared} {H : Hp} {scope : Scope} {cenv : Env} {fp : List Addr} {o e : Expr} {apos cpos : Pos} {to : TE} {t : TA} (ho : PE (X.blk s H scope cenv fp) o to) (ha : PA (X.blk s H scope cenv fp) [e] t)
    (hbase : attributeBase o "index" (X.blk s H scope cenv fp).env (eval o (X.blk s H scope cenv fp).env) = eval o (X.blk s H scope cenv fp).env := by rfl)
    (hfew : ((backTo cpos (starEach [e] (X.blk s H scope cenv fp).env)).all (fun x => !x.1) && (backToKw cpos (keywordEach [] (X.blk s H scope cenv fp).env)).all (fun x => x.1.isSome)
      && decide ([e].length + ([] : List Keyword).length + (if ([] : List Keyword).isEmpty then 0 else 1) < 30)) = true := by rfl)
    (hline : (apos.endLine == cpos.line) = true := by rfl) (hs : starEach [e] (X.blk s H scope cenv fp).env = (false, eval e (X.blk s H scope cenv fp).env) :: starEach [] (X.blk s H scope cenv fp).env := by rfl) (hplain : (backTo cpos (starEach [] (X.blk s H scope cenv fp).env)).any (·.1) = false := by rfl) :
    PE (X.blk s H scope cenv fp) (.Call (.Attribute o "index" apos) [e] [] cpos) (tBM X.K "list" (rIndex X.K) to t) :=
  pe_bm PySem.F.plainAttrs_list PySem.F.slot_list_index PySem.F.type_list_index mt_index ho ha hbase hfew hline hs hplain
theorem len_gx {X : Cx} {A : Around} {N : List Str} {s : Shared} {H : Hp} {cenv : Env} {fp : List Addr} {pn : List (Addr × Obj)} : CallR (gx X A N s H cenv fp pn) (.builtin "len") (fun xs H Q => ∃ p ys, xs = [.ref p] ∧ (SqL X.K H p ys ∨ SqT X.K H p ys) ∧ Q (.int ys.length) H) := call_len_seq
theorem turn_byV {α : Type} {K : PySem.W.Frag} {ad : Addr} {xs : List V} {J : It} {ζ : L2.St} {g : TG} {tt : TT} {te : TE} {Out : α → V → Hp → (α → Hp → Prop) → Prop} {Fin : α → Hp → Prop} (Pv : α → Nat → Hp → Prop)
    (stands : ∀ a i H, Pv a i H → StandsAs K ad xs J H)
    (step : ∀ a i x H, xs[i]? = some x → Pv a i H → g x ζ H fun σ2 H2 => GV.Keeps ζ σ2 ∧ tt σ2 H2 fun b H3 => if b = true then te σ2 H3 fun y H4 => Out a y H4 (fun a' H' => Pv a' (i + 1) H') else Pv a (i + 1) H3)
    (done : ∀ a H, Pv a xs.length H → Fin a H) : GV.TurnV J ζ g tt te Out Fin (fun a i m H => m = xs.length - i ∧ i ≤ xs.length ∧ Pv a i H) := by
  rintro a i m H ⟨rfl, hi, p⟩
  have s := stands a i H p
  by_cases hlt : i < xs.length
  · refine .inr ⟨s.go (List.getElem?_eq_getElem hlt), fun a' H' => Pv a' (i + 1) H', fun a' H' p' => ⟨xs.length - (i + 1), by omega, rfl, hlt, p'⟩, fun x H' y => ?_⟩
    obtain ⟨rfl, hx⟩ := s.yld y
    exact step a i x _ hx p
  · have e : i = xs.length := by omega
    subst e
    exact .inl ⟨s.stop (Nat.le_refl _), done a H p⟩
theorem nd2 : (["person", "places"] : List Str).Nodup := by decide +kernel
section
variable {P : Program} {w : World} {K : PySem.W.Frag} {mg : Str → Option Value} {base : Heap}
theorem ok_people {f P1 : Addr} {fd : FuncData} (F : Fun K "people_of" "people_of" sPeople f fd) (T : NmO mg) (CI : Cal P w K mg base 4 "is_order" ["thing"] (spIsO P1)) : FnOk P w K mg base CX0 5 f fd ["order"] (spPeople P1) := by
  refine F.ok scPeople (fun vs H Q E ⟨v, ns, e, _⟩ => by rw [e]; rfl) (fun cdv A outer s H vs Q E hr h => ?_)
  obtain ⟨v, ns, rfl, hO, hI, hl, hT, q⟩ := h
  refine ⟨_, pss_cons (ps_if (pt_not (pt_val (pe_cal CI hr (by rfl) (pa_cons (pv 0) pa_nil)))) (pss_one ps_never) pss_nil) (pss_one (ps_ret (pe_callTy call_list_of (by rfl) T.list (by decide +kernel) (pa_cons (pv 0) pa_nil)))), ?_⟩
  obtain ⟨d, hR, hd⟩ := hO.data
  refine ⟨v, rfl, v, d, rfl, hR, hT, fun H1 e1 t1 => ⟨isOrder d, rfl, ?_⟩⟩
  rw [ord_yes hd hI hl]
  obtain ⟨a, xs, rfl, hA, hso⟩ := (Rp.ex e1 d v hR).rows hd
  obtain rfl := rp_ints2 hA
  exact iteF ⟨.ref a, rfl, a, _, rfl, hso.elim (fun z => .inl (SqL.of z)) (fun z => .inr (SqT.of z)), fun t nt => q H1 t e1 t1 nt⟩
theorem ok_places {f : Addr} {fd : FuncData} (F : Fun K "places_of" "places_of" sPlaces f fd) (T : NmO mg) : FnOk P w K mg base CX0 1 f fd ["people"] spPlaces := by
  refine F.ok scPlaces (fun vs H Q E ⟨A, ns, e, _⟩ => by rw [e]; rfl) (fun cdv A' outer s H vs Q E hr h => ?_)
  obtain ⟨A, ns, rfl, eA, hI, hl, q⟩ := h
  have nd := scPlaces.nd
  refine ⟨_, (pss_one (ps_ret (pe_lc (own := [("person", 1)]) (g := (gName 1)) (tt := tYes) rfl nd (pi_range1 (by rfl) T.range (pa_cons (pe_callB call_len_seq (by rfl) T.len PySem.boot_len (pa_cons (pv 0) pa_nil)) pa_nil)) (blkOk_by (own := [("person", 1)]) (N := ["people", "person"]) (sc := defScope sPlaces) (by decide +kernel)) (fun _ _ _ _ _ => (pg_name (i := 1) nd rfl (.inl rfl))) (fun _ _ _ _ _ => pts_nil) (fun _ _ _ _ _ => (index_blk (pv 0) (pa_cons (pv 1) pa_nil)))))), ?_⟩
  refine ⟨.ref A, rfl, A, _, rfl, .inl (SqL.of eA), _, rfl, by rw [List.length_map]; omega, by rw [List.length_map]; omega, fun D nD => ?_⟩
  rw [List.length_map]
  refine lc_range (lo := 0) (n := (ns.length : Int).toNat) (fun i H3 => Same H H3 ∧ ∃ acc, H3 D = some (.lst acc) ∧ acc = ((plc ns).map V.int).take i) ⟨same_upd nD, [], upd_same, rfl⟩ (fun i H3 hi ⟨s3, acc, eD, ha⟩ => ?_) (fun H3 ⟨s3, acc, eD, ha⟩ => ?_)
  · have hi' : i < ns.length := hi
    obtain ⟨hj, ej, no⟩ := find_at hI hi'
    refine ⟨rfl, yesT ?_⟩
    have eA3 := s3 _ _ eA
    refine ⟨.ref A, rfl, .inl ⟨rfl, _, SqL.of eA3⟩, .int (0 + (i : Int)), rfl, A, _, .int (0 + (i : Int)), ns.findIdx (fun y => y == (i : Int)), .int ns[ns.findIdx (fun y => y == (i : Int))], rfl, rfl, SqL.of eA3, rfl, flat_ints ns, by rw [List.getElem?_map, List.getElem?_eq_getElem hj]; rfl, ?_, fun m z lm hz => ?_, acc, eD, ?_, fun b o e => by rw [upd_ne (ne_of_none e nD)]; exact s3 b o e, _, upd_same, ?_⟩
    · rw [ej, Int.zero_add]
      show ((i : Int) == (i : Int)) = true
      simp
    · rw [List.getElem?_map] at hz
      cases z2 : ns[m]? with
      | none => rw [z2] at hz; cases hz
      | some y =>
        rw [z2] at hz
        cases hz
        have := no m lm y z2
        rw [Int.zero_add]
        exact this
    · rw [ha, List.length_take]
      exact small1000 (by omega)
    · rw [ha, List.take_add_one]
      unfold plc
      rw [List.getElem?_map, List.getElem?_map, List.getElem?_range hi']
      rfl
  · have lm : (ns.length : Int).toNat = ns.length := rfl
    rw [lm, List.take_of_length_le (by rw [List.length_map, plc_len]; exact Nat.le_refl _)] at ha
    exact q H3 D s3 nD (by rw [eD, ha])
theorem ok_barIt {f : Addr} {fd : FuncData} (F : Fun K "bar_it" "bar_it" sBarIt f fd) : FnOk P w K mg base CX0 1 f fd ["places", "youngest", "oldest", "between"] spBarIt := by
  refine F.ok scBarIt (fun vs H Q E ⟨A, ps, y, o, b, e, _⟩ => by rw [e]; rfl) (fun cdv A' outer s H vs Q E hr h => ?_)
  obtain ⟨A, ps, y, o, b, rfl, eA, hy, ho, hb, q⟩ := h
  refine ⟨_, (pss_one (ps_ret (pe_and (pe_chain op_lt op_lt (pv 2) (pv 3) (pv 1)) (pe_one (pe_chain op_lt op_lt (pe_ix ix_list (pv 0) (pv 1) (fun _ _ => rfl)) (pe_ix ix_list (pv 0) (pv 2) (fun _ _ => rfl)) (pe_ix ix_list (pv 0) (pv 3) (fun _ _ => rfl))))))), ?_⟩
  have at_ : ∀ {k : Nat}, k < ps.length → (ps.map V.int)[k]? = some (.int (ps.getD k 0)) := fun {k} hk => by rw [List.getElem?_map, List.getElem?_eq_getElem hk, List.getD_eq_getElem?_getD, List.getElem?_eq_getElem hk]; rfl
  have no : ∀ {c : Bool}, barB ps y o b = c → Q (.bl c) H := fun {c} e => by rw [← e]; exact q
  refine ⟨.int o, rfl, .int b, rfl, o, b, rfl, rfl, decide ((o : Int) < b), rfl, ite2 (fun e1 => ?_) (fun e1 => ?_)⟩
  · refine ⟨.int y, rfl, b, y, rfl, rfl, decide ((b : Int) < y), rfl, ite2 (fun e2 => ?_) (fun e2 => ?_)⟩
    · refine ⟨.ref A, rfl, .int y, rfl, A, _, y, _, rfl, rfl, SqL.of eA, atI_nat (at_ hy), .ref A, rfl, .int o, rfl, A, _, o, _, rfl, rfl, SqL.of eA, atI_nat (at_ ho), _, _, rfl, rfl, decide (ps.getD y 0 < ps.getD o 0), rfl, ite2 (fun e3 => ?_) (fun e3 => ?_)⟩
      · refine ⟨.ref A, rfl, .int b, rfl, A, _, b, _, rfl, rfl, SqL.of eA, atI_nat (at_ hb), _, _, rfl, rfl, no ?_⟩
        unfold barB
        rw [e1, e2, e3]
        rfl
      · refine no ?_
        unfold barB
        rw [Bool.eq_false_iff.mpr e3, Bool.false_and, Bool.and_false]
    · refine no ?_
      unfold barB
      rw [Bool.eq_false_iff.mpr e2, Bool.and_false, Bool.false_and]
  · refine ⟨false, rfl, iteF (no ?_)⟩
    unfold barB
    rw [Bool.eq_false_iff.mpr e1, Bool.false_and, Bool.false_and]
end
end CL
set_option Elab.async false
set_option linter.all false
set_option maxRecDepth 100000
set_option maxHeartbeats 4000000
namespace CL
open PySem PySem.Spec PyProof.Rows L2 GE
theorem inR_int {n : Nat} {d : PyData} (h : inR n d = true) : ∃ k : Nat, d = .int (k : Int) ∧ k < n := by
  cases d with
  | int i =>
    have h' : (decide (0 ≤ i) && decide (i < (n : Int))) = true := h
    rw [Bool.and_eq_true] at h'
    have h0 := of_decide_eq_true h'.1
    have h1 := of_decide_eq_true h'.2
    exact ⟨i.toNat, by rw [Int.toNat_of_nonneg h0], by omega⟩
  | _ => exact absurd h Bool.false_ne_true
theorem three_of {α : Type} {xs : List α} (h : xs.length = 3) : ∃ x y z, xs = [x, y, z] := match xs, h with
  | [x, y, z], _ => ⟨x, y, z, rfl⟩
theorem barsB_not {ns : List Int} {d : PyData} {ds : List PyData} (h : rowsD d = some ds) (n : ds.length ≠ 3) : barsB ns d = false := by
  unfold barsB
  rw [h]
  match ds, n with
  | [], _ => rfl
  | [_], _ => rfl
  | [_, _], _ => rfl
  | [_, _, _], n => exact absurd rfl n
  | _ :: _ :: _ :: _ :: _, _ => rfl
section
variable {P : Program} {w : World} {K : PySem.W.Frag} {mg : Str → Option Value} {base : Heap}
theorem ok_bars {f c P1 P2 : Addr} {fd : FuncData} (F : FunC K "bars" "bars" sBars f fd c) (T : NmO mg) (TB : GxR.TabB base mg c P2) (CR : Cal P w K mg base 1 "is_row" ["thing"] (spOne isRow)) (CW : Cal P w K mg base 1 "is_whole" ["thing"] (spOne isWhole))
    (CPe : Cal P w K mg base 5 "people_of" ["order"] (spPeople P1)) (CPl : Cal P w K mg base 1 "places_of" ["people"] spPlaces) (CB : Cal P w K mg base 1 "bar_it" ["places", "youngest", "oldest", "between"] spBarIt) : FnOk P w K mg base CX0 6 f fd ["order", "thing"] (spBars P1 P2) := by
  refine F.ok scBars (fun vs H Q E ⟨v, u, ns, t, e, _⟩ => by rw [e]; rfl) (fun A outer s H vs Q E hr h => ?_)
  obtain ⟨v, u, ns, t, rfl, hO, hI, hl, hR, hT1, hT2, q⟩ := h
  have nd := scBars.nd
  refine ⟨_, pss_cons (ps_set (i := 2) nd rfl (.inr rfl) (pe_cal (CPl.mono (by decide)) hr (by rfl) (pa_cons (pe_cal CPe hr (by rfl) (pa_cons (pv 0) pa_nil)) pa_nil)))
    (pss_cons (ps_if (PW.pt (pw_or (pt_not (pt_val (pe_cal (CR.mono (by decide)) hr (by rfl) (pa_cons (pv 1) pa_nil)))) (pw_or1 (pt_cmpR op_ne (pe_callB call_len_seq (by rfl) T.len PySem.boot_len (pa_cons (pv 1) pa_nil)) pe_int (nomark _))))) (pss_one (ps_ret pe_bl)) pss_nil)
    (pss_cons (ps_if (pt_not (pt_val (GV.pe_allV (caps := [none, some 2]) (N := ["person", "places"]) hr (by rfl) T.all TB rfl (by exact ⟨rfl, rfl, by decide +kernel, rfl, by
        intro y hy e
        simp only [List.mem_cons, List.not_mem_nil, or_false] at hy
        rcases hy with rfl | rfl | rfl | rfl | rfl <;> first
          | exact absurd e (by decide)
          | exact ⟨_, rfl⟩⟩) (by exact ⟨rfl, fun i k h => match i, h with
          | 0, h => by cases h
          | 1, h => by cases h; exact ⟨"places", _, rfl, rfl, rfl, .inl rfl, rfl, rfl⟩
          | n + 2, h => by cases h⟩) (pi_seq (pv 1))
      (fun A s H C code fp pn rY => pg_name (i := 0) nd2 rfl (.inl rfl) (.inr rfl)) (fun A s H C code fp pn rY => pts_nil)
      (fun A s H C code fp pn rY => pe_and (pe_cal (CW.mono (by decide)) rY (by rfl) (pa_cons (pv 0) pa_nil)) (pe_one (pe_chain op_le op_lt pe_int (pv 0) (pe_callB len_gx (by rfl) T.len PySem.boot_len (pa_cons (pv 1) pa_nil)))))))) (pss_one (ps_ret pe_bl)) pss_nil)
    (pss_one (ps_ret (pe_cal (CB.mono (by decide)) hr (by rfl) (pa_cons (pv 2) (pa_cons (pe_ix ix_seq (pv 1) pe_int (fun _ _ => rfl)) (pa_cons (pe_ix ix_seq (pv 1) pe_int (fun _ _ => rfl)) (pa_cons (pe_ix ix_seq (pv 1) pe_int (fun _ _ => rfl)) pa_nil))))))))), ?_⟩
  refine ⟨v, rfl, v, ns, rfl, hO, hI, hl, hT1, fun H1 p e1 t1 np => ?_⟩
  have s1 : Same H1 (upd H1 p (.lst (ns.map V.int))) := same_upd np
  have ep : (upd H1 p (.lst (ns.map V.int))) p = some (.lst (ns.map V.int)) := upd_same
  generalize upd H1 p (.lst (ns.map V.int)) = H2 at s1 ep
  refine ⟨p, ns, rfl, ep, hI, hl, fun H3 D s3 nD eD => ?_⟩
  have e13 := Ex.of (s1.trans s3)
  have e3 := e1.trans e13
  have tb1 := tabG_same (s1.trans s3) t1
  have tb2 := tabG_ex hT2 e3
  have at_ : ∀ {H5 : Hp} {b : Bool}, Ex H H5 → GxR.TabG H5 P1 → GxR.TabG H5 P2 → barsB ns t = b → Q (.bl b) H5 := fun {H5 b} e t1 t2 z => by
    have q' := q H5 e t1 t2
    rw [z] at q'
    exact q'
  have hR3 := Rp.ex e3 _ _ hR
  refine ⟨u, rfl, u, t, rfl, hR3, fun H4 s4 => ⟨isRow t, rfl, ?_⟩⟩
  have e4 := e3.trans (Ex.of s4)
  have tc1 := tabG_same s4 tb1
  have tc2 := tabG_same s4 tb2
  have eD4 := s4 _ _ eD
  cases hds : rowsD t with
  | none =>
    have e0 : isRow t = false := by unfold isRow; rw [hds]; rfl
    rw [e0]
    exact iteT (iteT (at_ e4 tc1 tc2 (by unfold barsB; rw [hds])))
  | some ds =>
    have e0 : isRow t = true := by unfold isRow; rw [hds]; rfl
    rw [e0]
    obtain ⟨b, xs, rfl, hA, hso⟩ := (Rp.sm s4 hR3).rows hds
    have hst : StSeq H4 b xs := ⟨hso⟩
    have hlen := hA.length
    refine iteF ⟨.ref b, rfl, b, xs, rfl, hst.sq, rfl, _, rfl, ite2 (fun e5 => ?_) (fun e5 => ?_)⟩
    · refine at_ e4 tc1 tc2 (barsB_not hds fun z => ?_)
      rw [hlen, z] at e5
      simp at e5
    · have l3 : ds.length = 3 := by
        rw [hlen] at e5
        have : (ds.length : Int) = 3 := by simpa using e5
        omega
      refine ⟨.ref b, rfl, b, xs, rfl, hst, fun J hJ => ⟨tc2, fun H5 tb => ⟨_, ⟨xs.length, rfl, Nat.zero_le _, ex_tabbed tc2 tb, tb.1, rfl⟩, turn_byV (xs := xs) (fun _ i H => Ex H4 H ∧ GxR.TabG H P2 ∧ (ds.take i).all (inR ns.length) = true)
          (fun _ i H ⟨eH, _, _⟩ => hJ H eH) (fun _ i x H hx ⟨eH, tH, aH⟩ => ?_) (fun _ H ⟨eH, tH, aH⟩ => ?_)⟩⟩⟩
      · obtain ⟨dx, hdx, hRx⟩ := hA.get hx
        have lD : ((plc ns).map V.int).length = ns.length := by rw [List.length_map, plc_len]
        have bad : ∀ {G : Hp}, Ex H4 G → GxR.TabG G P2 → inR ns.length dx = false → Q (.bl false) G := fun {G} eG tG z => by
          refine at_ (e4.trans eG) (tabG_ex tc1 eG) tG ?_
          unfold barsB
          rw [hds]
          obtain ⟨d0, d1, d2, rfl⟩ := three_of l3
          have z3 := all_false hdx z
          simp only [List.all_cons, List.all_nil, Bool.and_true] at z3
          show (inR ns.length d0 && inR ns.length d1 && inR ns.length d2 && _) = false
          rw [Bool.and_assoc (inR ns.length d0) (inR ns.length d1) (inR ns.length d2), z3, Bool.false_and]
        refine ⟨fun j v hj => ?_, ?_⟩
        · cases j with
          | zero => cases hj
          | succ j => exact hj
        refine yesT ?_
        refine ⟨x, rfl, x, dx, rfl, Rp.ex eH dx x hRx, fun H6 s6 => ⟨isWhole dx, rfl, ite2 (fun e6 => ?_) (fun e6 => ?_)⟩⟩
        · have eD6 := s6 _ _ (eH.lst eD4)
          cases dx with
          | int k =>
            cases hRx
            refine ⟨.int k, rfl, 0, k, rfl, rfl, decide (0 ≤ k), rfl, ite2 (fun e7 => ?_) (fun e7 => ?_)⟩
            · refine ⟨.ref D, rfl, D, _, rfl, .inl (SqL.of eD6), k, _, rfl, rfl, decide (k < (((plc ns).map V.int).length : Int)), rfl, ite2 (fun e8 => ?_) (fun e8 => ?_)⟩
              · refine ⟨eH.trans (Ex.of s6), tabG_same s6 tH, ?_⟩
                rw [all_take hdx, aH]
                show (true && (decide (0 ≤ k) && decide (k < (ns.length : Int)))) = true
                rw [lD] at e8
                rw [e7, e8]
                rfl
              · refine ⟨false, rfl, iteT (bad (eH.trans (Ex.of s6)) (tabG_same s6 tH) ?_)⟩
                show (decide (0 ≤ k) && decide (k < (ns.length : Int))) = false
                rw [lD] at e8
                rw [Bool.eq_false_iff.mpr e8, Bool.and_false]
            · refine ⟨false, rfl, iteF ⟨false, rfl, iteT (bad (eH.trans (Ex.of s6)) (tabG_same s6 tH) ?_)⟩⟩
              show (decide (0 ≤ k) && decide (k < (ns.length : Int))) = false
              rw [Bool.eq_false_iff.mpr e7, Bool.false_and]
          | _ => exact absurd e6 Bool.false_ne_true
        · refine ⟨false, rfl, iteF ⟨false, rfl, iteT (bad (eH.trans (Ex.of s6)) (tabG_same s6 tH) ?_)⟩⟩
          cases dx with
          | int k => exact absurd rfl e6
          | _ => rfl
      · rw [hlen, List.take_length] at aH
        obtain ⟨d0, d1, d2, rfl⟩ := three_of l3
        simp only [List.all_cons, List.all_nil, Bool.and_true, Bool.and_eq_true] at aH
        obtain ⟨k0, rfl, h0⟩ := inR_int aH.1
        obtain ⟨k1, rfl, h1⟩ := inR_int aH.2.1
        obtain ⟨k2, rfl, h2⟩ := inR_int aH.2.2
        obtain rfl : xs = [.int (k0 : Int), .int (k1 : Int), .int (k2 : Int)] := by
          cases hA with
          | cons a1 r1 =>
            cases r1 with
            | cons a2 r2 =>
              cases r2 with
              | cons a3 r3 =>
                cases r3
                cases a1
                cases a2
                cases a3
                rfl
        have hst5 := hst.ex eH
        have eD5 := eH.lst eD4
        refine ⟨true, rfl, iteF ⟨.ref D, rfl, .ref b, rfl, rix_of (i := 0) hst5 rfl ⟨.ref b, rfl, rix_of (i := 1) hst5 rfl ⟨.ref b, rfl, rix_of (i := 2) hst5 rfl ⟨D, plc ns, k0, k1, k2, rfl, eD5, by rw [plc_len]; exact h0, by rw [plc_len]; exact h1, by rw [plc_len]; exact h2, ?_⟩⟩⟩⟩⟩
        refine at_ (e4.trans eH) (tabG_ex tc1 eH) tH ?_
        unfold barsB
        rw [hds]
        show (inR ns.length (.int k0) && inR ns.length (.int k1) && inR ns.length (.int k2) && barB (plc ns) k0 k1 k2) = barB (plc ns) k0 k1 k2
        rw [aH.1, aH.2.1, aH.2.2]
        rfl
end
end CL
set_option Elab.async false
set_option linter.all false
set_option maxRecDepth 100000
set_option maxHeartbeats 4000000
namespace CL
open PySem PySem.Spec PyProof.Rows L2 GE
abbrev sBarring : Stmt := topS 21
abbrev nBarring : List Str := ["order", "places", "youngest", "oldest", "between"]
theorem scBarring : FnScope nBarring ["order"] (defScope sBarring) := ⟨rfl, rfl, rfl, by decide +kernel, rfl, by decide +kernel, by decide +kernel⟩
/-- the least three that bar, as three numbers -/
abbrev T3 := Nat × Nat × Nat
def Fst (ps : List Int) (n : Nat) : Option T3 → Prop
  | none => ∀ y o b, y < n → o < y → o < b → b < y → barB ps y o b = false
  | some (y, o, b) => (y < n ∧ o < y ∧ o < b ∧ b < y) ∧ barB ps y o b = true ∧ (∀ y' o' b', y' < y → o' < y' → o' < b' → b' < y' → barB ps y' o' b' = false) ∧ (∀ o' b', o' < o → o' < b' → b' < y → barB ps y o' b' = false) ∧ ∀ b', o < b' → b' < b → barB ps y o b' = false
theorem ff {b : Bool} {p : Prop} (h : b = false) (h' : b = true) : p := by rw [h] at h'; cases h'
theorem Fst.uniq {ps : List Int} {n : Nat} : ∀ {t t' : Option T3}, Fst ps n t → Fst ps n t' → t = t'
  | none, none, _, _ => rfl
  | none, some (y, o, b), h, h' => ff (h y o b h'.1.1 h'.1.2.1 h'.1.2.2.1 h'.1.2.2.2) h'.2.1
  | some (y, o, b), none, h', h => ff (h y o b h'.1.1 h'.1.2.1 h'.1.2.2.1 h'.1.2.2.2) h'.2.1
  | some (y, o, b), some (y', o', b'), ⟨⟨a1, a2, a3, a4⟩, a5, a6, a7, a8⟩, ⟨⟨c1, c2, c3, c4⟩, c5, c6, c7, c8⟩ => by
    obtain rfl : y = y' := by
      rcases Nat.lt_trichotomy y y' with h | h | h
      · exact ff (c6 y o b h a2 a3 a4) a5
      · exact h
      · exact ff (a6 y' o' b' h c2 c3 c4) c5
    obtain rfl : o = o' := by
      rcases Nat.lt_trichotomy o o' with h | h | h
      · exact ff (c7 o b h a3 a4) a5
      · exact h
      · exact ff (a7 o' b' h c3 c4) c5
    obtain rfl : b = b' := by
      rcases Nat.lt_trichotomy b b' with h | h | h
      · exact ff (c8 b a3 h) a5
      · exact h
      · exact ff (a8 b' c3 h) c5
    rfl
def tD : Option T3 → PyData
  | none => .none
  | some (y, o, b) => .tuple [.int (y : Int), .int (o : Int), .int (b : Int)]
def spBarring (P1 : Addr) : Sp := fun vs H Q _ => ∃ v ns, vs = [v] ∧ OrdV H v ns ∧ isOrderI ns = true ∧ ns.length ≤ 60 ∧ GxR.TabG H P1 ∧ ∀ t v' H', Fst (plc ns) ns.length t → Ex H H' → GxR.TabG H' P1 → Rp H' v' (tD t) → Q v' H'
section
variable {P : Program} {w : World} {K : PySem.W.Frag} {mg : Str → Option Value} {base : Heap}
theorem ok_barring {f P1 : Addr} {fd : FuncData} (F : Fun K "barring" "barring" sBarring f fd) (T : NmO mg)
    (CPe : Cal P w K mg base 5 "people_of" ["order"] (spPeople P1)) (CPl : Cal P w K mg base 1 "places_of" ["people"] spPlaces) (CB : Cal P w K mg base 1 "bar_it" ["places", "youngest", "oldest", "between"] spBarIt) : FnOk P w K mg base CX0 6 f fd ["order"] (spBarring P1) := by
  refine F.ok scBarring (fun vs H Q E ⟨v, ns, e, _⟩ => by rw [e]; rfl) (fun cdv A outer s H vs Q E hr h => ?_)
  obtain ⟨v, ns, rfl, hO, hI, hl, hT1, q⟩ := h
  have nd := scBarring.nd
  refine ⟨_, (pss_cons (ps_set (i := 1) nd rfl (.inl rfl) (pe_cal (CPl.mono (by decide)) hr (by rfl) (pa_cons (pe_cal CPe hr (by rfl) (pa_cons (pv 0) pa_nil)) pa_nil)))
      (pss_cons (ps_for PassesOwn.never rfl (pi_range1 (by rfl) T.range (pa_cons (pe_callB call_len_seq (by rfl) T.len PySem.boot_len (pa_cons (pv 1) pa_nil)) pa_nil)) (pg_name (i := 2) nd rfl (.inl rfl)) (pss_one (ps_for PassesOwn.never rfl (pi_range1 (by rfl) T.range (pa_cons (pv 2) pa_nil)) (pg_name (i := 3) nd rfl (.inl rfl)) (pss_one (ps_for PassesOwn.never rfl (pi_range2 (by rfl) T.range (pa_cons (pe_op op_add (pv 3) pe_int) (pa_cons (pv 2) pa_nil))) (pg_name (i := 4) nd rfl (.inl rfl)) (pss_one (ps_if (pt_val (pe_cal (CB.mono (by decide)) hr (by rfl) (pa_cons (pv 1) (pa_cons (pv 2) (pa_cons (pv 3) (pa_cons (pv 4) pa_nil)))))) (pss_one (ps_ret (pe_tup (pa_cons (pv 2) (pa_cons (pv 3) (pa_cons (pv 4) pa_nil)))))) pss_nil)))))))
      (pss_one (ps_ret pe_non)))), ?_⟩
  refine ⟨v, rfl, v, ns, rfl, hO, hI, hl, hT1, fun H1 p e1 t1 np => ?_⟩
  have s1 : Same H1 (upd H1 p (.lst (ns.map V.int))) := same_upd np
  have ep : (upd H1 p (.lst (ns.map V.int))) p = some (.lst (ns.map V.int)) := upd_same
  generalize upd H1 p (.lst (ns.map V.int)) = H2 at s1 ep
  refine ⟨p, ns, rfl, ep, hI, hl, fun H3 D s3 nD eD => ?_⟩
  have e3 := e1.trans (Ex.of (s1.trans s3))
  have t3 := tabG_same (s1.trans s3) t1
  have lp := plc_len ns
  have lm : ((plc ns).map V.int).length = ns.length := by rw [List.length_map, lp]
  generalize hps : plc ns = ps at *
  show tSeq _ _ _ [some v, some (.ref D), none, none, none] H3
  refine ⟨.ref D, rfl, D, _, rfl, .inl (SqL.of eD), (ns.length : Int), by rw [lm], by omega, by omega, ?_⟩
  have lz : ((ns.length : Int)).toNat = ns.length := rfl
  refine for_range (lo := 0) (n := ((ns.length : Int)).toNat) (fun i σ H4 => H4 = H3 ∧ (∃ y2 y3 y4, σ = [some v, some (.ref D), y2, y3, y4]) ∧ ∀ y o b, y < i → o < y → o < b → b < y → barB ps y o b = false)
    ⟨rfl, ⟨_, _, _, rfl⟩, fun y o b h => absurd h (Nat.not_lt_zero _)⟩ (fun i σ H4 hi ⟨eH, ⟨y2, y3, y4, eσ⟩, hy⟩ => ?_) (fun σ H4 ⟨eH, ⟨y2, y3, y4, eσ⟩, hy⟩ => ?_)
  · subst eH eσ
    have hi : i < ns.length := hi
    rw [Int.zero_add]
    show tFor _ _ _ _ [some v, some (.ref D), some (.int (i : Int)), y3, y4] H4
    refine ⟨.int (i : Int), rfl, (i : Int), rfl, by omega, by omega, ?_⟩
    refine for_range (lo := 0) (n := ((i : Int)).toNat) (fun j σ H5 => H5 = H4 ∧ (∃ y3 y4, σ = [some v, some (.ref D), some (.int (i : Int)), y3, y4]) ∧ ∀ o b, o < j → o < b → b < i → barB ps i o b = false)
      ⟨rfl, ⟨_, _, rfl⟩, fun o b h => absurd h (Nat.not_lt_zero _)⟩ (fun j σ H5 hj ⟨eH, ⟨y3, y4, eσ⟩, ho⟩ => ?_) (fun σ H5 ⟨eH, ⟨y3, y4, eσ⟩, ho⟩ => ?_)
    · subst eH eσ
      have hj : j < i := hj
      rw [Int.zero_add]
      show tFor _ _ _ _ [some v, some (.ref D), some (.int (i : Int)), some (.int (j : Int)), y4] H5
      refine ⟨.int (j : Int), rfl, (j : Int), 1, rfl, rfl, .int (i : Int), rfl, (j : Int) + 1, (i : Int), rfl, ⟨by omega, by omega, by omega, by omega⟩, ?_⟩
      refine for_range (lo := (j : Int) + 1) (n := ((i : Int) - ((j : Int) + 1)).toNat) (fun k σ H6 => H6 = H5 ∧ (∃ y4, σ = [some v, some (.ref D), some (.int (i : Int)), some (.int (j : Int)), y4]) ∧ ∀ b, j < b → b < j + 1 + k → barB ps i j b = false)
        ⟨rfl, ⟨_, rfl⟩, fun b h1 h2 => by omega⟩ (fun k σ H6 hk ⟨eH, ⟨y4, eσ⟩, hb⟩ => ?_) (fun σ H6 ⟨eH, ⟨y4, eσ⟩, hb⟩ => ?_)
      · subst eH eσ
        have hk : j + 1 + k < i := by omega
        rw [show (j : Int) + 1 + (k : Int) = ((j + 1 + k : Nat) : Int) by omega]
        show tIfS _ _ _ _ [some v, some (.ref D), some (.int (i : Int)), some (.int (j : Int)), some (.int ((j + 1 + k : Nat) : Int))] H6
        refine ⟨.ref D, rfl, .int (i : Int), rfl, .int (j : Int), rfl, .int ((j + 1 + k : Nat) : Int), rfl, D, ps, i, j, j + 1 + k, rfl, eD, by omega, by omega, by omega, barB ps i j (j + 1 + k), rfl, ite2 (fun z => ?_) (fun z => ?_)⟩
        · refine ⟨.int (i : Int), rfl, .int (j : Int), rfl, .int ((j + 1 + k : Nat) : Int), rfl, small_le (by show 3 ≤ 1000; decide), fun p2 np2 => ?_⟩
          exact q (some (i, j, j + 1 + k)) (.ref p2) _ ⟨⟨hi, hj, by omega, hk⟩, z, hy, ho, fun b' h1 h2 => hb b' h1 h2⟩ (e3.trans (Ex.new np2)) (tabG_same (same_upd np2) t3) (.tup upd_same (.cons (.int _) (.cons (.int _) (.cons (.int _) .nil))))
        · exact ⟨rfl, ⟨_, rfl⟩, fun b h1 h2 => by
            by_cases h3 : b = j + 1 + k
            · rw [h3]; exact Bool.eq_false_iff.mpr z
            · exact hb b h1 (by omega)⟩
      · subst eH eσ
        exact ⟨rfl, ⟨_, _, rfl⟩, fun o b h1 h2 h3 => by
          by_cases h4 : o = j
          · rw [h4] at h2 ⊢; exact hb b h2 (by omega)
          · exact ho o b (by omega) h2 h3⟩
    · subst eH eσ
      have : ((i : Int)).toNat = i := rfl
      exact ⟨rfl, ⟨_, _, _, rfl⟩, fun y o b h1 h2 h3 h4 => by
        by_cases h5 : y = i
        · rw [h5] at h2 h4 ⊢; exact ho o b (by omega) h3 h4
        · exact hy y o b (by omega) h2 h3 h4⟩
  · subst eH eσ
    exact q none .non H4 hy e3 t3 .non
end
end CL
set_option Elab.async false
set_option linter.all false
set_option maxRecDepth 100000
set_option maxHeartbeats 4000000
namespace CL
open PySem PySem.Spec PyProof.Rows L2 GE
theorem seq_mk {A B : TS} {D : Ends} {σ : L2.St} {H : Hp} (h : ∀ nx : L2.St → Hp → Prop, (∀ σ' H', B D σ' H' → nx σ' H') → A { D with nx := nx } σ H) : tSeq A B D σ H := h (B D) fun _ _ z => z
theorem dget_blk {X : Cx} {s : Shared} {H : Hp} {scope : Scope} {cenv : Env} {fp : List Addr} {o i : Expr} {td ty : TE} {pos : Pos} (hu : X.A.units + 1 < cLine) (ho : PE (X.blk s H scope cenv fp) o td) (hi : PE (X.blk s H scope cenv fp) i ty) (hs : NoSl i) : PE (X.blk s H scope cenv fp) (.Subscript o i pos) (tDGet td ty) := pe_dget hu ho hi hs
theorem ord_perm {ns : List Int} (h : isOrderI ns = true) : ns.Perm (up ns.length) := by
  unfold isOrderI at h
  rw [List.all_eq_true] at h
  exact perm_of_sub (up_nodup _) (fun x hx => by
    obtain ⟨i, hi, rfl⟩ := up_mem.mp hx
    exact of_decide_eq_true (h i (List.mem_range.mpr hi))) (by rw [up_len]; exact Nat.le_refl _)
theorem plc_at {ns : List Int} {i : Nat} (hi : i < ns.length) : (plc ns).getD i 0 = ((ns.findIdx (fun y => y == (i : Int)) : Nat) : Int) := by
  unfold plc
  rw [List.getD_eq_getElem?_getD, List.getElem?_map, List.getElem?_range hi]
  rfl
theorem ord_nodup {ns : List Int} (h : isOrderI ns = true) : ns.Nodup := (ord_perm h).nodup_iff.mpr (up_nodup _)
theorem barB_in {ps : List Int} {y o b : Nat} (h1 : o < b) (h2 : b < y) : barB ps y o b = (decide (ps.getD y 0 < ps.getD o 0) && decide (ps.getD o 0 < ps.getD b 0)) := by
  unfold barB
  rw [decide_eq_true (by omega : (o : Int) < (b : Int)), decide_eq_true (by omega : (b : Int) < (y : Int))]
  rfl
/-- whether any three bar -/
def anyBar (ps : List Int) (n : Nat) : Bool := (List.range n).any fun y => (List.range y).any fun o => (List.range y).any fun b => decide (o < b) && barB ps y o b
theorem anyBar_yes {ps : List Int} {n y o b : Nat} (h1 : y < n) (h2 : o < y) (h3 : o < b) (h4 : b < y) (h : barB ps y o b = true) : anyBar ps n = true := by
  unfold anyBar
  refine List.any_eq_true.mpr ⟨y, List.mem_range.mpr h1, List.any_eq_true.mpr ⟨o, List.mem_range.mpr h2, List.any_eq_true.mpr ⟨b, List.mem_range.mpr h4, ?_⟩⟩⟩
  rw [decide_eq_true h3, h]
  rfl
theorem anyBar_no {ps : List Int} {n : Nat} (h : ∀ y o b, y < n → o < y → o < b → b < y → barB ps y o b = false) : anyBar ps n = false := by
  cases e : anyBar ps n with
  | false => rfl
  | true =>
    unfold anyBar at e
    obtain ⟨y, hy, e⟩ := List.any_eq_true.mp e
    obtain ⟨o, ho, e⟩ := List.any_eq_true.mp e
    obtain ⟨b, hb, e⟩ := List.any_eq_true.mp e
    rw [Bool.and_eq_true] at e
    exact ff (h y o b (List.mem_range.mp hy) (List.mem_range.mp ho) (of_decide_eq_true e.1) (List.mem_range.mp hb)) e.2
theorem Fst.any {ps : List Int} {n : Nat} : ∀ {t : Option T3}, Fst ps n t → t.isSome = anyBar ps n
  | none, h => (anyBar_no h).symm
  | some (y, o, b), ⟨⟨h1, h2, h3, h4⟩, h5, _⟩ => (anyBar_yes h1 h2 h3 h4 h5).symm
end CL
set_option Elab.async false
set_option linter.all false
set_option maxRecDepth 100000
set_option maxHeartbeats 4000000
namespace CL
open PySem PySem.Spec PyProof.Rows L2 GE
abbrev sLeast : Stmt := topS 23
abbrev nLeast : List Str := ["order", "people", "places", "person", "later"]
theorem scLeast : FnScope nLeast ["order"] (defScope sLeast) := ⟨rfl, rfl, rfl, by decide +kernel, rfl, by decide +kernel, by decide +kernel⟩
theorem cutTo_blk {X : Cx} {s : Shared} {H : Hp} {scope : Scope} {cenv : Env} {fp : List Addr} {e h : Expr} {te th : TE} {pos p2 : Pos} (he : PE (X.blk s H scope cenv fp) e te) (hh : PE (X.blk s H scope cenv fp) h th) : PE (X.blk s H scope cenv fp) (.Subscript e (.Slice none (some h) none p2) pos) (tSl (rSlL X.K) te tNoPart (tPart th)) := pe_slice sl_list he po_none (po_some hh)
theorem piList_blk {X : Cx} {s : Shared} {H : Hp} {scope : Scope} {cenv : Env} {fp : List Addr} {tg l : Expr} {tl : TE} (hl : PE (X.blk s H scope cenv fp) l tl) : PI (X.blk s H scope cenv fp) tg l (iList X.K tl) := pi_list hl
theorem ixAt_blk {X : Cx} {s : Shared} {H : Hp} {scope : Scope} {cenv : Env} {fp : List Addr} {a b : Expr} {ta tb : TE} {pos : Pos} (ha : PE (X.blk s H scope cenv fp) a ta) (hb : PE (X.blk s H scope cenv fp) b tb) (hs : PlainIx b) : PE (X.blk s H scope cenv fp) (.Subscript a b pos) (tOp (rIxL X.K) ta tb) := pe_ix ix_list ha hb hs
/-- how many later ones stand ahead of somebody -/
def cntF (ns : List Int) (k i : Nat) : Nat := ((ns.take k).filter fun z => decide ((i : Int) < z)).length
def leastF (ns : List Int) : List Int := (List.range ns.length).map fun i : Nat => (cntF ns (ns.findIdx (fun y => y == (i : Int))) i : Int)
theorem leastF_len (ns : List Int) : (leastF ns).length = ns.length := by unfold leastF; rw [List.length_map, List.length_range]
theorem leastF_in {ns : List Int} {x : Int} (h : x ∈ leastF ns) : 0 ≤ x ∧ x ≤ (ns.length : Int) := by
  unfold leastF at h
  obtain ⟨i, _, rfl⟩ := List.mem_map.mp h
  have : cntF ns (ns.findIdx (fun y => y == (i : Int))) i ≤ ns.length := by
    unfold cntF
    refine Nat.le_trans (List.length_filter_le _ _) ?_
    rw [List.length_take]
    omega
  omega
/-- least patiences: none where three bar, else these numbers, one for each -/
def LeastR (H0 H' : Hp) (v' : V) (ns : List Int) (t : Option T3) : Prop := (t ≠ none → v' = .non) ∧ (t = none → ∃ (p : Addr), v' = .ref p ∧ H0 p = none ∧ H' p = some (.lst ((leastF ns).map V.int)))
def spLeast (P1 : Addr) : Sp := fun vs H Q _ => ∃ v ns, vs = [v] ∧ OrdV H v ns ∧ isOrderI ns = true ∧ ns.length ≤ 60 ∧ GxR.TabG H P1 ∧ ∀ t v' H', Fst (plc ns) ns.length t → Ex H H' → GxR.TabG H' P1 → LeastR H H' v' ns t → Q v' H'
theorem plc_lt {ns : List Int} (h : isOrderI ns = true) {x : Int} (hx : x ∈ plc ns) : ∃ k : Nat, x = (k : Int) ∧ k < ns.length := by
  unfold plc at hx
  obtain ⟨i, hi, rfl⟩ := List.mem_map.mp hx
  exact ⟨_, rfl, (find_at h (List.mem_range.mp hi)).1⟩
section
variable {P : Program} {w : World} {K : PySem.W.Frag} {mg : Str → Option Value} {base : Heap}
theorem ok_least {f P1 : Addr} {fd : FuncData} (F : Fun K "least_patiences" "least_patiences" sLeast f fd) (T : NmO mg)
    (CPe : Cal P w K mg base 5 "people_of" ["order"] (spPeople P1)) (CPl : Cal P w K mg base 1 "places_of" ["people"] spPlaces) (CBa : Cal P w K mg base 6 "barring" ["order"] (spBarring P1)) : FnOk P w K mg base CX0 7 f fd ["order"] (spLeast P1) := by
  refine F.ok scLeast (fun vs H Q E ⟨v, ns, e, _⟩ => by rw [e]; rfl) (fun cdv A outer s H vs Q E hr h => ?_)
  obtain ⟨v, ns, rfl, hO, hI, hl, hT1, q⟩ := h
  have nd := scLeast.nd
  refine ⟨_, (pss_cons (ps_set (i := 1) nd rfl (.inr rfl) (pe_cal (CPe.mono (by decide)) hr (by rfl) (pa_cons (pv 0) pa_nil)))
      (pss_cons (ps_if (pt_cmp (pc_notN (pe_cal CBa hr (by rfl) (pa_cons (pv 1) pa_nil)))) (pss_one (ps_ret pe_non)) pss_nil)
      (pss_cons (ps_set (i := 2) nd rfl (.inr rfl) (pe_cal (CPl.mono (by decide)) hr (by rfl) (pa_cons (pv 1) pa_nil)))
      (pss_one (ps_ret (pe_lc (own := [("person", 3)]) (g := (gName 3)) (tt := tYes) rfl nd (pi_range1 (by rfl) T.range (pa_cons (pe_callB call_len_seq (by rfl) T.len PySem.boot_len (pa_cons (pv 1) pa_nil)) pa_nil)) (blkOk_by (own := [("person", 3)]) (N := nLeast) (sc := (defScope sLeast)) (by decide +kernel)) (fun _ _ _ _ _ => (pg_name (i := 3) nd rfl (.inr rfl))) (fun _ _ _ _ _ => pts_nil) (fun _ _ _ _ _ => (pe_callB len_blk (by rfl) T.len PySem.boot_len (pa_cons (pe_lc (own := [("later", 4)]) (g := (gName 4)) rfl nd (piList_blk (cutTo_blk (pv 1) (ixAt_blk (pv 2) (pv 3) (fun _ _ => rfl)))) (blkOk_by (own := [("later", 4)]) (N := nLeast) (by rfl)) (fun _ _ _ _ _ => (pg_name (i := 4) nd rfl (.inl rfl))) (fun _ _ _ _ _ => pts_one (pt_cmpR op_gt (pv 4) (pv 3) (nomark _))) (fun _ _ _ _ _ => (pv 4))) pa_nil))))))))), ?_⟩
  refine ⟨v, rfl, v, ns, rfl, hO, hI, hl, hT1, fun H1 p e1 t1 np => ?_⟩
  have s1 : Same H1 (upd H1 p (.lst (ns.map V.int))) := same_upd np
  have ep : (upd H1 p (.lst (ns.map V.int))) p = some (.lst (ns.map V.int)) := upd_same
  have e2 := e1.trans (Ex.of s1)
  have t2 := tabG_same s1 t1
  generalize upd H1 p (.lst (ns.map V.int)) = H2 at s1 ep e2 t2
  have oV : OrdV H2 (.ref p) ns := .inl (.lst ep (rp_intsA ns))
  refine ⟨.ref p, rfl, .ref p, ns, rfl, oV, hI, hl, t2, fun t v' H3 hF e3 t3 rp => ?_⟩
  have e03 := e2.trans e3
  have ep3 := e3.lst ep
  cases t with
  | some tt =>
    obtain ⟨y, o, b⟩ := tt
    have hv : v' ≠ .non := fun z => by rw [z] at rp; cases rp
    refine ⟨_, rfl, ?_⟩
    rw [decide_eq_false hv]
    exact iteT (q _ .non H3 hF e03 t3 ⟨fun _ => rfl, fun z => nomatch z⟩)
  | none =>
    cases rp
    refine ⟨_, rfl, iteF ?_⟩
    refine ⟨.ref p, rfl, p, ns, rfl, ep3, hI, hl, fun H4 D s4 nD eD => ?_⟩
    have ep4 := s4 _ _ ep3
    have e04 := e03.trans (Ex.of s4)
    have t4 := tabG_same s4 t3
    have lp := plc_len ns
    have hpl : ∀ i (hi : i < (plc ns).length), (plc ns)[i] = ((ns.findIdx (fun y => y == (i : Int)) : Nat) : Int) := fun i hi => by
      have e := plc_at (ns := ns) (i := i) (by rw [← lp]; exact hi)
      rw [List.getD_eq_getElem?_getD, List.getElem?_eq_getElem hi] at e
      exact e
    have hkk : ∀ i, i < ns.length → ns.findIdx (fun y => y == (i : Int)) < ns.length := fun i hi => (find_at hI hi).1
    generalize hps : plc ns = ps at *
    have lm : (ns.map V.int).length = ns.length := List.length_map ..
    refine ⟨.ref p, rfl, p, _, rfl, .inl (SqL.of ep4), (ns.length : Int), by rw [lm], by omega, by omega, fun L nL => ?_⟩
    refine lc_range (lo := 0) (n := ((ns.length : Int)).toNat) (fun i H5 => Same H4 H5 ∧ H5 L = some (.lst (((leastF ns).take i).map V.int)))
      ⟨same_upd nL, upd_same⟩ (fun i H5 hi ⟨s5, eL⟩ => ?_) (fun H5 ⟨s5, eL⟩ => ?_)
    · have hi : i < ns.length := hi
      have hip : i < ps.length := by omega
      rw [Int.zero_add]
      refine ⟨rfl, yesT ?_⟩
      have hk := hpl i hip
      have hkl := hkk i hi
      have hle : (leastF ns)[i]? = some (cntF ns (ns.findIdx (fun y => y == (i : Int))) i : Int) := by
        unfold leastF
        rw [List.getElem?_map, List.getElem?_range hi]
        rfl
      generalize ns.findIdx (fun y => y == (i : Int)) = k at hk hkl hle
      have ep5 := s5 _ _ ep4
      have eD5 := s5 _ _ eD
      refine ⟨.ref p, rfl, .ref D, rfl, .int (i : Int), rfl, D, _, (i : Int), .int (k : Int), rfl, rfl, SqL.of eD5, atI_nat (by rw [List.getElem?_map, List.getElem?_eq_getElem hip, hk]; rfl), k, rfl, p, _, rfl, SqL.of ep5, fun M nM => ?_⟩
      rw [cut_to]
      have s6 : Same H5 (upd H5 M (.lst ((ns.map V.int).take k))) := same_upd nM
      have e6 : (upd H5 M (.lst ((ns.map V.int).take k))) M = some (.lst ((ns.map V.int).take k)) := upd_same
      generalize upd H5 M (.lst ((ns.map V.int).take k)) = H6 at s6 e6
      refine ⟨M, rfl, ⟨_, SqL.of e6⟩, fun N nN => ?_⟩
      refine lc_list (xs := (ns.map V.int).take k) (fun j H7 => Same H6 H7 ∧ ∃ acc, H7 N = some (.lst acc) ∧ acc.length = (((ns.take k).take j).filter fun z => decide ((i : Int) < z)).length)
        ⟨same_upd nN, [], upd_same, rfl⟩ (fun j H7 _ ⟨s7, _⟩ => SqL.of (s7 _ _ e6)) (fun j x H7 hx ⟨s7, acc, eN, la⟩ => ?_) (fun H7 ⟨s7, acc, eN, la⟩ => ?_)
      · have hj : j < (ns.take k).length := by
          have := (List.getElem?_eq_some_iff.mp hx).1
          rw [← List.map_take, List.length_map] at this
          exact this
        obtain ⟨z, hz, rfl⟩ : ∃ z, (ns.take k)[j]? = some z ∧ x = V.int z := by
          rw [← List.map_take, List.getElem?_map, List.getElem?_eq_getElem hj] at hx
          exact ⟨_, List.getElem?_eq_getElem hj, (Option.some.inj hx).symm⟩
        have hl2 : acc.length ≤ j := by
          rw [la]
          refine Nat.le_trans (List.length_filter_le _ _) ?_
          rw [List.length_take]
          omega
        rw [List.length_take] at hj
        refine ⟨rfl, ?_⟩
        refine ⟨.int z, rfl, .int (i : Int), rfl, z, (i : Int), rfl, rfl, decide ((i : Int) < z), rfl, ite2 (fun c => ?_) (fun c => ?_)⟩
        · refine ⟨.int z, rfl, acc, eN, small1000 (by omega), fun b o e => by rw [upd_ne (fun z => by rw [z, nN] at e; cases e)]; exact s7 b o e, _, upd_same, ?_⟩
          rw [List.take_add_one, hz, List.filter_append, List.length_append, List.length_append, la]
          show _ + 1 = _ + (List.filter _ [z]).length
          rw [List.filter_cons_of_pos (p := fun z => decide ((i : Int) < z)) (l := []) c]
          rfl
        · refine ⟨s7, acc, eN, ?_⟩
          rw [List.take_add_one, hz, List.filter_append, List.length_append, la]
          show _ = _ + (List.filter _ [z]).length
          rw [List.filter_cons_of_neg (p := fun z => decide ((i : Int) < z)) (l := []) c]
          rfl
      · rw [List.length_take, lm, List.take_of_length_le (by rw [List.length_take]; exact Nat.le_refl _)] at la
        have la : acc.length = cntF ns k i := la
        have nL4 : H4 L = none := nL
        have s47 := s5.trans (s6.trans s7)
        have eL7 := s7 _ _ (s6 _ _ eL)
        refine ⟨N, acc, rfl, .inl (SqL.of eN), ((leastF ns).take i).map V.int, eL7, small1000 (by rw [List.length_map, List.length_take]; omega), fun b o e => by rw [upd_ne (fun z => by rw [z, nL4] at e; cases e)]; exact s47 b o e, ?_⟩
        rw [upd_same, List.take_add_one, hle, List.map_append, la]
        rfl
    · have nL0 : H L = none := e04.free nL
      exact q none (.ref L) H5 hF (e04.trans (Ex.of s5)) (tabG_same s5 t4) ⟨fun z => absurd rfl z, fun _ => ⟨L, rfl, nL0, by rw [eL, show ((ns.length : Int)).toNat = (leastF ns).length by rw [leastF_len]; rfl, List.take_length]⟩⟩
end
end CL
set_option Elab.async false
set_option linter.all false
set_option maxRecDepth 100000
set_option maxHeartbeats 4000000
namespace CL
open PySem PySem.Spec PyProof.Rows L2 GE
/-! ### max(xs, default=d) of whole numbers -/
def IsI (num : Nat → Int) (i : Nat) (v : Value) : Prop := ∃ t, v = .int (num i) t
def TopI (num : Nat → Int) (j : Nat) (M : Int) : Prop := (∃ i, i ≤ j ∧ num i = M) ∧ ∀ i, i ≤ j → num i ≤ M
theorem TopI.zero (num : Nat → Int) : TopI num 0 (num 0) := ⟨⟨0, Nat.le_refl 0, rfl⟩, fun i hi => by rw [Nat.le_zero.mp hi]; exact Int.le_refl _⟩
theorem TopI.yes {num : Nat → Int} {j : Nat} {M : Int} (h : TopI num j M) (g : num (j + 1) > M) : TopI num (j + 1) (num (j + 1)) := ⟨⟨j + 1, Nat.le_refl _, rfl⟩, fun i hi => by
  rcases Nat.lt_or_ge j i with z | z
  · have : i = j + 1 := by omega
    rw [this]; exact Int.le_refl _
  · have := h.2 i z
    omega⟩
theorem TopI.no {num : Nat → Int} {j : Nat} {M : Int} (h : TopI num j M) (g : ¬ num (j + 1) > M) : TopI num (j + 1) M := ⟨⟨h.1.choose, by have := h.1.choose_spec.1; omega, h.1.choose_spec.2⟩, fun i hi => by
  rcases Nat.lt_or_ge j i with z | z
  · have : i = j + 1 := by omega
    rw [this]; omega
  · exact h.2 i z⟩
section
variable {P0 : Program} {w : World} {A : Around} {R : Result → Shared → Prop} {I : Addr} {fp wr : List Addr} {n : Nat} {num : Nat → Int} {St : Nat → Heap → Prop}
abbrev two (v : Value) (c : Nat) : Obj := { cls := .type "list", dict := none, data := .seq #[v, v] c, slots := #[] }
abbrev dflt (d : Value) : List (Str × Value) := [(Str.ofString "default", d)]
theorem top_loop (W : Walks P0 w A.in1 I fp wr n (IsI num) St) (S : Addr) (off : S ∉ fp) (d : Value) : ∀ (k j : Nat) (t : Shared) (M : Int) (tk : Tok) (c : Nat), n = j + 1 + k → St (j + 1) t.heap → TopI num j M → t.heap.get? S = some (two (.int M tk) c) →
    (∀ M tk g x, TopI num (n - 1) M → (∀ b o, b ∉ S :: wr → t.heap.get? b = some o → g.get? b = some o) → R (.ok (.ret (.int M tk))) { t with heap := g, toks := x }) → codeAny (model P0 w) A (.builtin "max.loop" ⟨[.ref I, .none, .ref S], dflt d⟩) R t := by
  have nm : (toString "max" ++ toString ".loop" : String) = "max.loop" := by decide
  have offw : S ∉ wr := fun z => off (W.sub S z)
  have away : ∀ {b : Addr}, b ∉ S :: wr → S ≠ b ∧ b ∉ wr := fun {b} h => ⟨fun z => h (by rw [z]; exact List.mem_cons_self), fun z => h (List.mem_cons_of_mem S z)⟩
  intro k
  induction k with
  | zero =>
    intro j t M tk c hn st top eS fin
    have e1 : n = j + 1 := hn
    refine codeAny_builtin F.entry_max_loop ?go
    rw [Around.under_plainId (A := A) F.plain_max_loop _]
    show wpAny _ A.in1 (seqItems? (.ref S) >>= _) _ _ t
    apply wpAny_bind
    refine wpAny_seqItems eS rfl (?_ : wpAny _ A.in1 (tryCatch (pyNext (.ref I)) _ >>= _) _ _ t)
    refine wpAny_bind (wpAny_tryCatch (W.done t _ _ (e1 ▸ st) fun g x keep => ?_))
    have eS2 := keep S _ offw eS
    refine (show wpAny _ A.in1 (updateSeq S (fun _ => #[]) >>= _) _ _ _ from wpAny_bind (wpAny_updateSeq eS2 rfl (wpAny_bind (wpAny_letGo (wpAny_pure ?_)))))
    refine fin M tk _ _ (by rw [e1]; exact top) fun b o hb e => ?_
    exact (Heap.get?_update_other _ _ (away hb).1).trans (keep b o (away hb).2 e)
  | succ k ih =>
    intro j t M tk c hn st top eS fin
    have lt : j + 1 < n := by omega
    refine codeAny_builtin F.entry_max_loop ?go2
    rw [Around.under_plainId (A := A) F.plain_max_loop _]
    show wpAny _ A.in1 (seqItems? (.ref S) >>= _) _ _ t
    apply wpAny_bind
    refine wpAny_seqItems eS rfl (?_ : wpAny _ A.in1 (tryCatch (pyNext (.ref I)) _ >>= _) _ _ t)
    refine wpAny_bind (wpAny_tryCatch (W.item (j + 1) t _ _ lt st fun v g x iv st' keep => ?_))
    have eS2 := keep S _ offw eS
    obtain ⟨tv, rfl⟩ := iv
    have cmp : ∀ (t : Shared) (Q : Value → Shared → Prop) (E : Value → Shared → Prop), Q (.bool (decide (num (j + 1) > M))) t → wpAny (model P0 w) A.in1 (richCompare .Gt (.int (num (j + 1)) tv) (.int M tk)) Q E t := fun t Q E h =>
      CmpOf.ints_gt (prog := P0) (w := w) (A := A.in1) (P := fun i v => ∃ t, v = .int ((fun m : Nat => if m = 0 then num (j + 1) else M) i) t) (fun m => if m = 0 then num (j + 1) else M) (fun i v h => h) 0 1 (.int (num (j + 1)) tv) (.int M tk) t Q E ⟨tv, rfl⟩ ⟨tk, rfl⟩ h
    refine (show wpAny _ A.in1 (tryCatch (holding [.int (num (j + 1)) tv, .int (num (j + 1)) tv] (richCompare .Gt (.int (num (j + 1)) tv) (.int M tk) >>= _)) _ >>= _) _ _ _ from wpAny_bind (wpAny_tryCatch (wpAny_holding (wpAny_bind (cmp _ _ _ (wpAny_bind (wpAny_holding (wpAny_truthy_bool (wpAny_bind (wpAny_letGo (wpAny_pure ?_)))))))))))
    by_cases g0 : num (j + 1) > M
    · rw [decide_eq_true g0]
      simp only [if_true]
      refine wpAny_bind (wpAny_updateSeq eS2 rfl (wpAny_bind (wpAny_letGo ?_)))
      rw [nm]
      refine wpAny_pure ⟨plainId_quiet F.plain_max_loop _, ih (j + 1) _ (num (j + 1)) tv _ (by omega) (W.frame _ _ _ st' fun b hb o e => (Heap.get?_update_other _ _ (fun z => off (by rw [z]; exact hb))).trans e) (top.yes g0) (Heap.get?_update_self _ eS2 rfl) fun M2 t2 g2 x2 tp kp => ?_⟩
      exact fin M2 t2 g2 x2 tp fun b o hb e => kp b o hb ((Heap.get?_update_other _ _ (away hb).1).trans (keep b o (away hb).2 e))
    · rw [decide_eq_false g0]
      simp only [Bool.false_eq_true, if_false]
      refine wpAny_bind (wpAny_letGo ?_)
      rw [nm]
      refine wpAny_pure ⟨plainId_quiet F.plain_max_loop _, ih (j + 1) _ M tk _ (by omega) st' (top.no g0) eS2 fun M2 t2 g2 x2 tp kp => ?_⟩
      exact fin M2 t2 g2 x2 tp fun b o hb e => kp b o hb (keep b o (away hb).2 e)
/-- the first turn: nothing there, or the first thing is the greatest so far -/
theorem top_first (W : Walks P0 w A.in1 I fp wr n (IsI num) St) (S : Addr) (off : S ∉ fp) (d : Value) {t : Shared} {c : Nat} (st : St 0 t.heap) (eS : t.heap.get? S = some { cls := .type "list", dict := none, data := .seq #[] c, slots := #[] })
    (fin0 : n = 0 → ∀ g x, (∀ b o, b ∉ S :: wr → t.heap.get? b = some o → g.get? b = some o) → R (.ok (.ret d)) { t with heap := g, toks := x })
    (fin : ∀ M tk g x, 0 < n → TopI num (n - 1) M → (∀ b o, b ∉ S :: wr → t.heap.get? b = some o → g.get? b = some o) → R (.ok (.ret (.int M tk))) { t with heap := g, toks := x }) :
    codeAny (model P0 w) A (.builtin "max.loop" ⟨[.ref I, .none, .ref S], dflt d⟩) R t := by
  have nm : (toString "max" ++ toString ".loop" : String) = "max.loop" := by decide
  have offw : S ∉ wr := fun z => off (W.sub S z)
  have away : ∀ {b : Addr}, b ∉ S :: wr → S ≠ b ∧ b ∉ wr := fun {b} h => ⟨fun z => h (by rw [z]; exact List.mem_cons_self), fun z => h (List.mem_cons_of_mem S z)⟩
  refine codeAny_builtin F.entry_max_loop ?go
  rw [Around.under_plainId (A := A) F.plain_max_loop _]
  show wpAny _ A.in1 (seqItems? (.ref S) >>= _) _ _ t
  apply wpAny_bind
  refine wpAny_seqItems eS rfl (?_ : wpAny _ A.in1 (tryCatch (pyNext (.ref I)) _ >>= _) _ _ t)
  rcases Nat.eq_zero_or_pos n with e0 | pos
  · refine wpAny_bind (wpAny_tryCatch (W.done t _ _ (e0 ▸ st) fun g x keep => ?_))
    exact (show wpAny _ A.in1 (rule _ >>= _) _ _ _ from wpAny_bind (wpAny_rule (wpAny_pure (fin0 e0 g x fun b o hb e => keep b o (away hb).2 e))))
  · refine wpAny_bind (wpAny_tryCatch (W.item 0 t _ _ pos st fun v g x iv st' keep => ?_))
    have eS2 := keep S _ offw eS
    obtain ⟨tv, rfl⟩ := iv
    refine (show wpAny _ A.in1 (updateSeq S (fun _ => #[.int (num 0) tv, .int (num 0) tv]) >>= _) _ _ _ from wpAny_bind (wpAny_updateSeq eS2 rfl ?_))
    rw [nm]
    refine wpAny_pure ⟨plainId_quiet F.plain_max_loop _, top_loop W S off d (n - 1) 0 _ (num 0) tv _ (by omega) (W.frame _ _ _ st' fun b hb o e => (Heap.get?_update_other _ _ (fun z => off (by rw [z]; exact hb))).trans e) (TopI.zero num) (Heap.get?_update_self _ eS2 rfl) fun M2 t2 g2 x2 tp kp => ?_⟩
    exact fin M2 t2 g2 x2 pos tp fun b o hb e => kp b o hb ((Heap.get?_update_other _ _ (away hb).1).trans (keep b o (away hb).2 e))
end
section
variable {P0 : Program} {w : World} {A : Around} {E : Value → Shared → Prop} {s : Shared}
theorem call_tree_kw {id : String} {b : Builtin} {args : List Value} {kw : List (Str × Value)} {Q : Value → Shared → Prop} (hk : builtinKind id = none) (hp : plainId id = true) (hb : entryFor table id = some b) (ha : argsOk id ⟨args, kw⟩)
    (hc : wpAny (model P0 w) A.in1 (b ⟨args, kw⟩) (fun fin s' => match fin with
      | .done f => (match (Except.ok f : Result) with | .ok (.ret v) => Q v s' | .ok _ => False | .error e => E e s')
      | .again c' => c'.quiet = true ∧ codeAny (model P0 w) A c' (fun r s' => match r with | .ok (.ret v) => Q v s' | .ok _ => False | .error e => E e s') s') E s) : wpAny (model P0 w) A (call (.builtin id) args kw) Q E s := by
  refine wpAny_call (codeAny_call_builtin hp hb (?_ : _))
  simp only [checkBuiltinCall, hk]
  cases hs : Manifest.signature? id with
  | none => exact wpAny_pure hc
  | some sg =>
    have z : Bind.checkArgs id sg ⟨args, kw⟩ = pure () := by simpa only [argsOk, hs] using ha
    show wpAny _ A.in1 (Bind.checkArgs id sg ⟨args, kw⟩) _ _ s
    rw [z]
    exact wpAny_pure hc
theorem args_maxD (a d : Value) : argsOk "max" ⟨[a], dflt d⟩ := by
  unfold argsOk
  kernel_rfl
theorem max_dflt {l : Addr} {its : List Value} {ns : List Int} {d : Value} {Q : Value → Shared → Prop} (hh : A.handled = none) (hl : s.heap.IsList l its.toArray) (hi : IntsAre its ns)
    (q0 : ns = [] → ∀ g x, (∀ b o, s.heap.get? b = some o → g.get? b = some o) → Q d { s with heap := g, toks := x })
    (q : ∀ M t g x, (∀ b o, s.heap.get? b = some o → g.get? b = some o) → M ∈ ns → (∀ y ∈ ns, y ≤ M) → Q (.int M t) { s with heap := g, toks := x }) : wpAny (model P0 w) A (call (.builtin "max") [.ref l] (dflt d)) Q E s := by
  have nm : (toString "max" ++ toString ".loop" : String) = "max.loop" := by decide
  obtain ⟨xs, e⟩ := hi.allInts.items
  have hn : numsOf (intItems xs).toList = ns := by rw [← e]; exact hi.numsOf
  rw [nums_intItems] at hn
  subst hn
  rw [e] at hl
  refine call_tree_kw F.kind_max F.plain_max F.entry_max (args_maxD _ _) ?_
  show wpAny _ A.in1 (Builtin.Builtins.bindParams "max" ["key", "default"] 0 ⟨[], dflt d⟩ >>= _) _ _ s
  refine wpAny_bind (wpAny_of_eq (show Builtin.Builtins.bindParams "max" ["key", "default"] 0 ⟨[], dflt d⟩ = pure [none, some d] from by first | rfl | kernel_rfl) (wpAny_bind (wpAny_pure ?_)))
  refine wpAny_bind (iter_intList hl fun s₂ e2 st hfp hlI => ?_)
  subst e2
  refine wpAny_bind (wpAny_newObj_type ?_)
  rw [nm]
  have W0 := Walks.list (prog := P0) (w := w) (A := A.in1) hh _ l hlI (intItems xs)
  have W : Walks P0 w A.in1 s.heap.objs.size _ _ (intItems xs).size (IsI (numAt xs)) _ := ⟨W0.sub, W0.frame, fun i s Q E hi st hQ => W0.item i s Q E hi st fun v g x hP => hQ v g x (intItems_at hP), W0.done, W0.self⟩
  have sz : (intItems xs).size = xs.size := by simp [intItems]
  have up2 : ∀ b o, s.heap.get? b = some o → ((s.heap.push { cls := .type "list_iterator", data := .fields #[.ref l, .int 0 0] }).push { cls := .type "list", data := .seq ([] : List Value).toArray }).get? b = some o := fun b o e => Heap.get?_push_of_some _ (Heap.get?_push_of_some _ e)
  have far : ∀ b o, s.heap.get? b = some o → b ∉ [(s.heap.push { cls := .type "list_iterator", data := .fields #[.ref l, .int 0 0] }).objs.size, s.heap.objs.size] := fun b o e hm => by
    have lt := Heap.lt_size e
    rcases List.mem_cons.mp hm with z | z
    · rw [z] at lt
      exact absurd lt (by rw [Heap.size_push]; exact Nat.not_lt.mpr (Nat.le_succ _))
    · rw [List.mem_singleton.mp z] at lt
      exact Nat.lt_irrefl _ lt
  refine wpAny_pure ⟨plainId_quiet F.plain_max_loop _, top_first W _ (fun hm => Nat.lt_irrefl _ (hfp _ hm)) d (W.frame _ _ _ st fun b _ o e => Heap.get?_push_of_some _ e) (Heap.get?_push_size _ rfl) (fun e0 g x keep => ?_) (fun M t g x pos top keep => ?_)⟩
  · exact q0 (List.eq_nil_of_length_eq_zero (by rw [List.length_map, Array.length_toList]; omega)) g x fun b o e => keep b o (far b o e) (up2 b o e)
  · obtain ⟨⟨i, hi, ei⟩, le⟩ := top
    refine q M t g x (fun b o e => keep b o (far b o e) (up2 b o e)) ?_ fun y hy => ?_
    · rw [← ei, numAt_eq]
      exact PySem.getD_mem (by rw [List.length_map, Array.length_toList]; omega)
    · obtain ⟨m, hm, rfl⟩ := mem_getD hy
      rw [List.length_map, Array.length_toList] at hm
      rw [← numAt_eq]
      exact le m (by omega)
end
def rMaxD (K : PySem.W.Frag) : List V → List V → Hp → VK → Prop := fun vs zs H Q => ∃ (a : Addr) (ns : List Int) (d : Int), vs = [V.ref a] ∧ zs = [.int d] ∧ SqL K H a (ns.map V.int) ∧ (ns = [] → Q (.int d) H) ∧ ∀ M, M ∈ ns → (∀ y ∈ ns, y ≤ M) → Q (.int M) H
theorem cr_maxD {X : Cx} (hc : X.calm = true) : CallRK X (.builtin "max") [Str.ofString "default"] (rMaxD X.K) := by
  intro pins s σ H vs zs us ws Q I r r2 ⟨a, ns, d, ev, ez, hs, q0, q⟩
  subst ev ez
  obtain ⟨its, rv, hl, _⟩ := I.list hs
  obtain ⟨u, rfl, rd⟩ := vals1 r2
  obtain ⟨td, rfl⟩ := rd
  rw [Vals.ref1 r]
  exact max_dflt (I.ok.hd hc) hl.isList rv.ints (fun e g x hk => ⟨.int d, H, I.kept hk, ⟨_, rfl⟩, q0 e⟩) (fun M t g x hk h1 h2 => ⟨.int M, H, I.kept hk, ⟨_, rfl⟩, q M h1 h2⟩)
end CL
set_option Elab.async false
set_option linter.all false
set_option maxRecDepth 100000
set_option maxHeartbeats 4000000
namespace CL
open PySem PySem.Spec PyProof.Rows L2 GE
abbrev sRefus : Stmt := topS 24
abbrev sRowsC : Stmt := topS 25
abbrev nRefus : List Str := ["people", "newcomer", "ahead", "person"]
abbrev nRowsC : List Str := ["order", "most", "people", "least", "refusers", "newcomer", "counted", "person", "patience"]
theorem scRefus : FnScope nRefus ["people", "newcomer"] (defScope sRefus) := ⟨rfl, rfl, rfl, by decide +kernel, rfl, by decide +kernel, by decide +kernel⟩
theorem scRowsC : FnScope nRowsC ["order", "most"] (defScope sRowsC) := ⟨rfl, rfl, rfl, by decide +kernel, rfl, by decide +kernel, by decide +kernel⟩
/-- behind whom somebody stopped -/
def refuF (ns : List Int) (i : Nat) : Option Int := ((ns.take (ns.findIdx (fun y => y == (i : Int)))).filter fun z => decide (z < (i : Int))).getLast?
def refsF (ns : List Int) : List (Option Int) := ns.map fun z => refuF ns z.toNat
def inO (refs : List (Option Int)) (i : Int) : Bool := refs.any fun o => decide (o = some i)
theorem inV_opt (i : Int) : ∀ os : List (Option Int), inV (.int i) (os.map optV) = inO os i
  | [] => rfl
  | o :: os => by
    have ih := inV_opt i os
    unfold inV inO at ih ⊢
    rw [List.map_cons, List.any_cons, List.any_cons, ih]
    cases o with
    | none =>
      show (false || _) = (decide (none = some i) || _)
      simp
    | some n =>
      show ((n == i) || _) = (decide (some n = some i) || _)
      by_cases h : n = i
      · simp [h]
      · simp [h]
def prodF (ns : List Int) (most : Int) : Nat → Int
  | 0 => 1
  | i + 1 => if inO (refsF ns) (i : Int) then prodF ns most i else prodF ns most i * (most - (leastF ns).getD i 0 + 1)
def rowsF (ns : List Int) (most : Int) : Int := if anyBar (plc ns) ns.length then 0 else if (leastF ns).any (fun x => decide (most < x)) then 0 else prodF ns most ns.length
def spRefus : Sp := fun vs H Q _ => ∃ (A : Addr) (ns : List Int) (i : Nat), vs = [.ref A, .int (i : Int)] ∧ H A = some (.lst (ns.map V.int)) ∧ isOrderI ns = true ∧ ns.length ≤ 60 ∧ i < ns.length ∧ ∀ H', Same H H' → Q (optV (refuF ns i)) H'
def spRowsC (P1 : Addr) : Sp := fun vs H Q _ => ∃ v ns most, vs = [v, .int most] ∧ OrdV H v ns ∧ isOrderI ns = true ∧ ns.length ≤ 60 ∧ 0 ≤ most ∧ most ≤ 1000000000000000000 ∧ GxR.TabG H P1 ∧ ∀ H', Ex H H' → GxR.TabG H' P1 → Q (.int (rowsF ns most)) H'
theorem at_last {ys : List Int} (h : ys ≠ []) : ∃ y, ys.getLast? = some y ∧ atI (ys.map V.int) (-1) = some (.int y) := by
  have hl : 0 < ys.length := List.length_pos_iff.mpr h
  refine ⟨ys.getLast h, List.getLast?_eq_some_getLast h, ?_⟩
  have lm : (ys.map V.int).length = ys.length := List.length_map ..
  unfold atI ixN
  rw [if_neg (by omega), if_pos (by omega)]
  have e : ((-1 : Int) + ((ys.map V.int).length : Int)).toNat = ys.length - 1 := by omega
  rw [Option.bind_some, e, List.getElem?_map, List.getElem?_eq_getElem (by omega), List.getLast_eq_getElem]
  rfl
section
variable {P : Program} {w : World} {K : PySem.W.Frag} {mg : Str → Option Value} {base : Heap}
theorem ok_refus {f : Addr} {fd : FuncData} (F : Fun K "refuser_of" "refuser_of" sRefus f fd) (T : NmO mg) : FnOk P w K mg base CX0 1 f fd ["people", "newcomer"] spRefus := by
  refine F.ok scRefus (fun vs H Q E ⟨A, ns, i, e, _⟩ => by rw [e]; rfl) (fun cdv A' outer s H vs Q E hr h => ?_)
  obtain ⟨A, ns, i, rfl, eA, hI, hl, hi, q⟩ := h
  have nd := scRefus.nd
  refine ⟨_, (pss_cons (ps_setLc (i := 2) (own := [("person", 3)]) (g := (gName 3)) rfl nd rfl rfl (sw_true rfl rfl rfl (by decide +kernel)) (pi_list (pe_slice sl_list (pv 0) po_none (po_some (pe_bm PySem.F.plainAttrs_list PySem.F.slot_list_index PySem.F.type_list_index mt_index (pv 0) (pa_cons (pv 1) pa_nil))))) (blkOk_by (own := [("person", 3)]) (N := nRefus) (sc := (defScope sRefus)) (by decide +kernel)) (fun _ _ _ _ _ => (pg_name (i := 3) nd rfl (.inl rfl))) (fun _ _ _ _ _ => pts_one (pt_cmpR op_lt (pv 3) (pv 1) (nomark _))) (fun _ _ _ _ _ => (pv 3)))
      (pss_one (ps_ret (pe_ifExp (pt_truth (pv 2) (by intro _; rfl)) (pe_ix ix_list (pv 2) (pe_un un_neg pe_int) (fun _ _ => rfl)) pe_non)))), ?_⟩
  obtain ⟨hj, ej, no⟩ := find_at hI hi
  refine ⟨.ref A, rfl, .ref A, rfl, .inl ⟨rfl, _, SqL.of eA⟩, .int (i : Int), rfl, A, _, .int (i : Int), ns.findIdx (fun y => y == (i : Int)), .int ns[ns.findIdx (fun y => y == (i : Int))], rfl, rfl, SqL.of eA, rfl, flat_ints ns, by rw [List.getElem?_map, List.getElem?_eq_getElem hj]; rfl, ?_, fun m z lm hz => ?_, _, rfl, A, _, rfl, SqL.of eA, fun M nM => ?_⟩
  · rw [ej]
    show ((i : Int) == (i : Int)) = true
    simp
  · rw [List.getElem?_map] at hz
    cases z2 : ns[m]? with
    | none => rw [z2] at hz; cases hz
    | some y =>
      rw [z2] at hz
      cases hz
      exact no m lm y z2
  have hq : refuF ns i = ((ns.take (ns.findIdx (fun y => y == (i : Int)))).filter fun z => decide (z < (i : Int))).getLast? := rfl
  generalize ns.findIdx (fun y => y == (i : Int)) = k at hj ej no hq
  rw [cut_to]
  have s1 : Same H (upd H M (.lst ((ns.map V.int).take k))) := same_upd nM
  have e1 : (upd H M (.lst ((ns.map V.int).take k))) M = some (.lst ((ns.map V.int).take k)) := upd_same
  generalize upd H M (.lst ((ns.map V.int).take k)) = H1 at s1 e1
  refine ⟨M, rfl, ⟨_, SqL.of e1⟩, fun N nN => ?_⟩
  refine lc_list (xs := (ns.map V.int).take k) (fun j H2 => Same H1 H2 ∧ ∃ acc : List Int, H2 N = some (.lst (acc.map V.int)) ∧ acc = ((ns.take k).take j).filter fun z => decide (z < (i : Int)))
    ⟨same_upd nN, [], upd_same, rfl⟩ (fun j H2 _ ⟨s2, _⟩ => SqL.of (s2 _ _ e1)) (fun j x H2 hx ⟨s2, acc, eN, la⟩ => ?_) (fun H2 ⟨s2, acc, eN, la⟩ => ?_)
  · have hj2 : j < (ns.take k).length := by
      have := (List.getElem?_eq_some_iff.mp hx).1
      rw [← List.map_take, List.length_map] at this
      exact this
    obtain ⟨z, hz, rfl⟩ : ∃ z, (ns.take k)[j]? = some z ∧ x = V.int z := by
      rw [← List.map_take, List.getElem?_map, List.getElem?_eq_getElem hj2] at hx
      exact ⟨_, List.getElem?_eq_getElem hj2, (Option.some.inj hx).symm⟩
    have hl2 : acc.length ≤ j := by
      rw [la]
      refine Nat.le_trans (List.length_filter_le _ _) ?_
      rw [List.length_take]
      omega
    rw [List.length_take] at hj2
    refine ⟨rfl, ?_⟩
    refine ⟨.int z, rfl, .int (i : Int), rfl, z, (i : Int), rfl, rfl, decide (z < (i : Int)), rfl, ite2 (fun c => ?_) (fun c => ?_)⟩
    · refine ⟨.int z, rfl, acc.map V.int, eN, small1000 (by rw [List.length_map]; omega), fun b o e => by rw [upd_ne (fun z => by rw [z, nN] at e; cases e)]; exact s2 b o e, acc ++ [z], by rw [upd_same, List.map_append]; rfl, ?_⟩
      rw [List.take_add_one, hz, List.filter_append, ← la]
      show _ = _ ++ List.filter _ [z]
      rw [List.filter_cons_of_pos (p := fun z => decide (z < (i : Int))) (l := []) c]
      rfl
    · refine ⟨s2, acc, eN, ?_⟩
      rw [List.take_add_one, hz, List.filter_append, ← la]
      show _ = _ ++ List.filter _ [z]
      rw [List.filter_cons_of_neg (p := fun z => decide (z < (i : Int))) (l := []) c]
      exact (List.append_nil _).symm
  · have s02 := s1.trans s2
    rw [List.length_take, List.length_map, List.take_of_length_le (by rw [List.length_take]; exact Nat.le_refl _)] at la
    rw [← la] at hq
    refine ⟨.ref N, rfl, _, .inl ⟨_, SqL.of eN, rfl⟩, ?_⟩
    have q := q H2 s02
    rw [hq] at q
    clear la
    cases acc with
    | nil => exact iteF q
    | cons z acc =>
      obtain ⟨y, hy, hat⟩ := at_last (ys := z :: acc) (by simp)
      rw [hy] at q
      exact iteT ⟨.ref N, rfl, 1, rfl, N, _, -1, .int y, rfl, rfl, SqL.of eN, hat, q⟩
theorem ok_rowsC {f P1 : Addr} {fd : FuncData} (F : Fun K "rows_counted" "rows_counted" sRowsC f fd) (T : NmO mg) (hmax : mg "max" = none) (hgm0 : ∃ t, mg "GREATEST_MOST" = some (.int 1000000000000000000 t)) (CW : Cal P w K mg base 1 "is_whole" ["thing"] (spOne isWhole))
    (CPe : Cal P w K mg base 5 "people_of" ["order"] (spPeople P1)) (CL : Cal P w K mg base 7 "least_patiences" ["order"] (spLeast P1)) (CRf : Cal P w K mg base 1 "refuser_of" ["people", "newcomer"] spRefus) : FnOk P w K mg base CX0 8 f fd ["order", "most"] (spRowsC P1) := by
  refine F.ok scRowsC (fun vs H Q E ⟨v, ns, most, e, _⟩ => by rw [e]; rfl) (fun cdv A outer s H vs Q E hr h => ?_)
  obtain ⟨v, ns, most, rfl, hO, hI, hl, m0, m1, hT1, q⟩ := h
  obtain ⟨tg, hgm⟩ := hgm0
  have nd := scRowsC.nd
  refine ⟨_, (pss_cons (ps_set (i := 2) nd rfl (.inr rfl) (pe_cal (CPe.mono (by decide)) hr (by rfl) (pa_cons (pv 0) pa_nil)))
      (pss_cons (ps_if (PW.pt (pw_or (pt_not (pt_val (pe_cal (CW.mono (by decide)) hr (by rfl) (pa_cons (pv 1) pa_nil)))) (pw_or1 (pt_not (pt_chain op_le op_le pe_int (pv 1) (pe_glob (v := .int 1000000000000000000) (by rfl) hgm ⟨_, rfl⟩)))))) (pss_one ps_never) pss_nil)
      (pss_cons (ps_set (i := 3) nd rfl (.inl rfl) (pe_cal CL hr (by rfl) (pa_cons (pv 2) pa_nil)))
      (pss_cons (ps_if (PW.pt (pw_or (pt_cmp (pc_isN (pv 3))) (pw_or1 (pt_cmpR op_gt (pe_callBK (cr_maxD rfl) (by rfl) hmax (by decide +kernel) (pa_cons (pv 3) pa_nil) (pk_cons pe_int pk_nil)) (pv 1) (nomark _))))) (pss_one (ps_ret pe_int)) pss_nil)
      (pss_cons (ps_setLc (i := 4) (own := [("newcomer", 5)]) (g := (gName 5)) (tt := tYes) rfl nd rfl rfl (sw_true rfl rfl rfl (by decide +kernel)) (pi_list (pv 2)) (blkOk_by (own := [("newcomer", 5)]) (N := nRowsC) (sc := (defScope sRowsC)) (by decide +kernel)) (fun _ _ _ _ _ => (pg_name (i := 5) nd rfl (.inl rfl))) (fun _ _ _ _ _ => pts_nil) (fun _ _ _ _ _ => (pe_cal (CRf.mono (by decide)) hr (by rfl) (pa_cons (pv 2) (pa_cons (pv 5) pa_nil)))))
      (pss_cons (ps_set (i := 6) nd rfl (.inl rfl) pe_int)
      (pss_cons (ps_for PassesOwn.never rfl (pi_enum (by rfl) T.enum (pa_cons (pv 3) pa_nil)) (pg_tup rfl (pgs_cons (pg_name (i := 7) nd rfl (.inl rfl)) (pgs_cons (pg_name (i := 8) nd rfl (.inl rfl)) pgs_nil))) (pss_one (ps_if (pt_cmpR op_notIn_seq (pv 7) (pv 4) (by rfl)) (pss_one (ps_aug (i := 6) nd rfl (.inl rfl) (pe_op op_add (pe_op op_sub (pv 1) (pv 8)) pe_int) iop_mul)) pss_nil)))
      (pss_one (ps_ret (pv 6)))))))))), ?_⟩
  refine ⟨v, rfl, v, ns, rfl, hO, hI, hl, hT1, fun H1 p e1 t1 np => ?_⟩
  have s1 : Same H1 (upd H1 p (.lst (ns.map V.int))) := same_upd np
  have ep : (upd H1 p (.lst (ns.map V.int))) p = some (.lst (ns.map V.int)) := upd_same
  have e2 := e1.trans (Ex.of s1)
  have t2 := tabG_same s1 t1
  generalize upd H1 p (.lst (ns.map V.int)) = H2 at s1 ep e2 t2
  show tSeq _ _ _ [some v, some (.int most), some (.ref p), none, none, none, none, none, none] H2
  refine ⟨.int most, rfl, .int most, .int most, rfl, .int most, fun H3 s3 => ⟨true, rfl, iteF ?_⟩⟩
  have ep3 := s3 _ _ ep
  have e03 := e2.trans (Ex.of s3)
  have t3 := tabG_same s3 t2
  refine ⟨.int most, rfl, 0, most, rfl, rfl, decide ((0 : Int) ≤ most), rfl, ?_⟩
  rw [decide_eq_true m0]
  refine iteT ⟨most, 1000000000000000000, rfl, rfl, decide (most ≤ 1000000000000000000), rfl, ?_⟩
  rw [decide_eq_true m1]
  refine iteF ?_
  have oV : OrdV H3 (.ref p) ns := .inl (.lst ep3 (rp_intsA ns))
  refine ⟨.ref p, rfl, .ref p, ns, rfl, oV, hI, hl, t3, fun t v' H4 hF e4 t4 hL => ?_⟩
  have e04 := e03.trans e4
  have ep4 := e4.lst ep3
  dsimp only []
  show tSeq (tIfS _ _ _) _ _ [some v, some (.int most), some (.ref p), some v', none, none, none, none, none] H4
  cases t with
  | some tt =>
    obtain rfl := hL.1 (fun z => by cases z)
    exact ⟨.non, rfl, _, rfl, iteT (by
      have z : rowsF ns most = 0 := if_pos hF.any.symm
      have q := q H4 e04 t4
      rw [z] at q
      exact q)⟩
  | none =>
    obtain ⟨L, rfl, nL, eL⟩ := hL.2 rfl
    have lx := leastF_len ns
    have hx := fun (x : Int) (h : x ∈ leastF ns) => leastF_in h
    have hr : rowsF ns most = if (leastF ns).any (fun x => decide (most < x)) then 0 else prodF ns most ns.length := if_neg (by rw [← hF.any]; exact Bool.false_ne_true)
    have hg : ∀ i, (leastF ns).getD i 0 = (leastF ns)[i]?.getD 0 := fun i => List.getD_eq_getElem?_getD
    have hp : ∀ i, prodF ns most (i + 1) = if inO (refsF ns) (i : Int) then prodF ns most i else prodF ns most i * (most - (leastF ns).getD i 0 + 1) := fun i => rfl
    have hfs : refsF ns = ns.map fun z => refuF ns z.toNat := rfl
    generalize hxs : leastF ns = xs at *
    refine seq_mk fun nx hnx => ?_
    have REST : xs.any (fun x => decide (most < x)) = false → nx [some v, some (.int most), some (.ref p), some (.ref L), none, none, none, none, none] H4 := by
      intro hno
      rw [hno] at hr
      have hr : rowsF ns most = prodF ns most ns.length := hr
      refine hnx _ _ ?_
      refine ⟨.ref p, rfl, p, rfl, ⟨_, SqL.of ep4⟩, fun R nR => ?_⟩
      refine lc_list (xs := ns.map V.int) (fun j H5 => Same H4 H5 ∧ H5 R = some (.lst (((refsF ns).take j).map optV)))
        ⟨same_upd nR, upd_same⟩ (fun j H5 _ ⟨s5, _⟩ => SqL.of (s5 _ _ ep4)) (fun j x H5 hxj ⟨s5, eR⟩ => ?_) (fun H5 ⟨s5, eR⟩ => ?_)
      · have hjl := (List.getElem?_eq_some_iff.mp hxj).1
        rw [List.length_map] at hjl
        rw [List.getElem?_map, List.getElem?_eq_getElem hjl] at hxj
        obtain ⟨i, hi, ei⟩ := up_mem.mp ((ord_perm hI).mem_iff.mp (List.getElem_mem hjl))
        obtain rfl : x = V.int (i : Int) := by rw [← ei]; exact (Option.some.inj hxj).symm
        have hre : (refsF ns)[j]? = some (refuF ns i) := by
          rw [hfs, List.getElem?_map, List.getElem?_eq_getElem hjl, ei]
          rfl
        refine ⟨rfl, yesT ⟨.ref p, rfl, .int (i : Int), rfl, p, ns, i, rfl, s5 _ _ ep4, hI, hl, hi, fun H6 s6 => ⟨_, s6 _ _ eR, small1000 (by rw [List.length_map, List.length_take]; omega), fun b o' e => by rw [upd_ne (fun z => by rw [z, nR] at e; cases e)]; exact s6 _ _ (s5 b o' e), by rw [upd_same, List.take_add_one, hre, List.map_append]; rfl⟩⟩⟩
      · have eL5 := s5 _ _ eL
        have eR : H5 R = some (.lst ((refsF ns).map optV)) := by
          rw [eR, List.take_of_length_le (by rw [hfs, List.length_map, List.length_map]; exact Nat.le_refl _)]
        have flo : ((refsF ns).map optV).all flatV = true := by
          rw [List.all_map, List.all_eq_true]
          intro o _
          cases o <;> rfl
        refine ⟨.ref L, rfl, L, _, rfl, SqL.of eL5, for_it walk_enum (fun i σ H6 => Same H5 H6 ∧ ∃ (y7 y8 : Option V), σ = [some v, some (.int most), some (.ref p), some (.ref L), some (.ref R), none, some (.int (prodF ns most i)), y7, y8])
          ⟨Same.refl H5, _, _, rfl⟩ (fun i σ H6 _ ⟨s6, _⟩ => SqL.of (s6 _ _ eL5)) (fun i x σ H6 H7 hi hP hY => ?_) (fun σ H6 hP => ?_)⟩
        · obtain ⟨s6, y7, y8, rfl⟩ := hP
          obtain ⟨T', x, y, rfl, nT, rfl, hx1, hy⟩ := hY
          obtain rfl := Option.some.inj hx1
          rw [List.length_map] at hi
          obtain rfl : y = .int xs[i] := by
            have hy : (List.map V.int xs)[i]? = some y := hy
            rw [List.getElem?_map, List.getElem?_eq_getElem hi] at hy
            exact (Option.some.inj hy).symm
          have s7 : Same H6 (upd H6 T' (.tup [.int (i : Int), .int xs[i]])) := same_upd nT
          refine ⟨T', _, rfl, SqT.of upd_same, rfl, .int (i : Int), _, rfl, .int xs[i], _, rfl, rfl, ?_⟩
          generalize upd H6 T' (.tup [.int (i : Int), .int xs[i]]) = H7 at s7
          have hb := hx _ (List.getElem_mem hi)
          have hgi : xs.getD i 0 = xs[i] := by rw [hg, List.getElem?_eq_getElem hi]; rfl
          refine ⟨.int (i : Int), rfl, .ref R, rfl, R, _, rfl, .inl (SqL.of (s7 _ _ (s6 _ _ eR))), rfl, flo, !inV (.int (i : Int)) ((refsF ns).map optV), rfl, ?_⟩
          rw [inV_opt]
          cases hin : inO (refsF ns) (i : Int) with
          | false =>
            refine iteT ⟨.int (prodF ns most i), rfl, .int most, rfl, .int xs[i], rfl, most, xs[i], rfl, rfl, most - xs[i], 1, rfl, rfl, prodF ns most i, most - xs[i] + 1, rfl, rfl, .inr ⟨by rw [t64]; omega, by rw [t64]; omega⟩, s6.trans s7, some (.int (i : Int)), some (.int xs[i]), ?_⟩
            rw [hp, hin, hgi]
            rfl
          | true =>
            refine iteF ⟨s6.trans s7, some (.int (i : Int)), some (.int xs[i]), ?_⟩
            rw [hp, hin]
            rfl
        · obtain ⟨s6, y7, y8, rfl⟩ := hP
          have hq := q H6 (e04.trans (Ex.of (s5.trans s6))) (tabG_same (s5.trans s6) t4)
          rw [hr] at hq
          have lm : (xs.map V.int).length = ns.length := by rw [List.length_map, lx]
          rw [lm]
          exact ⟨_, rfl, hq⟩
    refine ⟨.ref L, rfl, _, rfl, iteF ⟨.ref L, rfl, L, xs, 0, rfl, rfl, SqL.of eL, fun hnil => ⟨.int most, rfl, 0, most, rfl, rfl, decide (most < 0), rfl, ?_⟩, fun M hM hle => ⟨.int most, rfl, M, most, rfl, rfl, decide (most < M), rfl, ?_⟩⟩⟩
    · rw [decide_eq_false (by omega)]
      exact iteF (REST (by rw [hnil]; rfl))
    · by_cases c : most < M
      · rw [decide_eq_true c]
        refine iteT ?_
        have hq := q H4 e04 t4
        rw [hr, if_pos (List.any_eq_true.mpr ⟨M, hM, decide_eq_true c⟩)] at hq
        exact hq
      · rw [decide_eq_false c]
        exact iteF (REST (by
          rw [List.any_eq_false]
          intro x hx2 z
          have := of_decide_eq_true z
          have := hle x hx2
          omega))
end
end CL
set_option Elab.async false
set_option linter.all false
set_option maxRecDepth 100000
set_option maxHeartbeats 4000000
namespace CL
/-! ### a queue made by patiences bars no three: whoever stays behind an older one stays behind one that lets nobody past -/
def Go (f : RF) (b : Nat) : List Nat → Prop
  | [] => True
  | c :: Y => ¬ b < c ∧ (f c = some 0 ∨ Go f b Y)
def OkB (f : RF) (b : Nat) (Y : List Nat) : Prop := f b = some 0 ∨ Go f b Y
def Q1 (f : RF) : List Nat → Prop
  | [] => True
  | b :: Y => OkB f b Y ∧ Q1 f Y
def Nb : List Nat → Prop
  | [] => True
  | a :: X => (∀ b c, [b, c].Sublist X → ¬ (b < c ∧ c < a)) ∧ Nb X
theorem Go.mono {f f' : RF} {b : Nat} : ∀ {Y : List Nat}, (∀ x ∈ Y, f x = some 0 → f' x = some 0) → Go f b Y → Go f' b Y
  | [], _, _ => trivial
  | c :: Y, h, g => ⟨g.1, g.2.elim (fun e => .inl (h c List.mem_cons_self e)) fun e => .inr (Go.mono (fun x hx => h x (List.mem_cons_of_mem _ hx)) e)⟩
theorem Go.stop {f f' : RF} {b z : Nat} : ∀ {Z X X' : List Nat}, (∀ x ∈ Z, f x = some 0 → f' x = some 0) → f' z = some 0 → Go f b (Z ++ z :: X) → Go f' b (Z ++ z :: X')
  | [], X, X', h, hz, g => ⟨g.1, .inl hz⟩
  | c :: Z, X, X', h, hz, g => ⟨g.1, g.2.elim (fun e => .inl (h c List.mem_cons_self e)) fun e => .inr (Go.stop (fun x hx => h x (List.mem_cons_of_mem _ hx)) hz e)⟩
theorem Go.less {f : RF} {n : Nat} : ∀ {C : List Nat}, (∀ c ∈ C, c < n) → Go f n C
  | [], _ => trivial
  | c :: C, h => ⟨by have := h c List.mem_cons_self; omega, .inr (Go.less fun x hx => h x (List.mem_cons_of_mem _ hx))⟩
theorem Q1.mono {f f' : RF} : ∀ {Y : List Nat}, (∀ x ∈ Y, f x = some 0 → f' x = some 0) → Q1 f Y → Q1 f' Y
  | [], _, _ => trivial
  | b :: Y, h, q => ⟨q.1.elim (fun e => .inl (h b List.mem_cons_self e)) fun g => .inr (g.mono fun x hx => h x (List.mem_cons_of_mem _ hx)), Q1.mono (fun x hx => h x (List.mem_cons_of_mem _ hx)) q.2⟩
theorem Go.none {f : RF} {b : Nat} : ∀ {Y : List Nat}, (∀ x ∈ Y, f x ≠ some 0) → Go f b Y → ∀ c ∈ Y, ¬ b < c
  | [], _, _, c, hc => nomatch hc
  | d :: Y, h, g, c, hc => by
    rcases List.mem_cons.mp hc with rfl | hc
    · exact g.1
    · exact Go.none (fun x hx => h x (List.mem_cons_of_mem _ hx)) (g.2.resolve_left (h d List.mem_cons_self)) c hc
theorem Q1.none {f : RF} {b c : Nat} : ∀ {C : List Nat}, (∀ x ∈ C, f x ≠ some 0) → Q1 f C → [b, c].Sublist C → ¬ b < c
  | [], _, _, s => nomatch s
  | d :: C, h, q, s => by
    cases s with
    | cons _ s => exact Q1.none (fun x hx => h x (List.mem_cons_of_mem _ hx)) q.2 s
    | cons_cons _ s => exact Go.none (fun x hx => h x (List.mem_cons_of_mem _ hx)) (q.1.resolve_left (h _ List.mem_cons_self)) c (List.singleton_sublist.mp s)
theorem Q1.put {f f' : RF} {n : Nat} {C : List Nat} (hC : ∀ c ∈ C, c < n) : ∀ {A : List Nat}, (∀ x ∈ A ++ C, f x = some 0 → f' x = some 0) → (∀ z, A.getLast? = some z → f' z = some 0) → Q1 f (A ++ C) → Q1 f' (A ++ n :: C)
  | [], h, _, q => ⟨.inr (Go.less hC), q.mono h⟩
  | [b], h, hl, q => ⟨.inl (hl b rfl), .inr (Go.less hC), q.2.mono fun x hx => h x (List.mem_cons_of_mem _ hx)⟩
  | b :: a :: A, h, hl, q => by
    refine ⟨?_, Q1.put hC (A := a :: A) (fun x hx => h x (List.mem_cons_of_mem _ hx)) (fun z hz => hl z (by rw [List.getLast?_cons_cons]; exact hz)) q.2⟩
    rcases q.1 with e | g
    · exact .inl (h b List.mem_cons_self e)
    · right
      obtain ⟨Z, z, hZ⟩ : ∃ Z z, a :: A = Z ++ [z] := ⟨(a :: A).dropLast, (a :: A).getLast (by simp), (List.dropLast_concat_getLast (by simp)).symm⟩
      have hz : f' z = some 0 := hl z (by rw [List.getLast?_cons_cons, hZ, List.getLast?_append]; rfl)
      have e1 : a :: A ++ C = Z ++ z :: C := by rw [hZ, List.append_assoc]; rfl
      have e2 : a :: A ++ n :: C = Z ++ z :: n :: C := by rw [hZ, List.append_assoc]; rfl
      have g' : Go f b (a :: A ++ C) := g
      show Go f' b (a :: A ++ n :: C)
      rw [e1] at g'
      rw [e2]
      refine Go.stop (fun x hx => h x (List.mem_cons_of_mem _ ?_)) hz g'
      show x ∈ a :: A ++ C
      rw [e1]
      exact List.mem_append_left _ hx
theorem two_out {n b c : Nat} {A C : List Nat} (s : [b, c].Sublist (A ++ n :: C)) (hb : b ≠ n) (hc : c ≠ n) (hA : ∀ x ∈ A ++ C, x ≠ n) : [b, c].Sublist (A ++ C) := by
  have h := s.filter (fun x => x != n)
  have e : (A ++ n :: C).filter (fun x => x != n) = A ++ C := by
    rw [List.filter_append, List.filter_cons_of_neg (by simp)]
    rw [List.filter_eq_self.mpr fun x hx => by simpa using hA x (List.mem_append_left _ hx), List.filter_eq_self.mpr fun x hx => by simpa using hA x (List.mem_append_right _ hx)]
  rw [e] at h
  have e2 : [b, c].filter (fun x => x != n) = [b, c] := List.filter_eq_self.mpr fun x hx => by
    simp only [List.mem_cons, List.not_mem_nil, or_false] at hx
    rcases hx with rfl | rfl
    · simpa using hb
    · simpa using hc
  rw [e2] at h
  exact h
theorem Nb.put {f : RF} {n : Nat} {C : List Nat} (h0 : ∀ c ∈ C, f c ≠ some 0) : ∀ {A : List Nat}, (∀ x ∈ A ++ C, x < n) → Q1 f (A ++ C) → Nb (A ++ C) → Nb (A ++ n :: C)
  | [], _, q, b => ⟨fun x y s z => Q1.none h0 q s z.1, b⟩
  | a :: A, hA, q, b => by
    refine ⟨fun x y s z => ?_, Nb.put h0 (A := A) (fun x hx => hA x (List.mem_cons_of_mem _ hx)) q.2 b.2⟩
    have ha := hA a List.mem_cons_self
    have ln : ∀ x ∈ A ++ C, x ≠ n := fun x hx => by have := hA x (List.mem_cons_of_mem _ hx); omega
    exact b.1 x y (two_out s (by omega) (by omega) ln) z
/-- how one that comes is put -/
structure Came (f f' : RF) (xs : List Nat) (k : Nat) : Prop where
  le : k ≤ xs.length
  stop : ∀ z, (xs.take k).getLast? = some z → f' z = some 0
  past : ∀ x ∈ xs.drop k, f x ≠ some 0
  keep : ∀ x ∈ xs, f x = some 0 → f' x = some 0
theorem Came.q1 {f f' : RF} {xs : List Nat} {n k : Nat} (c : Came f f' xs k) (hx : ∀ x ∈ xs, x < n) (q : Q1 f xs) : Q1 f' (xs.take k ++ n :: xs.drop k) := by
  have e := List.take_append_drop k xs
  exact Q1.put (fun x h => hx x (List.mem_of_mem_drop h)) (by rw [e]; exact c.keep) c.stop (by rw [e]; exact q)
theorem Came.nb {f f' : RF} {xs : List Nat} {n k : Nat} (c : Came f f' xs k) (hx : ∀ x ∈ xs, x < n) (q : Q1 f xs) (b : Nb xs) : Nb (xs.take k ++ n :: xs.drop k) := by
  have e := List.take_append_drop k xs
  exact Nb.put c.past (by rw [e]; exact hx) (by rw [e]; exact q) (by rw [e]; exact b)
theorem Nb.at3 : ∀ {xs : List Nat}, Nb xs → ∀ a b c, [a, b, c].Sublist xs → ¬ (b < c ∧ c < a)
  | [], _, _, _, _, s => nomatch s
  | d :: xs, h, a, b, c, s => by
    cases s with
    | cons _ s => exact h.2.at3 a b c s
    | cons_cons _ s => exact h.1 b c s
theorem sub1 {α : Type} : ∀ {xs : List α} {k : Nat}, (h : k < xs.length) → [xs[k]].Sublist xs := fun h => List.singleton_sublist.mpr (List.getElem_mem h)
theorem sub2 {α : Type} : ∀ {xs : List α} {j k : Nat}, j < k → (hj : j < xs.length) → (hk : k < xs.length) → [xs[j], xs[k]].Sublist xs
  | [], _, _, _, hj, _ => absurd hj (Nat.not_lt_zero _)
  | x :: xs, 0, k + 1, _, _, hk => (sub1 (Nat.lt_of_succ_lt_succ hk)).cons_cons x
  | x :: xs, j + 1, k + 1, h, hj, hk => (sub2 (Nat.lt_of_succ_lt_succ h) (Nat.lt_of_succ_lt_succ hj) (Nat.lt_of_succ_lt_succ hk)).cons x
theorem sub3 {α : Type} : ∀ {xs : List α} {i j k : Nat}, i < j → j < k → (hi : i < xs.length) → (hj : j < xs.length) → (hk : k < xs.length) → [xs[i], xs[j], xs[k]].Sublist xs
  | [], _, _, _, _, _, hi, _, _ => absurd hi (Nat.not_lt_zero _)
  | x :: xs, 0, j + 1, k + 1, _, h, _, hj, hk => (sub2 (Nat.lt_of_succ_lt_succ h) (Nat.lt_of_succ_lt_succ hj) (Nat.lt_of_succ_lt_succ hk)).cons_cons x
  | x :: xs, i + 1, j + 1, k + 1, h, h2, hi, hj, hk => (sub3 (Nat.lt_of_succ_lt_succ h) (Nat.lt_of_succ_lt_succ h2) (Nat.lt_of_succ_lt_succ hi) (Nat.lt_of_succ_lt_succ hj) (Nat.lt_of_succ_lt_succ hk)).cons x
end CL
set_option Elab.async false
set_option linter.all false
set_option maxRecDepth 100000
set_option maxHeartbeats 4000000
namespace CL
/-! ### how far somebody goes, told by what it meets -/
theorem goes_none {p : Nat} {l : List (Option Int)} (h : l[p]? = some none) : goes (p + 1) l = goes p l := by
  conv => lhs; unfold goes
  rw [h]
theorem goes_stop {p : Nat} {l : List (Option Int)} (h : l[p]? = some (some 0)) : goes (p + 1) l = (p + 1, l) := by
  conv => lhs; unfold goes
  rw [h]
  rfl
theorem goes_go {p : Nat} {l : List (Option Int)} {k : Int} (h : l[p]? = some (some k)) (hk : k ≠ 0) : goes (p + 1) l = goes p (l.set p (some (k - 1))) := by
  conv => lhs; unfold goes
  rw [h]
  exact if_neg hk
theorem goes_spec : ∀ (p : Nat) (l : List (Option Int)), p ≤ l.length → (∀ i, (goes p l).1 ≤ i → i < p → l[i]? ≠ some (some 0)) ∧ ((goes p l).1 = 0 ∨ l[(goes p l).1 - 1]? = some (some 0)) ∧
    ∀ i, (goes p l).2[i]? = if (goes p l).1 ≤ i ∧ i < p then (l[i]?).map (fun o => o.map (· - 1)) else l[i]?
  | 0, l, _ => ⟨fun i _ h => absurd h (Nat.not_lt_zero i), .inl rfl, fun i => by rw [if_neg (by omega)]; rfl⟩
  | p + 1, l, h => by
    have hp : l[p]? = some l[p] := List.getElem?_eq_getElem (by omega)
    have hg := goes_le p
    cases e : l[p] with
    | none =>
      rw [goes_none (hp.trans (congrArg some e))]
      obtain ⟨h1, h2, h3⟩ := goes_spec p l (by omega)
      refine ⟨fun i a b => ?_, h2, fun i => ?_⟩
      · by_cases z : i = p
        · subst z; rw [hp, e]; simp
        · exact h1 i a (by omega)
      · rw [h3 i]
        by_cases z : i = p
        · subst z
          rw [if_neg (by omega), hp, e]
          split <;> rfl
        · have : ((goes p l).1 ≤ i ∧ i < p + 1) ↔ ((goes p l).1 ≤ i ∧ i < p) := by omega
          simp only [this]
    | some k =>
      by_cases hk : k = 0
      · subst hk
        rw [goes_stop (hp.trans (congrArg some e))]
        refine ⟨fun i a b => by omega, .inr (by rw [Nat.add_sub_cancel, hp, e]), fun i => by rw [if_neg (by omega)]⟩
      · rw [goes_go (hp.trans (congrArg some e)) hk]
        have hl : (l.set p (some (k - 1))).length = l.length := List.length_set ..
        obtain ⟨h1, h2, h3⟩ := goes_spec p (l.set p (some (k - 1))) (by omega)
        have hle := (hg (l.set p (some (k - 1)))).1
        have same : ∀ i, i ≠ p → (l.set p (some (k - 1)))[i]? = l[i]? := fun i ne => by rw [List.getElem?_set_ne (Ne.symm ne)]
        refine ⟨fun i a b => ?_, ?_, fun i => ?_⟩
        · by_cases z : i = p
          · subst z; rw [hp, e]; simpa using hk
          · rw [← same i z]; exact h1 i a (by omega)
        · rcases h2 with z | z
          · exact .inl z
          · by_cases zz : (goes p (l.set p (some (k - 1)))).1 = 0
            · exact .inl zz
            · exact .inr (by rw [← z, same _ (by omega)])
        · rw [h3 i]
          by_cases z : i = p
          · subst z
            rw [if_neg (by omega), List.getElem?_set_self (by omega), if_pos ⟨hle, by omega⟩, hp, e]
            rfl
          · rw [same i z]
            have : ((goes p (l.set p (some (k - 1)))).1 ≤ i ∧ i < p + 1) ↔ ((goes p (l.set p (some (k - 1)))).1 ≤ i ∧ i < p) := by omega
            simp only [this]
/-! ### a queue's growing, by the places of those that come -/
def xsK (ks : Nat → Nat) : Nat → List Nat
  | 0 => []
  | n + 1 => (xsK ks n).take (ks n) ++ n :: (xsK ks n).drop (ks n)
/-- how many went past somebody -/
def cK (ks : Nat → Nat) : Nat → Nat → Nat
  | 0, _ => 0
  | n + 1, j => cK ks n j + if j ∈ (xsK ks n).drop (ks n) then 1 else 0
theorem xsK_perm (ks : Nat → Nat) : ∀ n, (xsK ks n).Perm (List.range n)
  | 0 => .refl _
  | n + 1 => by
    have h := List.perm_middle (a := n) (l₁ := (xsK ks n).take (ks n)) (l₂ := (xsK ks n).drop (ks n))
    rw [List.take_append_drop] at h
    exact (h.trans ((xsK_perm ks n).cons n)).trans (by rw [List.range_succ]; exact (List.perm_append_singleton n (List.range n)).symm)
theorem xsK_mem {ks : Nat → Nat} {n x : Nat} : x ∈ xsK ks n ↔ x < n := by rw [(xsK_perm ks n).mem_iff, List.mem_range]
theorem xsK_nd (ks : Nat → Nat) (n : Nat) : (xsK ks n).Nodup := (xsK_perm ks n).nodup_iff.mpr List.nodup_range
theorem xsK_len (ks : Nat → Nat) (n : Nat) : (xsK ks n).length = n := by rw [(xsK_perm ks n).length_eq, List.length_range]
theorem cK_new {ks : Nat → Nat} : ∀ {n j : Nat}, n ≤ j → cK ks n j = 0
  | 0, _, _ => rfl
  | n + 1, j, h => by
    show cK ks n j + _ = 0
    rw [cK_new (by omega), if_neg fun z => by have := xsK_mem.mp (List.mem_of_mem_drop z); omega]
theorem cK_mono {ks : Nat → Nat} {j : Nat} : ∀ {m n : Nat}, m ≤ n → cK ks m j ≤ cK ks n j
  | m, 0, h => by rw [Nat.le_zero.mp h]; exact Nat.le_refl _
  | m, n + 1, h => by
    rcases Nat.lt_or_ge n m with z | z
    · rw [show m = n + 1 by omega]; exact Nat.le_refl _
    · exact Nat.le_trans (cK_mono z) (Nat.le_add_right _ _)
structure Stp (ks : Nat → Nat) (q : Nat → Option Int) (n : Nat) : Prop where
  le : ks n ≤ (xsK ks n).length
  past : ∀ j ∈ (xsK ks n).drop (ks n), q j ≠ some (cK ks n j : Int)
  stop : ∀ z, ((xsK ks n).take (ks n)).getLast? = some z → q z = some (cK ks n z : Int)
def rsK (ks : Nat → Nat) (q : Nat → Option Int) (n j : Nat) : Option Int := (q j).map (· - (cK ks n j : Int))
def qOf (ps : List (Option Int)) : Nat → Option Int := fun j => ps.getD j none
theorem rs_zero {ks : Nat → Nat} {q : Nat → Option Int} {n j : Nat} : rsK ks q n j = some 0 ↔ q j = some (cK ks n j : Int) := by
  unfold rsK
  cases q j with
  | none => simp
  | some v =>
    simp only [Option.map_some, Option.some.injEq]
    omega
theorem goes_uq {l : List (Option Int)} {k : Nat} (hk : k ≤ l.length) (h1 : ∀ i, k ≤ i → i < l.length → l[i]? ≠ some (some 0)) (h2 : k = 0 ∨ l[k - 1]? = some (some 0)) : (goes l.length l).1 = k := by
  obtain ⟨a1, a2, _⟩ := goes_spec l.length l (Nat.le_refl _)
  have hle := (goes_le l.length l).1
  rcases Nat.lt_trichotomy (goes l.length l).1 k with z | z | z
  · rcases h2 with y | y
    · omega
    · exact absurd y (a1 (k - 1) (by omega) (by omega))
  · exact z
  · rcases a2 with y | y
    · omega
    · exact absurd y (h1 _ (by omega) (by omega))
theorem last_take {xs : List Nat} {k : Nat} (h0 : 0 < k) (hk : k ≤ xs.length) : (xs.take k).getLast? = xs[k - 1]? := by
  rw [List.getLast?_eq_getElem?, List.length_take, Nat.min_eq_left hk, List.getElem?_take_of_lt (by omega)]
theorem nd_split {xs : List Nat} (h : xs.Nodup) {k : Nat} {x : Nat} (a : x ∈ xs.take k) (b : x ∈ xs.drop k) : False := by
  rw [← List.take_append_drop k xs] at h
  exact (List.nodup_append.mp h).2.2 x a x b rfl
theorem drop_get {xs : List Nat} {k i : Nat} (h : k ≤ i) (hi : i < xs.length) : xs[i] ∈ xs.drop k := by
  refine List.mem_of_getElem? (i := i - k) ?_
  rw [List.getElem?_drop, show k + (i - k) = i by omega, List.getElem?_eq_getElem hi]
theorem take_get {xs : List Nat} {k i : Nat} (h : i < k) (hi : i < xs.length) : xs[i] ∈ xs.take k := by
  refine List.mem_of_getElem? (i := i) ?_
  rw [List.getElem?_take_of_lt h, List.getElem?_eq_getElem hi]
theorem lin_of {ps : List (Option Int)} {ks : Nat → Nat} : ∀ n, (∀ m, m < n → Stp ks (qOf ps) m) → lin ps n = (xsK ks n, (xsK ks n).map (rsK ks (qOf ps) n))
  | 0, _ => rfl
  | n + 1, h => by
    have ih := lin_of n (fun m hm => h m (by omega))
    have st := h n (by omega)
    have ll : ((xsK ks n).map (rsK ks (qOf ps) n)).length = (xsK ks n).length := List.length_map ..
    have nd := xsK_nd ks n
    have hk : (goes (xsK ks n).length ((xsK ks n).map (rsK ks (qOf ps) n))).1 = ks n := by
      rw [← ll]
      refine goes_uq (by rw [ll]; exact st.le) (fun i a b => ?_) ?_
      · rw [ll] at b
        rw [List.getElem?_map, List.getElem?_eq_getElem b]
        intro z
        exact st.past _ (drop_get a b) (rs_zero.mp (Option.some.inj z))
      · by_cases k0 : ks n = 0
        · exact .inl k0
        · refine .inr ?_
          have hl := st.le
          have e := last_take (xs := xsK ks n) (k := ks n) (by omega) hl
          rw [List.getElem?_eq_getElem (show ks n - 1 < (xsK ks n).length by omega)] at e
          rw [List.getElem?_map, List.getElem?_eq_getElem (show ks n - 1 < (xsK ks n).length by omega)]
          exact congrArg some (rs_zero.mpr (st.stop _ e))
    have hs := (goes_spec (xsK ks n).length ((xsK ks n).map (rsK ks (qOf ps) n)) (by rw [ll]; exact Nat.le_refl _)).2.2
    rw [hk] at hs
    have e2 : (goes (xsK ks n).length ((xsK ks n).map (rsK ks (qOf ps) n))).2 = (xsK ks n).map (rsK ks (qOf ps) (n + 1)) := by
      refine List.ext_getElem? fun i => ?_
      rw [hs i, List.getElem?_map, List.getElem?_map]
      by_cases hi : i < (xsK ks n).length
      · rw [List.getElem?_eq_getElem hi]
        by_cases hki : ks n ≤ i
        · rw [if_pos ⟨hki, hi⟩]
          have : cK ks (n + 1) ((xsK ks n)[i]) = cK ks n ((xsK ks n)[i]) + 1 := by
            show _ + (if _ then 1 else 0) = _
            rw [if_pos (drop_get hki hi)]
          simp only [Option.map_some]
          unfold rsK
          rw [this]
          cases qOf ps ((xsK ks n)[i]) with
          | none => rfl
          | some v =>
            simp only [Option.map_some]
            congr 2
            omega
        · rw [if_neg (by omega)]
          have : cK ks (n + 1) ((xsK ks n)[i]) = cK ks n ((xsK ks n)[i]) := by
            show _ + (if _ then 1 else 0) = _
            rw [if_neg fun z => nd_split nd (take_get (by omega) hi) z, Nat.add_zero]
          simp only [Option.map_some]
          unfold rsK
          rw [this]
      · rw [List.getElem?_eq_none (by omega), if_neg (by omega)]
        rfl
    have enew : rsK ks (qOf ps) (n + 1) n = ps.getD n none := by
      unfold rsK
      have : cK ks (n + 1) n = 0 := by
        show _ + (if _ then 1 else 0) = _
        rw [cK_new (Nat.le_refl n), if_neg fun z => by have := xsK_mem.mp (List.mem_of_mem_drop z); omega]
      rw [this]
      show (ps.getD n none).map _ = _
      cases ps.getD n none with
      | none => rfl
      | some v => simp
    show put (lin ps n) n (ps.getD n none) = _
    rw [ih]
    unfold put
    dsimp only
    rw [hk, e2]
    show (_, _) = ((xsK ks n).take (ks n) ++ n :: (xsK ks n).drop (ks n), ((xsK ks n).take (ks n) ++ n :: (xsK ks n).drop (ks n)).map _)
    rw [List.map_append, List.map_cons, enew, List.map_take, List.map_drop]
def kOf (ps : List (Option Int)) (n : Nat) : Nat := (goes (lin ps n).1.length (lin ps n).2).1
/-- a queue's own growing -/
theorem own_stp (ps : List (Option Int)) : ∀ n, ∀ m, m < n → Stp (kOf ps) (qOf ps) m
  | 0, m, h => absurd h (Nat.not_lt_zero m)
  | n + 1, m, h => by
    have ih := own_stp ps n
    rcases Nat.lt_or_ge m n with z | z
    · exact ih m z
    obtain rfl : m = n := by omega
    have hl := lin_of m ih
    have ll : ((xsK (kOf ps) m).map (rsK (kOf ps) (qOf ps) m)).length = (xsK (kOf ps) m).length := List.length_map ..
    have ek : kOf ps m = (goes (xsK (kOf ps) m).length ((xsK (kOf ps) m).map (rsK (kOf ps) (qOf ps) m))).1 := by
      conv => lhs; unfold kOf
      rw [hl]
    obtain ⟨a1, a2, _⟩ := goes_spec (xsK (kOf ps) m).length ((xsK (kOf ps) m).map (rsK (kOf ps) (qOf ps) m)) (by rw [ll]; exact Nat.le_refl _)
    have hle := (goes_le (xsK (kOf ps) m).length ((xsK (kOf ps) m).map (rsK (kOf ps) (qOf ps) m))).1
    rw [← ek] at a1 a2 hle
    refine ⟨hle, fun j hj => ?_, fun x hx => ?_⟩
    · obtain ⟨i, hi⟩ := List.getElem?_of_mem hj
      rw [List.getElem?_drop] at hi
      obtain ⟨hlt, e⟩ := List.getElem?_eq_some_iff.mp hi
      intro y
      refine a1 (kOf ps m + i) (by omega) hlt ?_
      rw [List.getElem?_map, hi]
      exact congrArg some (rs_zero.mpr y)
    · by_cases k0 : kOf ps m = 0
      · rw [k0] at hx; cases hx
      · rw [last_take (by omega) hle] at hx
        rcases a2 with y | y
        · omega
        · rw [List.getElem?_map, hx] at y
          exact rs_zero.mp (Option.some.inj y)
theorem queue_own (ps : List (Option Int)) : queueF ps = xsK (kOf ps) ps.length := by
  unfold queueF
  rw [lin_of ps.length (own_stp ps _)]
theorem filt_xsK (ks : Nat → Nat) : ∀ n m, m ≤ n → (xsK ks n).filter (fun x => decide (x < m)) = xsK ks m
  | 0, m, h => by rw [Nat.le_zero.mp h]; rfl
  | n + 1, m, h => by
    rcases Nat.lt_or_ge n m with z | z
    · obtain rfl : m = n + 1 := by omega
      exact List.filter_eq_self.mpr fun x hx => decide_eq_true (xsK_mem.mp hx)
    · show ((xsK ks n).take (ks n) ++ n :: (xsK ks n).drop (ks n)).filter _ = _
      rw [List.filter_append, List.filter_cons_of_neg (by simpa using z), ← List.filter_append, List.take_append_drop]
      exact filt_xsK ks n m z
theorem mid_at {x : Nat} : ∀ {A A' C C' : List Nat}, x ∉ A → x ∉ A' → A ++ x :: C = A' ++ x :: C' → A.length = A'.length
  | [], [], _, _, _, _, _ => rfl
  | [], a :: A', _, _, _, h, e => absurd (List.cons.inj e).1 fun z => h (by rw [z]; exact List.mem_cons_self)
  | a :: A, [], _, _, h, _, e => absurd (List.cons.inj e).1 fun z => h (by rw [← z]; exact List.mem_cons_self)
  | a :: A, b :: A', _, _, h, h', e => congrArg (· + 1) (mid_at (fun z => h (List.mem_cons_of_mem _ z)) (fun z => h' (List.mem_cons_of_mem _ z)) (List.cons.inj e).2)
theorem xsK_congr {k1 k2 : Nat → Nat} : ∀ n, (∀ m, m < n → k1 m = k2 m) → xsK k1 n = xsK k2 n ∧ ∀ j, cK k1 n j = cK k2 n j
  | 0, _ => ⟨rfl, fun _ => rfl⟩
  | n + 1, h => by
    obtain ⟨h1, h2⟩ := xsK_congr n fun m hm => h m (by omega)
    have e := h n (by omega)
    refine ⟨?_, fun j => ?_⟩
    · show (xsK k1 n).take (k1 n) ++ n :: (xsK k1 n).drop (k1 n) = (xsK k2 n).take (k2 n) ++ n :: (xsK k2 n).drop (k2 n)
      rw [h1, e]
    · show cK k1 n j + (if j ∈ (xsK k1 n).drop (k1 n) then 1 else 0) = cK k2 n j + (if j ∈ (xsK k2 n).drop (k2 n) then 1 else 0)
      rw [h1, h2, e]
theorem Stp.congr {k1 k2 : Nat → Nat} {q : Nat → Option Int} {n : Nat} (h : ∀ m, m ≤ n → k1 m = k2 m) (s : Stp k1 q n) : Stp k2 q n := by
  obtain ⟨h1, h2⟩ := xsK_congr n fun m hm => h m (by omega)
  have e := h n (Nat.le_refl n)
  refine ⟨by rw [← h1, ← e]; exact s.le, fun j hj => ?_, fun z hz => ?_⟩
  · rw [← h1, ← e] at hj; rw [← h2]; exact s.past j hj
  · rw [← h1, ← e] at hz; rw [← h2]; exact s.stop z hz
theorem same_k {k1 k2 : Nat → Nat} {N : Nat} (l1 : ∀ m, m < N → k1 m ≤ m) (l2 : ∀ m, m < N → k2 m ≤ m) (e : xsK k1 N = xsK k2 N) : ∀ m, m < N → k1 m = k2 m := fun m hm => by
  have e1 : xsK k1 m = xsK k2 m := by rw [← filt_xsK k1 N m (by omega), ← filt_xsK k2 N m (by omega), e]
  have e2 : xsK k1 (m + 1) = xsK k2 (m + 1) := by rw [← filt_xsK k1 N (m + 1) (by omega), ← filt_xsK k2 N (m + 1) (by omega), e]
  have h := mid_at (x := m) (fun z => by have := xsK_mem.mp (List.mem_of_mem_take z); omega) (fun z => by have := xsK_mem.mp (List.mem_of_mem_take z); omega) e2
  rw [List.length_take, List.length_take, xsK_len, xsK_len] at h
  have := l1 m hm
  have := l2 m hm
  omega
/-- which patiences make a queue -/
theorem queue_iff {ps qs : List (Option Int)} (hl : qs.length = ps.length) : queueF qs = queueF ps ↔ ∀ m, m < ps.length → Stp (kOf ps) (qOf qs) m := by
  refine ⟨fun e m hm => ?_, fun h => ?_⟩
  · rw [queue_own, queue_own, hl] at e
    have le : ∀ (rs : List (Option Int)) (m : Nat), kOf rs m ≤ m := fun rs m => by
      have := (own_stp rs (m + 1) m (by omega)).le
      rw [xsK_len] at this
      exact this
    have hk := same_k (N := ps.length) (fun m _ => le qs m) (fun m _ => le ps m) e
    exact (own_stp qs (m + 1) m (by omega)).congr fun j hj => hk j (by omega)
  · rw [queue_own ps]
    unfold queueF
    rw [hl, lin_of ps.length h]
/-! ### what each needs -/
section
variable {ks : Nat → Nat} {q : Nat → Option Int} {N : Nat}
theorem stp_least : ∀ n, (∀ m, m < n → Stp ks q m) → ∀ j v, q j = some v → 0 ≤ v → (cK ks n j : Int) ≤ v
  | 0, _, j, v, _, h0 => h0
  | n + 1, h, j, v, e, h0 => by
    have ih := stp_least n (fun m hm => h m (by omega)) j v e h0
    show ((cK ks n j + if j ∈ (xsK ks n).drop (ks n) then 1 else 0 : Nat) : Int) ≤ v
    by_cases z : j ∈ (xsK ks n).drop (ks n)
    · rw [if_pos z]
      have := (h n (by omega)).past j z
      rw [e] at this
      have : v ≠ (cK ks n j : Int) := fun y => this (by rw [y])
      omega
    · rw [if_neg z]
      exact ih
theorem stp_fix (h : ∀ m, m < N → Stp ks q m) {m z : Nat} (hm : m < N) (hz : ((xsK ks m).take (ks m)).getLast? = some z) : cK ks N z = cK ks m z := by
  have h1 := stp_least N h z _ ((h m hm).stop z hz) (by omega)
  have h2 := cK_mono (ks := ks) (j := z) (Nat.le_of_lt hm)
  omega
/-- the least patiences make it -/
theorem stp_min (h : ∀ m, m < N → Stp ks q m) {q' : Nat → Option Int} (e : ∀ j, j < N → q' j = some (cK ks N j : Int)) : ∀ m, m < N → Stp ks q' m := fun m hm => by
  refine ⟨(h m hm).le, fun j hj z => ?_, fun z hz => ?_⟩
  · have hj' := xsK_mem.mp (List.mem_of_mem_drop hj)
    rw [e j (by omega)] at z
    have h1 : cK ks (m + 1) j = cK ks m j + 1 := by
      show _ + (if _ then 1 else 0) = _
      rw [if_pos hj]
    have h2 := cK_mono (ks := ks) (j := j) (show m + 1 ≤ N by omega)
    have := Option.some.inj z
    omega
  · have hz' := xsK_mem.mp (List.mem_of_mem_take (List.mem_of_getLast? hz))
    rw [e z (by omega), stp_fix h hm hz]
theorem stp_raise (h : ∀ m, m < N → Stp ks q m) {q' : Nat → Option Int} {x : Nat} (hx : x < N) (e : ∀ j, j < N → j ≠ x → q' j = some (cK ks N j : Int)) (ex : q' x = some ((cK ks N x : Int) + 1)) : (∀ m, m < N → Stp ks q' m) ↔ ∀ m, m < N → ((xsK ks m).take (ks m)).getLast? ≠ some x := by
  refine ⟨fun g m hm z => ?_, fun g m hm => ⟨(h m hm).le, fun j hj z => ?_, fun z hz => ?_⟩⟩
  · have h1 := (g m hm).stop x z
    rw [ex] at h1
    have h2 := stp_fix h hm z
    have := Option.some.inj h1
    omega
  · have hj' := xsK_mem.mp (List.mem_of_mem_drop hj)
    have h1 : cK ks (m + 1) j = cK ks m j + 1 := by
      show _ + (if _ then 1 else 0) = _
      rw [if_pos hj]
    have h2 := cK_mono (ks := ks) (j := j) (show m + 1 ≤ N by omega)
    by_cases y : j = x
    · rw [y] at z h1 h2
      rw [ex] at z
      have := Option.some.inj z
      omega
    · rw [e j (by omega) y] at z
      have := Option.some.inj z
      omega
  · have hz' := xsK_mem.mp (List.mem_of_mem_take (List.mem_of_getLast? hz))
    rw [e z (by omega) fun y => g m hm (by rw [hz, y]), stp_fix h hm hz]
end
/-! ### how the program counts -/
theorem tw_in {xs ys : List Nat} {j : Nat} (h : j ∈ xs) : (xs ++ ys).takeWhile (· != j) = xs.takeWhile (· != j) := by
  induction xs with
  | nil => cases h
  | cons x xs ih =>
    show (x :: (xs ++ ys)).takeWhile _ = _
    by_cases e : x = j
    · rw [List.takeWhile_cons_of_neg (by simp [e]), List.takeWhile_cons_of_neg (by simp [e])]
    · rw [List.takeWhile_cons_of_pos (by simp [e]), List.takeWhile_cons_of_pos (by simp [e]), ih ((List.mem_cons.mp h).resolve_left (Ne.symm e))]
theorem tw_out {xs ys : List Nat} {j : Nat} (h : j ∉ xs) : (xs ++ ys).takeWhile (· != j) = xs ++ ys.takeWhile (· != j) := by
  induction xs with
  | nil => rfl
  | cons x xs ih =>
    show (x :: (xs ++ ys)).takeWhile _ = x :: (xs ++ _)
    rw [List.takeWhile_cons_of_pos (by simp [Ne.symm (fun e : j = x => h (by rw [e]; exact List.mem_cons_self))]), ih fun z => h (List.mem_cons_of_mem _ z)]
theorem cnt_passed (ks : Nat → Nat) : ∀ n j, j < n → (((xsK ks n).takeWhile (· != j)).filter fun z => decide (j < z)).length = cK ks n j
  | 0, j, h => absurd h (Nat.not_lt_zero j)
  | n + 1, j, h => by
    show ((((xsK ks n).take (ks n) ++ n :: (xsK ks n).drop (ks n)).takeWhile (· != j)).filter _).length = cK ks n j + _
    have nd := xsK_nd ks n
    by_cases hjn : j = n
    · subst hjn
      have hA : j ∉ (xsK ks j).take (ks j) := fun z => by have := xsK_mem.mp (List.mem_of_mem_take z); omega
      have hC : j ∉ (xsK ks j).drop (ks j) := fun z => by have := xsK_mem.mp (List.mem_of_mem_drop z); omega
      rw [tw_out hA, List.takeWhile_cons_of_neg (by simp), List.append_nil, if_neg hC, cK_new (Nat.le_refl j), List.filter_eq_nil_iff.mpr]
      · rfl
      · intro x hx
        have := xsK_mem.mp (List.mem_of_mem_take hx)
        simp
        omega
    · have ih := cnt_passed ks n j (by omega)
      have hj : j ∈ (xsK ks n).take (ks n) ++ (xsK ks n).drop (ks n) := by rw [List.take_append_drop]; exact xsK_mem.mpr (by omega)
      by_cases hC : j ∈ (xsK ks n).drop (ks n)
      · have hA : j ∉ (xsK ks n).take (ks n) := fun z => nd_split nd z hC
        rw [if_pos hC, ← ih]
        conv => rhs; rw [← List.take_append_drop (ks n) (xsK ks n)]
        rw [tw_out hA, tw_out hA, List.takeWhile_cons_of_pos (by simp; omega), List.filter_append, List.filter_append, List.filter_cons_of_pos (by simp; omega), List.length_append, List.length_append, List.length_cons]
        omega
      · have hA := (List.mem_append.mp hj).resolve_right hC
        rw [if_neg hC, ← ih]
        conv => rhs; rw [← List.take_append_drop (ks n) (xsK ks n)]
        rw [tw_in hA, tw_in hA]
        rfl
theorem refu_xsK (ks : Nat → Nat) : ∀ n i, i < n → ((xsK ks n).takeWhile (· != i)).filter (fun z => decide (z < i)) = (xsK ks i).take (ks i)
  | 0, i, h => absurd h (Nat.not_lt_zero i)
  | n + 1, i, h => by
    show ((((xsK ks n).take (ks n) ++ n :: (xsK ks n).drop (ks n)).takeWhile (· != i)).filter _) = _
    have nd := xsK_nd ks n
    by_cases hjn : i = n
    · subst hjn
      have hA : i ∉ (xsK ks i).take (ks i) := fun z => by have := xsK_mem.mp (List.mem_of_mem_take z); omega
      rw [tw_out hA, List.takeWhile_cons_of_neg (by simp), List.append_nil]
      exact List.filter_eq_self.mpr fun x hx => decide_eq_true (xsK_mem.mp (List.mem_of_mem_take hx))
    · have ih := refu_xsK ks n i (by omega)
      have hj : i ∈ (xsK ks n).take (ks n) ++ (xsK ks n).drop (ks n) := by rw [List.take_append_drop]; exact xsK_mem.mpr (by omega)
      rw [← ih]
      conv => rhs; rw [← List.take_append_drop (ks n) (xsK ks n)]
      by_cases hC : i ∈ (xsK ks n).drop (ks n)
      · have hA : i ∉ (xsK ks n).take (ks n) := fun z => nd_split nd z hC
        rw [tw_out hA, tw_out hA, List.takeWhile_cons_of_pos (by simp; omega), List.filter_append, List.filter_append, List.filter_cons_of_neg (by simp; omega)]
      · have hA := (List.mem_append.mp hj).resolve_right hC
        rw [tw_in hA, tw_in hA]
/-! ### nothing bars -/
theorem nb_xsK {ks : Nat → Nat} {q : Nat → Option Int} : ∀ n, (∀ m, m < n → Stp ks q m) → Nb (xsK ks n) ∧ Q1 (rsK ks q n) (xsK ks n)
  | 0, _ => ⟨trivial, trivial⟩
  | n + 1, h => by
    obtain ⟨h1, h2⟩ := nb_xsK n fun m hm => h m (by omega)
    have st := h n (by omega)
    have nd := xsK_nd ks n
    have keepA : ∀ x ∈ (xsK ks n).take (ks n), rsK ks q (n + 1) x = rsK ks q n x := fun x hx => by
      have : cK ks (n + 1) x = cK ks n x := by
        show _ + (if _ then 1 else 0) = _
        rw [if_neg fun z => nd_split nd hx z, Nat.add_zero]
      unfold rsK
      rw [this]
    have c : Came (rsK ks q n) (rsK ks q (n + 1)) (xsK ks n) (ks n) := ⟨st.le, fun z hz => by
      rw [keepA z (List.mem_of_getLast? hz)]
      exact rs_zero.mpr (st.stop z hz), fun x hx z => st.past x hx (rs_zero.mp z), fun x hx z => by
      rw [keepA x ?_]
      · exact z
      · rw [← List.take_append_drop (ks n) (xsK ks n)] at hx
        exact (List.mem_append.mp hx).resolve_right fun y => st.past x y (rs_zero.mp z)⟩
    have hlt : ∀ x ∈ xsK ks n, x < n := fun x hx => xsK_mem.mp hx
    exact ⟨c.nb hlt h2 h1, c.q1 hlt h2⟩
end CL
set_option Elab.async false
set_option linter.all false
set_option maxRecDepth 100000
set_option maxHeartbeats 4000000
namespace CL
open PySem PySem.Spec PyProof.Rows L2 GE
/-! ### what the program tells of a queue -/
theorem ord_ic {ys : List Nat} {k : Nat} (h : ys.Perm (List.range k)) : isOrderI (ic ys) = true := by
  unfold isOrderI
  have l : (ic ys).length = k := by unfold ic; rw [List.length_map, h.length_eq, List.length_range]
  rw [l, List.all_eq_true]
  intro i hi
  exact decide_eq_true (List.mem_map.mpr ⟨i, h.mem_iff.mpr hi, rfl⟩)
theorem take_find (i : Nat) : ∀ xs : List Nat, (ic xs).take ((ic xs).findIdx (fun y => y == (i : Int))) = ic (xs.takeWhile (· != i))
  | [] => rfl
  | x :: xs => by
    show ((x : Int) :: ic xs).take (((x : Int) :: ic xs).findIdx _) = _
    rw [List.findIdx_cons]
    by_cases e : x = i
    · subst e
      rw [List.takeWhile_cons_of_neg (by simp)]
      simp [ic]
    · have : ((x : Int) == (i : Int)) = false := by simp; omega
      rw [this, List.takeWhile_cons_of_pos (by simp [e])]
      simp only [cond_false, List.take_succ_cons]
      rw [take_find i xs]
      rfl
theorem ic_filter (p : Int → Bool) (xs : List Nat) : (ic xs).filter p = ic (xs.filter fun x => p (x : Int)) := by
  unfold ic
  rw [List.filter_map]
  rfl
section
variable (ps : List (Option Int))
abbrev kN (m : Nat) : List Nat := (xsK (kOf ps) m).take (kOf ps m)
/-- behind whom somebody stopped -/
def refN (x : Nat) : Bool := (List.range ps.length).any fun m => decide ((kN ps m).getLast? = some x)
def lstN (j : Nat) : Int := (cK (kOf ps) ps.length j : Int)
theorem q_len : (queueF ps).length = ps.length := by rw [queue_own, xsK_len]
theorem q_mem {x : Nat} : x ∈ queueF ps ↔ x < ps.length := by rw [queue_own, xsK_mem]
theorem q_ord : isOrderI (ic (queueF ps)) = true := ord_ic (lin_perm ps ps.length).1
theorem ic_len (xs : List Nat) : (ic xs).length = xs.length := List.length_map ..
theorem least_q : leastF (ic (queueF ps)) = (List.range ps.length).map (lstN ps) := by
  unfold leastF
  rw [ic_len, q_len]
  refine List.map_congr_left fun j hj => ?_
  have hj := List.mem_range.mp hj
  unfold cntF lstN
  rw [take_find, ic_filter, ic_len, ← cnt_passed (kOf ps) _ j hj, queue_own]
  congr 2
  exact List.filter_congr fun z _ => by simp
theorem least_at {j : Nat} (hj : j < ps.length) : (leastF (ic (queueF ps))).getD j 0 = lstN ps j := by
  rw [least_q, List.getD_eq_getElem?_getD, List.getElem?_map, List.getElem?_range hj]
  rfl
theorem refu_q {i : Nat} (hi : i < ps.length) : refuF (ic (queueF ps)) i = (kN ps i).getLast?.map fun x : Nat => (x : Int) := by
  unfold refuF
  rw [take_find, ic_filter]
  have e : ((queueF ps).takeWhile (· != i)).filter (fun x : Nat => decide ((x : Int) < (i : Int))) = kN ps i := by
    rw [queue_own]
    refine Eq.trans ?_ (refu_xsK (kOf ps) ps.length i hi)
    exact List.filter_congr fun z _ => by simp
  rw [e]
  unfold ic
  rw [List.getLast?_map]
theorem refs_q {x : Nat} : inO (refsF (ic (queueF ps))) (x : Int) = refN ps x := by
  rw [Bool.eq_iff_iff]
  unfold inO refN refsF
  simp only [List.any_eq_true, List.mem_map, List.mem_range, decide_eq_true_eq]
  constructor
  · rintro ⟨o, ⟨z, hz, rfl⟩, e⟩
    obtain ⟨m, hm, rfl⟩ := List.mem_map.mp hz
    have hm := (q_mem ps).mp hm
    have e : refuF (ic (queueF ps)) m = some (x : Int) := e
    rw [refu_q ps hm] at e
    refine ⟨m, hm, ?_⟩
    obtain ⟨y, hy, e⟩ := Option.map_eq_some_iff.mp e
    rw [hy]
    congr 1
    omega
  · rintro ⟨m, hm, e⟩
    refine ⟨_, ⟨(m : Int), List.mem_map.mpr ⟨m, (q_mem ps).mpr hm, rfl⟩, rfl⟩, ?_⟩
    show refuF (ic (queueF ps)) m = _
    rw [refu_q ps hm, e]
    rfl
theorem q_nb : Nb (queueF ps) := by rw [queue_own]; exact (nb_xsK _ (own_stp ps _)).1
end
theorem fst_none {ys : List Nat} {n : Nat} (hp : ys.Perm (List.range n)) (hb : Nb ys) : Fst (plc (ic ys)) (ic ys).length none := fun y o b h1 h2 h3 h4 => by
  have hI := ord_ic hp
  rw [barB_in h3 h4]
  by_cases z : (plc (ic ys)).getD y 0 < (plc (ic ys)).getD o 0
  · by_cases z2 : (plc (ic ys)).getD o 0 < (plc (ic ys)).getD b 0
    · exfalso
      rw [plc_at h1, plc_at (by omega)] at z
      rw [plc_at (by omega), plc_at (by omega)] at z2
      obtain ⟨l1, e1, _⟩ := find_at hI h1
      obtain ⟨l2, e2, _⟩ := find_at hI (show o < (ic ys).length by omega)
      obtain ⟨l3, e3, _⟩ := find_at hI (show b < (ic ys).length by omega)
      generalize (ic ys).findIdx (fun x => x == (y : Int)) = iy at *
      generalize (ic ys).findIdx (fun x => x == (o : Int)) = io at *
      generalize (ic ys).findIdx (fun x => x == (b : Int)) = ib at *
      have lic : (ic ys).length = ys.length := List.length_map ..
      rw [lic] at l1 l2 l3
      have g : ∀ {i : Nat} (h : i < ys.length) {x : Nat} (h' : i < (ic ys).length), (ic ys)[i] = (x : Int) → ys[i] = x := fun {i} h {x} h' e => by
        have e2 : (ic ys)[i]? = some (x : Int) := by rw [List.getElem?_eq_getElem h', e]
        unfold ic at e2
        rw [List.getElem?_map, List.getElem?_eq_getElem h] at e2
        have e3 : ((ys[i] : Nat) : Int) = (x : Int) := Option.some.inj e2
        omega
      have s := sub3 (xs := ys) (show iy < io by omega) (show io < ib by omega) l1 l2 l3
      rw [g l1 _ e1, g l2 _ e2, g l3 _ e3] at s
      exact hb.at3 y o b s ⟨h3, h4⟩
    · rw [decide_eq_false z2, Bool.and_false]
  · rw [decide_eq_false z, Bool.false_and]
/-! ### the law's mathematics -/
section
variable {ps : List (Option Int)}
theorem q_fst : Fst (plc (ic (queueF ps))) (ic (queueF ps)).length none := fst_none (lin_perm ps ps.length).1 (q_nb ps)
/-- the least ones, as patiences -/
def lsP (ps : List (Option Int)) : List (Option Int) := (List.range ps.length).map fun j => some (lstN ps j)
theorem lsP_len : (lsP ps).length = ps.length := by unfold lsP; rw [List.length_map, List.length_range]
theorem lsP_at {j : Nat} (h : j < ps.length) : (lsP ps)[j]? = some (some (lstN ps j)) := by
  unfold lsP
  rw [List.getElem?_map, List.getElem?_range h]
  rfl
theorem lsP_q {j : Nat} (h : j < ps.length) : qOf (lsP ps) j = some (lstN ps j) := by
  unfold qOf
  rw [List.getD_eq_getElem?_getD, lsP_at h]
  rfl
theorem least_makes : queueF (lsP ps) = queueF ps := (queue_iff lsP_len).mpr (stp_min (own_stp ps _) fun j hj => lsP_q hj)
theorem least_le {j : Nat} {v : Int} (hv : qOf ps j = some v) (h0 : 0 ≤ v) : lstN ps j ≤ v := stp_least _ (own_stp ps _) j v hv h0
theorem least_nn (j : Nat) : 0 ≤ lstN ps j := Int.natCast_nonneg _
theorem lstN_le (j : Nat) : lstN ps j ≤ ps.length := by
  unfold lstN
  have : ∀ (ks : Nat → Nat) (n : Nat), cK ks n j ≤ n := by
    intro ks n
    induction n with
    | zero => exact Nat.le_refl _
    | succ n ih =>
      show _ + (if _ then 1 else 0) ≤ _
      split <;> omega
  have := this (kOf ps) ps.length
  omega
/-- one patience set to another -/
def setP (ps : List (Option Int)) (x : Nat) (v : Int) : List (Option Int) := (lsP ps).set x (some v)
theorem setP_len {x : Nat} {v : Int} : (setP ps x v).length = ps.length := by unfold setP; rw [List.length_set, lsP_len]
theorem setP_at {x : Nat} {v : Int} (h : x < ps.length) : qOf (setP ps x v) x = some v := by
  unfold qOf setP
  rw [List.getD_eq_getElem?_getD, List.getElem?_set_self (by rw [lsP_len]; exact h)]
  rfl
theorem setP_ne {x j : Nat} {v : Int} (h : j < ps.length) (ne : j ≠ x) : qOf (setP ps x v) j = some (lstN ps j) := by
  rw [← lsP_q h]
  unfold qOf setP
  rw [List.getD_eq_getElem?_getD, List.getD_eq_getElem?_getD, List.getElem?_set_ne (Ne.symm ne)]
theorem lesser_ne {x : Nat} (h : x < ps.length) (h0 : 0 < lstN ps x) : queueF (setP ps x (lstN ps x - 1)) ≠ queueF ps := fun e => by
  have := stp_least _ ((queue_iff setP_len).mp e) x _ (setP_at h) (by omega)
  have e2 : lstN ps x = (cK (kOf ps) ps.length x : Int) := rfl
  omega
theorem raised_iff {x : Nat} (h : x < ps.length) : queueF (setP ps x (lstN ps x + 1)) = queueF ps ↔ refN ps x = false := by
  rw [queue_iff setP_len]
  refine (stp_raise (own_stp ps _) h (fun j hj ne => setP_ne hj ne) (setP_at h)).trans ?_
  unfold refN
  rw [List.any_eq_false]
  simp only [List.mem_range, decide_eq_true_eq]
/-- who may have more -/
def freeN (ps : List (Option Int)) : List Nat := (List.range ps.length).filter fun x => !refN ps x
def dueN (ps : List (Option Int)) (most : Int) (xs : List Nat) : Int := xs.foldl (fun d x => d * (if most - lstN ps x + 1 > 0 then most - lstN ps x + 1 else 0)) 1
theorem due_snoc (most : Int) (xs : List Nat) (x : Nat) : dueN ps most (xs ++ [x]) = dueN ps most xs * (if most - lstN ps x + 1 > 0 then most - lstN ps x + 1 else 0) := by
  unfold dueN
  rw [List.foldl_append]
  rfl
theorem prod_due {most : Int} (h : ∀ j, j < ps.length → lstN ps j ≤ most) : ∀ n, n ≤ ps.length → prodF (ic (queueF ps)) most n = dueN ps most ((List.range n).filter fun x => !refN ps x)
  | 0, _ => rfl
  | n + 1, hn => by
    have ih := prod_due h n (by omega)
    show (if inO (refsF (ic (queueF ps))) (n : Int) then prodF (ic (queueF ps)) most n else prodF (ic (queueF ps)) most n * (most - (leastF (ic (queueF ps))).getD n 0 + 1)) = _
    rw [refs_q, ih, List.range_succ, List.filter_append]
    cases hr : refN ps n with
    | true =>
      rw [if_pos rfl, List.filter_cons_of_neg (by simp [hr]), List.filter_nil, List.append_nil]
    | false =>
      rw [if_neg (by simp), List.filter_cons_of_pos (by simp [hr]), List.filter_nil, due_snoc, least_at ps (by omega)]
      have := h n (by omega)
      rw [if_pos (by omega)]
def mostN (ps : List (Option Int)) : List Int := (List.range ps.length).map (lstN ps) ++ [0]
theorem rows_due {most M : Int} (h0 : 0 ≤ most) (hM : M ∈ mostN ps) (hle : ∀ y ∈ mostN ps, y ≤ M) : rowsF (ic (queueF ps)) most = if M > most then 0 else dueN ps most (freeN ps) := by
  have hb : anyBar (plc (ic (queueF ps))) (ic (queueF ps)).length = false := anyBar_no q_fst
  unfold rowsF
  rw [hb, if_neg (by simp), least_q]
  by_cases z : M > most
  · rw [if_pos z]
    by_cases hm : M = 0
    · omega
    · have : M ∈ (List.range ps.length).map (lstN ps) := by
        rcases List.mem_append.mp hM with y | y
        · exact y
        · exact absurd (List.mem_singleton.mp y) hm
      rw [if_pos (List.any_eq_true.mpr ⟨M, this, decide_eq_true z⟩)]
  · have hall : ∀ j, j < ps.length → lstN ps j ≤ most := fun j hj => by
      have := hle (lstN ps j) (List.mem_append_left _ (List.mem_map.mpr ⟨j, List.mem_range.mpr hj, rfl⟩))
      omega
    rw [if_neg z, if_neg, ic_len, q_len, prod_due hall _ (Nat.le_refl _)]
    · rfl
    · rw [Bool.not_eq_true, List.any_eq_false]
      intro y hy
      obtain ⟨j, hj, rfl⟩ := List.mem_map.mp hy
      have := hall j (List.mem_range.mp hj)
      simp
      omega
/-- with one more to come -/
theorem later_q (p : Option Int) : (queueF (ps ++ [p])).filter (fun x => decide (x < ps.length)) = queueF ps := by
  rw [queue_own, filt_xsK _ _ _ (by rw [List.length_append]; omega), queue_own]
  have hq : ∀ n, n ≤ ps.length → lin (ps ++ [p]) n = lin ps n := by
    intro n
    induction n with
    | zero => intro _; rfl
    | succ n ih =>
      intro hn
      show put (lin (ps ++ [p]) n) n ((ps ++ [p]).getD n none) = put (lin ps n) n (ps.getD n none)
      rw [ih (by omega), List.getD_eq_getElem?_getD, List.getElem?_append_left (by omega), ← List.getD_eq_getElem?_getD]
  exact (xsK_congr ps.length fun m hm => by unfold kOf; rw [hq m (by omega)]).1
end
end CL
set_option Elab.async false
set_option linter.all false
set_option maxRecDepth 100000
set_option maxHeartbeats 4000000
namespace CL
open PySem PySem.Spec PyProof.Rows L2 GE
/-! ### an order in which no three bar is made by its least patiences -/
theorem least_x (ks : Nat → Nat) (N : Nat) : leastF (ic (xsK ks N)) = (List.range N).map fun j => (cK ks N j : Int) := by
  unfold leastF
  rw [ic_len, xsK_len]
  refine List.map_congr_left fun j hj => ?_
  have hj := List.mem_range.mp hj
  unfold cntF
  rw [take_find, ic_filter, ic_len, ← cnt_passed ks _ j hj]
  congr 2
  exact List.filter_congr fun z _ => by simp
/-- where each stood when it came -/
def kP (O : List Nat) (n : Nat) : Nat := ((O.filter fun x => decide (x < n + 1)).takeWhile (· != n)).length
theorem tw_split {x : Nat} : ∀ {xs : List Nat}, x ∈ xs → ∃ C, xs = xs.takeWhile (· != x) ++ x :: C
  | y :: ys, h => by
    by_cases e : y = x
    · subst e
      exact ⟨ys, by rw [List.takeWhile_cons_of_neg (by simp)]; rfl⟩
    · obtain ⟨C, hC⟩ := tw_split ((List.mem_cons.mp h).resolve_left (Ne.symm e))
      refine ⟨C, ?_⟩
      rw [List.takeWhile_cons_of_pos (by simp [e])]
      exact congrArg (y :: ·) hC
theorem kP_xs {O : List Nat} {N : Nat} (hp : O.Perm (List.range N)) : ∀ n, n ≤ N → xsK (kP O) n = O.filter fun x => decide (x < n)
  | 0, _ => by
    rw [List.filter_eq_nil_iff.mpr fun x _ => by simp]
    rfl
  | n + 1, hn => by
    have ih := kP_xs hp n (by omega)
    have hm : n ∈ O.filter fun x => decide (x < n + 1) := List.mem_filter.mpr ⟨hp.mem_iff.mpr (List.mem_range.mpr (by omega)), by simp⟩
    obtain ⟨C, hC⟩ := tw_split hm
    have nd : (O.filter fun x => decide (x < n + 1)).Nodup := (hp.nodup_iff.mpr List.nodup_range).filter _
    have hk : kP O n = ((O.filter fun x => decide (x < n + 1)).takeWhile (· != n)).length := rfl
    generalize (O.filter fun x => decide (x < n + 1)).takeWhile (· != n) = A at hC hk
    have e2 : O.filter (fun x => decide (x < n)) = A ++ C := by
      have h1 : (O.filter fun x => decide (x < n + 1)).filter (fun x => decide (x < n)) = O.filter (fun x => decide (x < n)) := by
        rw [List.filter_filter]
        exact List.filter_congr fun x _ => by
          by_cases c : x < n
          · simp [c, show x < n + 1 by omega]
          · simp [c]
      have nA : ∀ x ∈ A, x < n := fun x hx => by
        have h2 : x ∈ O.filter fun x => decide (x < n + 1) := by rw [hC]; exact List.mem_append_left _ hx
        have h3 := of_decide_eq_true (List.mem_filter.mp h2).2
        have h4 : x ≠ n := fun z => by
          rw [hC] at nd
          exact (List.nodup_append.mp nd).2.2 x hx n List.mem_cons_self z
        omega
      have nC : ∀ x ∈ C, x < n := fun x hx => by
        have h2 : x ∈ O.filter fun x => decide (x < n + 1) := by rw [hC]; exact List.mem_append_right _ (List.mem_cons_of_mem _ hx)
        have h3 := of_decide_eq_true (List.mem_filter.mp h2).2
        have h4 : x ≠ n := fun z => by
          rw [hC] at nd
          have h5 := (List.nodup_append.mp nd).2.1
          rw [z] at hx
          exact (List.nodup_cons.mp h5).1 hx
        omega
      rw [← h1, hC, List.filter_append, List.filter_cons_of_neg (by simp), List.filter_eq_self.mpr fun x hx => decide_eq_true (nA x hx), List.filter_eq_self.mpr fun x hx => decide_eq_true (nC x hx)]
    show (xsK (kP O) n).take (kP O n) ++ n :: (xsK (kP O) n).drop (kP O n) = _
    rw [ih, e2, hk, List.take_left, List.drop_left]
    exact hC.symm
theorem cK_fix {ks : Nat → Nat} {m z : Nat} : ∀ {N : Nat}, m ≤ N → (∀ n, m ≤ n → n < N → z ∉ (xsK ks n).drop (ks n)) → cK ks N z = cK ks m z
  | N, h, hz => by
    induction N with
    | zero => rw [Nat.le_zero.mp h]
    | succ N ih =>
      rcases Nat.lt_or_ge N m with y | y
      · rw [show m = N + 1 by omega]
      · show cK ks N z + (if _ then 1 else 0) = _
        rw [if_neg (hz N y (by omega)), Nat.add_zero]
        exact ih y fun n h1 h2 => hz n h1 (by omega)
theorem sub_right {a b : Nat} : ∀ {A B : List Nat}, [a, b].Sublist (A ++ B) → a ∉ A → [a, b].Sublist B
  | [], _, h, _ => h
  | x :: A, B, h, n => by
    cases h with
    | cons _ h => exact sub_right h fun z => n (List.mem_cons_of_mem _ z)
    | cons_cons _ h => exact absurd List.mem_cons_self n
theorem sub_idx {a b : Int} : ∀ {xs : List Int}, xs.Nodup → [a, b].Sublist xs → xs.findIdx (fun y => y == a) < xs.findIdx (fun y => y == b)
  | x :: xs, nd, h => by
    obtain ⟨nx, nd'⟩ := List.nodup_cons.mp nd
    rw [List.findIdx_cons, List.findIdx_cons]
    cases h with
    | cons _ h =>
      have ha : x ≠ a := fun z => nx (by rw [z]; exact h.subset List.mem_cons_self)
      have hb : x ≠ b := fun z => nx (by rw [z]; exact h.subset (List.mem_cons_of_mem _ List.mem_cons_self))
      have := sub_idx nd' h
      rw [show (x == a) = false by simp [ha], show (x == b) = false by simp [hb]]
      simp only [cond_false]
      omega
    | cons_cons _ h =>
      have hb : a ≠ b := fun z => nx (by rw [z]; exact h.subset List.mem_cons_self)
      rw [show (a == a) = true by simp, show (a == b) = false by simp [hb]]
      simp only [cond_true, cond_false]
      omega
theorem unb_stp {O : List Nat} {N : Nat} (hp : O.Perm (List.range N)) (hf : Fst (plc (ic O)) (ic O).length none) {q : Nat → Option Int} (hq : ∀ j, j < N → q j = some (cK (kP O) N j : Int)) : ∀ m, m < N → Stp (kP O) q m := fun m hm => by
  have eN : xsK (kP O) N = O := by
    rw [kP_xs hp N (Nat.le_refl N)]
    exact List.filter_eq_self.mpr fun x hx => decide_eq_true (List.mem_range.mp (hp.mem_iff.mp hx))
  have hI := ord_ic hp
  have lO : (ic O).length = N := by rw [ic_len, hp.length_eq, List.length_range]
  have ndI : (ic O).Nodup := ord_nodup hI
  have hle : kP O m ≤ (xsK (kP O) m).length := by
    have hm2 : m ∈ O.filter fun x => decide (x < m + 1) := List.mem_filter.mpr ⟨hp.mem_iff.mpr (List.mem_range.mpr hm), by simp⟩
    obtain ⟨C, hC⟩ := tw_split hm2
    have h1 := congrArg List.length hC
    rw [← kP_xs hp (m + 1) hm, xsK_len, List.length_append, List.length_cons] at h1
    rw [xsK_len]
    unfold kP
    rw [← kP_xs hp (m + 1) hm]
    omega
  refine ⟨hle, fun j hj z => ?_, fun z hz => ?_⟩
  · have hj' := xsK_mem.mp (List.mem_of_mem_drop hj)
    rw [hq j (by omega)] at z
    have h1 : cK (kP O) (m + 1) j = cK (kP O) m j + 1 := by
      show _ + (if _ then 1 else 0) = _
      rw [if_pos hj]
    have h2 := cK_mono (ks := kP O) (j := j) (show m + 1 ≤ N by omega)
    have := Option.some.inj z
    omega
  · have hzt := List.mem_of_getLast? hz
    have hz' := xsK_mem.mp (List.mem_of_mem_take hzt)
    rw [hq z (by omega), cK_fix (ks := kP O) (m := m) (z := z) (Nat.le_of_lt hm) fun n h1 h2 hd => ?_]
    have ndn := xsK_nd (kP O) n
    by_cases e : n = m
    · subst e
      exact nd_split ndn hzt hd
    have s1 : [z, m].Sublist (xsK (kP O) (m + 1)) := by
      show [z, m].Sublist ((xsK (kP O) m).take (kP O m) ++ m :: (xsK (kP O) m).drop (kP O m))
      exact List.Sublist.append (l₁ := [z]) (List.singleton_sublist.mpr hzt) (List.singleton_sublist.mpr List.mem_cons_self)
    have s2 : [z, m].Sublist (xsK (kP O) n) := s1.trans (by rw [← filt_xsK (kP O) n (m + 1) (by omega)]; exact List.filter_sublist)
    rw [← List.take_append_drop (kP O n) (xsK (kP O) n)] at s2
    have s3 := sub_right s2 fun y => nd_split ndn y hd
    have s4 : [n, z, m].Sublist (xsK (kP O) (n + 1)) := by
      show [n, z, m].Sublist ((xsK (kP O) n).take (kP O n) ++ n :: (xsK (kP O) n).drop (kP O n))
      exact (s3.cons_cons n).trans (List.sublist_append_right _ _)
    have s5 : [n, z, m].Sublist O := by
      rw [← eN]
      exact s4.trans (by rw [← filt_xsK (kP O) N (n + 1) (by omega)]; exact List.filter_sublist)
    have s6 : [(n : Int), (z : Int), (m : Int)].Sublist (ic O) := s5.map _
    have i1 := sub_idx ndI ((show [(n : Int), (z : Int)].Sublist [(n : Int), (z : Int), (m : Int)] from ((List.nil_sublist _).cons_cons _).cons_cons _).trans s6)
    have i2 := sub_idx ndI ((show [(z : Int), (m : Int)].Sublist [(n : Int), (z : Int), (m : Int)] from (List.Sublist.refl _).cons _).trans s6)
    have hb := hf n z m (by omega) (by omega) (by omega) (by omega)
    rw [barB_in (by omega) (by omega), plc_at (by omega), plc_at (by omega), plc_at (by omega), decide_eq_true (by omega), decide_eq_true (by omega)] at hb
    cases hb
def lsO (O : List Nat) : List (Option Int) := (leastF (ic O)).map some
theorem unb_least {O : List Nat} {N : Nat} (hp : O.Perm (List.range N)) : leastF (ic O) = (List.range N).map fun j => (cK (kP O) N j : Int) := by
  have eN : xsK (kP O) N = O := by
    rw [kP_xs hp N (Nat.le_refl N)]
    exact List.filter_eq_self.mpr fun x hx => decide_eq_true (List.mem_range.mp (hp.mem_iff.mp hx))
  rw [← least_x, eN]
theorem unb_makes {O : List Nat} {N : Nat} (hp : O.Perm (List.range N)) (hf : Fst (plc (ic O)) (ic O).length none) : queueF (lsO O) = O := by
  have eN : xsK (kP O) N = O := by
    rw [kP_xs hp N (Nat.le_refl N)]
    exact List.filter_eq_self.mpr fun x hx => decide_eq_true (List.mem_range.mp (hp.mem_iff.mp hx))
  have hl : (lsO O).length = N := by unfold lsO; rw [List.length_map, leastF_len, ic_len, hp.length_eq, List.length_range]
  have hq : ∀ j, j < N → qOf (lsO O) j = some (cK (kP O) N j : Int) := fun j hj => by
    unfold qOf lsO
    rw [unb_least hp, List.getD_eq_getElem?_getD, List.getElem?_map, List.getElem?_map, List.getElem?_range hj]
    rfl
  unfold queueF
  rw [hl, lin_of N (unb_stp hp hf hq)]
  exact eN
/-! ### the rows, where the most is no less than the least ones -/
theorem rows_pos {ns : List Int} {most : Int} (hf : Fst (plc ns) ns.length none) (h : ∀ x ∈ leastF ns, x ≤ most) : 1 ≤ rowsF ns most := by
  unfold rowsF
  rw [anyBar_no hf, if_neg (by simp), if_neg]
  · have : ∀ n, n ≤ ns.length → 1 ≤ prodF ns most n := by
      intro n
      induction n with
      | zero => intro _; exact Int.le_refl _
      | succ n ih =>
        intro hn
        have ih := ih (by omega)
        show 1 ≤ (if inO (refsF ns) (n : Int) then prodF ns most n else prodF ns most n * (most - (leastF ns).getD n 0 + 1))
        split
        · exact ih
        · have hm : 1 ≤ most - (leastF ns).getD n 0 + 1 := by
            rw [List.getD_eq_getElem?_getD, List.getElem?_eq_getElem (by rw [leastF_len]; omega)]
            have := h _ (List.getElem_mem (show n < (leastF ns).length by rw [leastF_len]; omega))
            simp only [Option.getD_some]
            omega
          have := Int.mul_le_mul ih hm (by decide) (by omega)
          omega
    exact this _ (Nat.le_refl _)
  · rw [Bool.not_eq_true, List.any_eq_false]
    intro y hy
    have := h y hy
    simp
    omega
/-! ### the two ways to tell a queue -/
theorem lined_lin {ps : List (Option Int)} {pat : Nat → Option Int} : ∀ n, (∀ k, k < n → pat k = ps.getD k none) → lined pat n = (ic (lin ps n).1, (lin ps n).2)
  | 0, _ => rfl
  | n + 1, h => by
    have ih := lined_lin n fun k hk => h k (by omega)
    show stand (lined pat n) (n : Int) (pat n) = _
    rw [ih, h n (by omega)]
    unfold stand
    show _ = (ic (put (lin ps n) n (ps.getD n none)).1, (put (lin ps n) n (ps.getD n none)).2)
    unfold put
    dsimp only
    rw [ic_len]
    refine Prod.ext ?_ ?_
    · dsimp only
      unfold ic
      rw [List.map_append, List.map_cons, List.map_take, List.map_drop, List.append_assoc]
      rfl
    · dsimp only
      rw [List.append_assoc]
      rfl
end CL
set_option Elab.async false
set_option linter.all false
set_option pp.maxSteps 900
set_option maxRecDepth 100000
set_option maxHeartbeats 4000000
namespace CL
open PySem PySem.Spec PyProof.Rows L2 GE
abbrev sLQ : Stmt := topS 59
abbrev nLQ : List Str := ["patiences", "found", "rest", "person", "patience", "at"]
theorem scLQ : FnScope nLQ ["patiences"] (defScope sLQ) := ⟨rfl, rfl, rfl, by decide +kernel, rfl, by decide +kernel, by decide +kernel⟩
/-! ### patiences that are numbers -/
def NN (l : List (Option Int)) : Prop := ∀ o ∈ l, ∃ v : Int, o = some v ∧ 0 ≤ v
theorem NN.set {l : List (Option Int)} (h : NN l) {k : Nat} {v : Int} (hv : 0 ≤ v) : NN (l.set k (some v)) := fun o ho => by
  rcases List.mem_or_eq_of_mem_set ho with h1 | h1
  · exact h o h1
  · exact ⟨v, h1, hv⟩
theorem NN.goes : ∀ {p : Nat} {l : List (Option Int)}, NN l → NN (CL.goes p l).2
  | 0, l, h => h
  | p + 1, l, h => by
    unfold CL.goes
    split
    · rename_i k e
      split
      · exact h
      · rename_i hk
        obtain ⟨v, e2, hv⟩ := h _ (List.mem_of_getElem? e)
        cases e2
        exact NN.goes (h.set (by omega))
    · exact NN.goes h
    · exact h
theorem NN.put {st : Sta} {who : Nat} {v : Int} (h : NN st.2) (hv : 0 ≤ v) : NN (CL.put st who (some v)).2 := fun o ho => by
  have hg := NN.goes (p := st.1.length) h
  rcases List.mem_append.mp ho with h1 | h1
  · exact hg o (List.mem_of_mem_take h1)
  · rcases List.mem_cons.mp h1 with h2 | h2
    · exact ⟨v, h2, hv⟩
    · exact hg o (List.mem_of_mem_drop h2)
theorem NN.lin {ns : List Int} (h : ∀ x ∈ ns, 0 ≤ x) : ∀ n, n ≤ ns.length → NN (CL.lin (ns.map some) n).2
  | 0, _ => fun o ho => nomatch ho
  | n + 1, hn => by
    have ih := NN.lin h n (by omega)
    show NN (CL.put (CL.lin (ns.map some) n) n ((ns.map some).getD n none)).2
    rw [List.getD_eq_getElem?_getD, List.getElem?_map, List.getElem?_eq_getElem (by omega)]
    exact ih.put (h _ (List.getElem_mem (by omega)))
theorem seqP {A B : TS} {D : Ends} {σ : L2.St} {H : Hp} (R : L2.St → Hp → Prop) (hB : ∀ σ' H', R σ' H' → B D σ' H') (hA : ∀ nx : L2.St → Hp → Prop, (∀ σ' H', R σ' H' → nx σ' H') → A { D with nx := nx } σ H) : tSeq A B D σ H := hA (B D) hB
def spLQ : Sp := fun vs H Q _ => ∃ (A : Addr) (ns : List Int), vs = [.ref A] ∧ H A = some (.lst (ns.map V.int)) ∧ ns.length ≤ 60 ∧ (∀ x ∈ ns, 0 ≤ x) ∧ ∀ T H', Same H H' → H T = none → H' T = some (.lst (ppl (queueF (ns.map some)))) → Q (.ref T) H'
theorem put_fin {st : Sta} {i k : Nat} {l : List (Option Int)} {e : Option Int} (l1 : st.1.length = i) (h : (k, l) = goes i st.2) : put st i e = (st.1.take k ++ i :: st.1.drop k, l.take k ++ e :: l.drop k) := by
  unfold put
  rw [l1, ← h]
theorem ins_map {α : Type} (f : α → V) (xs : List α) (x : α) (k : Nat) : (xs.map f).take k ++ f x :: (xs.map f).drop k = (xs.take k ++ x :: xs.drop k).map f := by
  rw [List.map_append, List.map_cons, List.map_take, List.map_drop]
section
variable {P : Program} {w : World} {K : PySem.W.Frag} {mg : Str → Option Value} {base : Heap}
theorem ok_lq {f : Addr} {fd : FuncData} (F : Fun K "_law_queue" "_law_queue" sLQ f fd) (T : Nm mg) (henum : mg "enumerate" = none) : FnOk P w K mg base CX0 1 f fd ["patiences"] spLQ := by
  refine F.ok scLQ (fun vs H Q E ⟨A, ns, e, _⟩ => by rw [e]; rfl) (fun cdv A' outer s H vs Q E hr h => ?_)
  obtain ⟨A, ns, rfl, eA, hl, hnn, q⟩ := h
  have nd := scLQ.nd
  refine ⟨_, (pss_cons (ps_set (i := 1) nd rfl (.inl rfl) (pe_lst pa_nil))
      (pss_cons (ps_set (i := 2) nd rfl (.inl rfl) (pe_lst pa_nil))
      (pss_cons (ps_for PassesOwn.never rfl (pi_enum (by rfl) henum (pa_cons (pv 0) pa_nil)) (pg_tup rfl (pgs_cons (pg_name (i := 3) nd rfl (.inl rfl)) (pgs_cons (pg_name (i := 4) nd rfl (.inl rfl)) pgs_nil))) (pss_cons (ps_set (i := 5) nd rfl (.inl rfl) (pe_callB call_len_seq (by rfl) T.len PySem.boot_len (pa_cons (pv 1) pa_nil)))
      (pss_cons (ps_while PassesOwn.never (PW.pt (pw_and (pt_cmpR op_gt (pv 5) pe_int (nomark _)) (pw_and1 (pt_cmpR op_gt (pe_ix ix_list (pv 2) (pe_op op_sub (pv 5) pe_int) (fun _ _ => rfl)) pe_int (nomark _))))) (pss_cons (ps_set (i := 5) nd rfl (.inl rfl) (pe_op op_sub (pv 5) pe_int))
      (pss_one (ps_asg (pe_op op_sub (pe_ix ix_list (pv 2) (pv 5) (fun _ _ => rfl)) pe_int) (pg_sub (pv 2) (pv 5) set_list)))))
      (pss_cons (ps_expr (pe_bm PySem.F.plainAttrs_list PySem.F.slot_list_insert PySem.F.type_list_insert mt_insert (pv 1) (pa_cons (pv 5) (pa_cons (pv 3) pa_nil))))
      (pss_one (ps_expr (pe_bm PySem.F.plainAttrs_list PySem.F.slot_list_insert PySem.F.type_list_insert mt_insert (pv 2) (pa_cons (pv 5) (pa_cons (pv 4) pa_nil)))))))))
      (pss_one (ps_ret (pv 1))))))
, ?_⟩
  refine ⟨Nat.zero_le _, fun S nS => ⟨Nat.zero_le _, fun R nR => ?_⟩⟩
  have s1 : Same H (upd H S (.lst [])) := same_upd nS
  have nR' : H R = none := s1.free nR
  have neSR : S ≠ R := fun z => by rw [← z, upd_same] at nR; cases nR
  show tSeq _ _ _ [some (.ref A), some (.ref S), some (.ref R), none, none, none] (upd (upd H S (.lst [])) R (.lst []))
  have s0 : Same H (upd (upd H S (.lst [])) R (.lst [])) := s1.trans (same_upd nR)
  have e1 : (upd (upd H S (.lst [])) R (.lst [])) S = some (.lst []) := by rw [upd_ne neSR]; exact upd_same
  have e2 : (upd (upd H S (.lst [])) R (.lst [])) R = some (.lst []) := upd_same
  generalize upd (upd H S (.lst [])) R (.lst []) = G at s0 e1 e2
  have keepR : ∀ {G1 : Hp} {o2 : HO}, Same H G1 → Same H (upd G1 R o2) := fun {G1 o2} s b o e => by
    rw [upd_ne (fun z => by rw [z, nR'] at e; cases e)]
    exact s b o e
  have keepS : ∀ {G1 : Hp} {o2 : HO}, Same H G1 → Same H (upd G1 S o2) := fun {G1 o2} s b o e => by
    rw [upd_ne (fun z => by rw [z, nS] at e; cases e)]
    exact s b o e
  have lns : (ns.map V.int).length = ns.length := List.length_map ..
  refine ⟨.ref A, rfl, A, _, rfl, SqL.of (s0 _ _ eA), for_it walk_enum (fun i σ H2 => ∃ y3 y4 y5, σ = [some (.ref A), some (.ref S), some (.ref R), y3, y4, y5] ∧ Same H H2 ∧ H2 S = some (.lst (ppl (lin (ns.map some) i).1)) ∧ H2 R = some (.lst ((lin (ns.map some) i).2.map optV)))
    ⟨none, none, none, rfl, s0, e1, e2⟩ (fun i σ H2 _ hP => by obtain ⟨_, _, _, _, s2, _⟩ := hP; exact SqL.of (s2 _ _ eA)) (fun i x σ H2 H3 hi hP hY => ?_) (fun σ H2 hP => ?_)⟩
  · obtain ⟨y3, y4, y5, rfl, s2, eS, eR⟩ := hP
    obtain ⟨T', x, y, rfl, nT', rfl, hx1, hy⟩ := hY
    obtain rfl := Option.some.inj hx1
    rw [lns] at hi
    obtain rfl : y = .int ns[i] := by
      have hy : (ns.map V.int)[i]? = some y := hy
      rw [List.getElem?_map, List.getElem?_eq_getElem hi] at hy
      exact (Option.some.inj hy).symm
    have s3 : Same H2 (upd H2 T' (.tup [.int (i : Int), .int ns[i]])) := same_upd nT'
    refine ⟨T', _, rfl, SqT.of upd_same, rfl, .int (i : Int), _, rfl, .int ns[i], _, rfl, rfl, ?_⟩
    generalize upd H2 T' (.tup [.int (i : Int), .int ns[i]]) = H3 at s3
    have s23 := s2.trans s3
    have eS3 := s3 _ _ eS
    have eR3 := s3 _ _ eR
    obtain ⟨hp, l2⟩ := lin_perm (ns.map some) i
    have l1 : (lin (ns.map some) i).1.length = i := by rw [hp.length_eq, List.length_range]
    have hn := NN.lin hnn i (by omega)
    have hstep : lin (ns.map some) (i + 1) = put (lin (ns.map some) i) i (some ns[i]) := by
      show put _ _ ((ns.map some).getD i none) = _
      rw [List.getD_eq_getElem?_getD, List.getElem?_map, List.getElem?_eq_getElem hi]
      rfl
    rw [hstep]
    clear s2 s3 eS eR
    generalize lin (ns.map some) i = st at hp l1 l2 hn eS3 eR3 ⊢
    have hpos := hnn _ (List.getElem_mem hi)
    generalize ns[i] = pv at hpos ⊢
    dsimp only [gName]
    show tSeq _ _ _ [some (.ref A), some (.ref S), some (.ref R), some (.int (i : Int)), some (.int pv), y5] H3
    refine ⟨.ref S, rfl, S, _, rfl, .inl (SqL.of eS3), ?_⟩
    rw [ppl_len, l1]
    dsimp only [gName]
    show tSeq _ _ _ [some (.ref A), some (.ref S), some (.ref R), some (.int (i : Int)), some (.int pv), some (.int (i : Int))] H3
    refine seqP (fun σ' H' => ∃ (k : Nat) (l : List (Option Int)), σ' = [some (.ref A), some (.ref S), some (.ref R), some (.int (i : Int)), some (.int pv), some (.int (k : Int))] ∧ (∀ b, b ≠ R → H' b = H3 b) ∧ H' R = some (.lst (l.map optV)) ∧ l.length = i ∧ k ≤ i ∧ (k, l) = goes i st.2) (fun σ' H4 hs => ?_) (fun nx hnx => ?_)
    · obtain ⟨k, l, rfl, s4, f2, hll, hk, hg⟩ := hs
      show tSeq _ _ _ [some (.ref A), some (.ref S), some (.ref R), some (.int (i : Int)), some (.int pv), some (.int (k : Int))] H4
      have eS4 : H4 S = some (.lst (ppl st.1)) := (s4 S neSR).trans eS3
      have s24 : Same H H4 := fun b o e => by
        rw [s4 b (fun z => by rw [z, nR'] at e; cases e)]
        exact s23 b o e
      refine ⟨.ref S, rfl, .inl ⟨rfl, _, SqL.of eS4⟩, .int (k : Int), rfl, .int (i : Int), rfl, S, _, (k : Int), _, rfl, rfl, eS4, small1000 (by rw [ppl_len, l1]; omega), by omega, by omega, .ref R, rfl, .inl ⟨rfl, _, SqL.of (show upd H4 S _ R = _ by rw [upd_ne (Ne.symm neSR)]; exact f2)⟩, .int (k : Int), rfl, .int pv, rfl, R, _, (k : Int), _, rfl, rfl, (by rw [upd_ne (Ne.symm neSR)]; exact f2), small1000 (by rw [List.length_map, hll]; omega), by omega, by omega, some (.int (i : Int)), some (.int pv), some (.int (k : Int)), rfl, ?_, ?_, ?_⟩
      · exact keepR (keepS s24)
      · rw [upd_ne neSR, upd_same, put_fin l1 hg]
        unfold ppl
        rw [List.append_assoc, ← ins_map]
        rfl
      · rw [upd_same, put_fin l1 hg, ← ins_map, List.append_assoc]
        rfl
    refine ⟨fun k σ H4 => ∃ l : List (Option Int), σ = [some (.ref A), some (.ref S), some (.ref R), some (.int (i : Int)), some (.int pv), some (.int (k : Int))] ∧ (∀ b, b ≠ R → H4 b = H3 b) ∧ H4 R = some (.lst (l.map optV)) ∧ l.length = i ∧ k ≤ i ∧ goes k l = goes i st.2 ∧ NN l,
      ⟨i, st.2, rfl, fun b _ => rfl, eR3, l2, Nat.le_refl _, rfl, hn⟩, fun k σ H4 hW => ?_⟩
    obtain ⟨l, rfl, s4, f2, hll, hk, hg, hnl⟩ := hW
    have ix : ∀ {b : Nat} {o : Option Int}, l[b]? = some o → (l.map optV)[b]? = some (optV o) := fun {b o} e => by rw [List.getElem?_map, e]; rfl
    cases k with
    | zero =>
      refine ⟨.int ((0 : Nat) : Int), rfl, ((0 : Nat) : Int), 0, rfl, rfl, decide ((0 : Int) < ((0 : Nat) : Int)), rfl, iteF ?_⟩
      exact hnx _ _ ⟨0, l, rfl, s4, f2, hll, Nat.zero_le _, hg⟩
    | succ k' =>
      have hk' : k' < l.length := by omega
      obtain ⟨o, ho⟩ : ∃ o, l[k']? = some o := ⟨_, List.getElem?_eq_getElem hk'⟩
      obtain ⟨v, rfl, hv0⟩ := hnl o (List.mem_of_getElem? ho)
      have hi1 : ((k' + 1 : Nat) : Int) - 1 = (k' : Int) := by omega
      refine ⟨.int ((k' + 1 : Nat) : Int), rfl, ((k' + 1 : Nat) : Int), 0, rfl, rfl, decide ((0 : Int) < ((k' + 1 : Nat) : Int)), rfl, ?_⟩
      rw [decide_eq_true (by omega : (0 : Int) < ((k' + 1 : Nat) : Int))]
      refine iteT ⟨.ref R, rfl, .int ((k' + 1 : Nat) : Int), rfl, ((k' + 1 : Nat) : Int), 1, rfl, rfl, R, _, ((k' + 1 : Nat) : Int) - 1, .int v, rfl, rfl, SqL.of f2, by rw [hi1]; exact atI_nat (ix ho), v, 0, rfl, rfl, decide (0 < v), rfl, ?_⟩
      by_cases hz : v = 0
      · subst hz
        have hg2 : (k' + 1, l) = goes i st.2 := by
          rw [← hg]
          unfold goes
          rw [ho]
          rfl
        exact iteF (hnx _ _ ⟨k' + 1, l, rfl, s4, f2, hll, hk, hg2⟩)
      · rw [decide_eq_true (by omega)]
        have hg2 : goes k' (l.set k' (some (v - 1))) = goes i st.2 := by
          rw [← hg]
          conv => rhs; unfold goes
          rw [ho]
          exact (if_neg hz).symm
        refine iteT ⟨fun σ' H'' => σ' = [some (.ref A), some (.ref S), some (.ref R), some (.int (i : Int)), some (.int pv), some (.int (((k' + 1 : Nat) : Int) - 1))] ∧ H'' = upd H4 R (.lst ((l.set k' (some (v - 1))).map optV)), fun σ' H'' z => ⟨k', Nat.lt_succ_self k', l.set k' (some (v - 1)), by rw [z.1, hi1], by rw [z.2]; exact fun b hb => by rw [upd_ne hb]; exact s4 b hb, by rw [z.2]; exact upd_same, by rw [List.length_set]; exact hll, by omega, hg2, hnl.set (by omega)⟩, ?_⟩
        refine ⟨.int ((k' + 1 : Nat) : Int), rfl, ((k' + 1 : Nat) : Int), 1, rfl, rfl, .ref R, rfl, .int (((k' + 1 : Nat) : Int) - 1), rfl, R, _, ((k' + 1 : Nat) : Int) - 1, .int v, rfl, rfl, SqL.of f2, by rw [hi1]; exact atI_nat (ix ho), v, 1, rfl, rfl, .ref R, rfl, .int (((k' + 1 : Nat) : Int) - 1), rfl, R, _, (k' : Int), k', rfl, by rw [hi1], f2, ixN_nat (by rw [List.length_map]; exact hk'), rfl, ?_⟩
        rw [List.map_set]
        first | rfl | exact ⟨rfl, rfl⟩
  · obtain ⟨y3, y4, y5, rfl, s2, eS, eR⟩ := hP
    rw [lns] at eS
    have : queueF (ns.map some) = (lin (ns.map some) ns.length).1 := by unfold queueF; rw [List.length_map]
    exact ⟨.ref S, rfl, q S H2 s2 nS (by rw [this]; exact eS)⟩
end
end CL
set_option Elab.async false
set_option linter.all false
set_option pp.maxSteps 900
set_option maxRecDepth 100000
set_option maxHeartbeats 4000000
namespace CL
open PySem PySem.Spec PyProof.Rows L2 GE
theorem cut_eight (ns : List Int) (a : Nat) : cutV (ns.map V.int) (some (a : Int)) (some ((a + 8 : Nat) : Int)) = ((ns.drop a).take 8).map V.int := by
  unfold cutV
  have e0 : HT.sIx (ns.map V.int).length 0 (some (a : Int)) = min a (ns.map V.int).length := HT.sIx_nat _ _ _
  have e1 : HT.sIx (ns.map V.int).length (ns.map V.int).length (some ((a + 8 : Nat) : Int)) = min (a + 8) (ns.map V.int).length := HT.sIx_nat _ _ _
  rw [e0, e1, List.map_take, List.map_drop]
  have hl : (ns.map V.int).length = (ns.map V.int).length := rfl
  generalize ns.map V.int = xs
  rcases Nat.le_total (a + 8) xs.length with c | c
  · rw [Nat.min_eq_left c, Nat.min_eq_left (by omega), show a + 8 - a = 8 by omega]
  · rw [Nat.min_eq_right c]
    rcases Nat.le_total a xs.length with c2 | c2
    · rw [Nat.min_eq_left c2, List.take_of_length_le (by rw [List.length_drop]; omega), List.take_of_length_le (by rw [List.length_drop]; omega)]
    · rw [Nat.min_eq_right c2, List.drop_of_length_le (Nat.le_refl _), List.drop_of_length_le c2, List.take_nil, List.take_nil]
theorem rg8 : ∀ L : Fin 65, Builtin.Range.small 0 ((L.val : Nat) : Int) 8 = true ∧ Builtin.Range.rangeSize 0 ((L.val : Nat) : Int) 8 = (((L.val + 7) / 8 : Nat)) := by decide +kernel
theorem lcC {lo c : Int} {n : Nat} {g : TG} {tt : TT} {te : TE} {vs : List Nat} {σ : L2.St} {H1 : Hp} {D : Addr} {Qd : Hp → Prop} (Pv : Nat → Hp → Prop) (h0 : Pv 0 (upd H1 D (.lst []))) (hs : ∀ i H, i < n → Pv i H → g (.int (lo + (i : Nat) * c)) (wipe σ vs) H fun σ2 H2 => wipe σ2 vs = wipe σ vs ∧ tt σ2 H2 fun b H3 => if b = true then te σ2 H3 fun y H4 => ∃ acc, H4 D = some (.lst acc) ∧ acc.length < sizeLine ∧ Pv (i + 1) (upd H4 D (.lst (acc ++ [y]))) else Pv (i + 1) H3) (hd : ∀ H, Pv n H → Qd H) :
    ∃ W : Nat → Nat → Hp → Prop, (∃ m, W 0 m (upd H1 D (.lst []))) ∧ ∀ i m H, W i m H → ((Itc lo c n).stop i H ∧ Qd H) ∨ ((Itc lo c n).go i H ∧ ∃ Nx : Hp → Prop, (∀ H', Nx H' → ∃ m', m' < m ∧ W (i + 1) m' H') ∧ ∀ x H', (Itc lo c n).yld i H x H' → g x (wipe σ vs) H' fun σ2 H2 => wipe σ2 vs = wipe σ vs ∧ tt σ2 H2 fun b H3 => if b = true then te σ2 H3 fun y H4 => ∃ acc, H4 D = some (.lst acc) ∧ acc.length < sizeLine ∧ Nx (upd H4 D (.lst (acc ++ [y]))) else Nx H3) :=
  ⟨fun i m H => m = n - i ∧ i ≤ n ∧ Pv i H, ⟨n, (Nat.sub_zero n).symm, Nat.zero_le n, h0⟩, fun i m H ⟨em, hi, hp⟩ => by
    rcases Nat.lt_or_ge i n with c1 | c1
    · exact .inr ⟨c1, Pv (i + 1), fun H' hp' => ⟨n - (i + 1), by omega, rfl, c1, hp'⟩, fun x H' ⟨e1, e2⟩ => by rw [e1, e2]; exact hs i H c1 hp⟩
    · have e3 : i = n := Nat.le_antisymm hi c1
      rw [e3] at hp
      exact .inl ⟨c1, hd H hp⟩⟩
theorem sorted_uniq : ∀ {xs ys : List Int}, xs.Perm ys → xs.Pairwise (· ≤ ·) → ys.Pairwise (· ≤ ·) → xs = ys
  | [], ys, p, _, _ => (List.Perm.nil_eq p)
  | x :: xs, [], p, _, _ => absurd p.length_eq (by simp)
  | x :: xs, y :: ys, p, hx, hy => by
    obtain ⟨h1, h2⟩ := List.pairwise_cons.mp hx
    obtain ⟨h3, h4⟩ := List.pairwise_cons.mp hy
    have a1 : y ≤ x := by
      rcases List.mem_cons.mp (p.mem_iff.mp List.mem_cons_self) with e | e
      · omega
      · exact h3 x e
    have a2 : x ≤ y := by
      rcases List.mem_cons.mp (p.mem_iff.mpr (List.mem_cons_self : y ∈ y :: ys)) with e | e
      · omega
      · exact h1 y e
    obtain rfl : x = y := by omega
    rw [sorted_uniq (List.Perm.cons_inv p) h2 h4]
theorem ints_layS : ∀ gs : List Int, PyData.canLayAll0 (gs.map PyData.int) = true
  | [] => rfl
  | g :: gs => by
    have := ints_layS gs
    simp [PyData.canLayAll0, PyData.canLay0, this]
theorem ints_depthS : ∀ gs : List Int, PyData.depthAll (gs.map PyData.int) = 0
  | [] => rfl
  | g :: gs => by
    have := ints_depthS gs
    simp [PyData.depthAll, PyData.depth, this]
theorem ints_shapedS (gs : List Int) : SeqAt.shaped (.list (gs.map PyData.int)) = true := by
  unfold SeqAt.shaped
  simp [PyData.canLay0, PyData.depth, ints_layS, ints_depthS]
theorem ints_dpS {K : PySem.W.Frag} {H : Hp} : ∀ as : List Int, DpAll K H (as.map V.int) (as.map PyData.int)
  | [] => .nil
  | a :: as => .cons (.int a) (ints_dpS as)
theorem ints_eqv : ∀ as bs : List Int, PyData.eqvAll (as.map PyData.int) (bs.map PyData.int) = decide (as = bs)
  | [], [] => by simp [PyData.eqvAll]
  | [], b :: bs => by simp [PyData.eqvAll]
  | a :: as, [] => by simp [PyData.eqvAll]
  | a :: as, b :: bs => by
    have ih := ints_eqv as bs
    by_cases e : a = b
    · subst e
      simp [PyData.eqvAll, PyData.eqv, ih]
    · simp [PyData.eqvAll, PyData.eqv, ih, e]
theorem eqv_lists (as bs : List Int) : PyData.eqv (.list (as.map PyData.int)) (.list (bs.map PyData.int)) = decide (as = bs) := by
  have := ints_eqv as bs
  simpa [PyData.eqv] using this
theorem ic_inj {xs ys : List Nat} : ic xs = ic ys ↔ xs = ys := ⟨fun e => (List.map_inj_right fun a b h => by omega).mp e, fun e => by rw [e]⟩
/-- two lists of people are compared -/
theorem eq_ppl {K : PySem.W.Frag} {H : Hp} {a b : Addr} {xs ys : List Nat} {Q : VK} (ha : H a = some (.lst (ppl xs))) (hb : H b = some (.lst (ppl ys))) (q : Q (.bl (decide (xs = ys))) H) : rEqD K (.ref a) (.ref b) H Q := by
  rw [ppl_ic] at ha hb
  refine ⟨_, _, .lst (SqL.of ha) (ints_dpS _), .lst (SqL.of hb) (ints_dpS _), ints_shapedS _, ints_shapedS _, ?_⟩
  rw [eqv_lists, decide_eq_decide.mpr ic_inj]
  exact q
theorem ne_ppl {K : PySem.W.Frag} {H : Hp} {a b : Addr} {xs ys : List Nat} {Q : VK} (ha : H a = some (.lst (ppl xs))) (hb : H b = some (.lst (ppl ys))) (q : Q (.bl (!decide (xs = ys))) H) : rNeD K (.ref a) (.ref b) H Q := by
  rw [ppl_ic] at ha hb
  refine ⟨_, _, .lst (SqL.of ha) (ints_dpS _), .lst (SqL.of hb) (ints_dpS _), ints_shapedS _, ints_shapedS _, ?_⟩
  rw [eqv_lists, decide_eq_decide.mpr ic_inj]
  exact q

/-! ### a plan of eights -/
def eightD (ns : List Int) (j : Nat) : PyData := .tuple [.list (((ns.drop (8 * j)).take 8).map .int), .int (((ns.drop (8 * j)).take 8).length : Int)]
def eightsD (ns : List Int) : PyData := .list ((List.range ((ns.length + 7) / 8)).map (eightD ns))
theorem eight_piece {ns : List Int} (hb : ∀ z ∈ ns, 0 ≤ z ∧ z ≤ 60) {j : Nat} (hj : 8 * j < ns.length) : isPiece (eightD ns j) = true := by
  have l : 1 ≤ ((ns.drop (8 * j)).take 8).length ∧ ((ns.drop (8 * j)).take 8).length ≤ 8 := by rw [List.length_take, List.length_drop]; omega
  have hb2 : ∀ z ∈ (ns.drop (8 * j)).take 8, 0 ≤ z ∧ z ≤ 60 := fun z hz => hb z (List.mem_of_mem_drop (List.mem_of_mem_take hz))
  unfold eightD
  generalize (ns.drop (8 * j)).take 8 = c at l hb2
  have h1 : isTurns (.list (c.map .int)) = true := by
    show (decide (1 ≤ (c.map PyData.int).length) && decide ((c.map PyData.int).length ≤ 8) && (c.map PyData.int).all isPatience) = true
    rw [List.length_map, decide_eq_true l.1, decide_eq_true l.2, Bool.true_and, Bool.true_and, List.all_eq_true]
    intro x hx
    obtain ⟨z, hz, rfl⟩ := List.mem_map.mp hx
    have := hb2 z hz
    show (decide (0 ≤ z) && decide (z ≤ GREAT)) = true
    rw [decide_eq_true this.1, decide_eq_true (by have : GREAT = 1000000000000000000000000000000 := rfl; omega)]
    rfl
  show (isTurns (.list (c.map .int)) && decide (0 ≤ (c.length : Int))) = true
  rw [h1, decide_eq_true (by omega)]
  rfl
theorem eights_cases {ns : List Int} (h1 : 1 ≤ ns.length) (h15 : ns.length ≤ 15) : (ns.length ≤ 8 ∧ eightsD ns = .list [eightD ns 0]) ∨ (8 < ns.length ∧ eightsD ns = .list [eightD ns 0, eightD ns 1]) := by
  unfold eightsD
  rcases Nat.lt_or_ge 8 ns.length with c | c
  · right
    rw [show (ns.length + 7) / 8 = 2 by omega]
    exact ⟨c, rfl⟩
  · left
    rw [show (ns.length + 7) / 8 = 1 by omega]
    exact ⟨c, rfl⟩
theorem eights_plan {ns : List Int} (h1 : 1 ≤ ns.length) (h15 : ns.length ≤ 15) (hb : ∀ z ∈ ns, 0 ≤ z ∧ z ≤ 60) : isPlan (eightsD ns) = true := by
  have hG : GREAT = 1000000000000000000000000000000 := rfl
  have p0 := eight_piece hb (j := 0) (by omega)
  have w : ∀ j, worth (sndD (eightD ns j)) = (((ns.drop (8 * j)).take 8).length : Int) := fun j => rfl
  have n0 : ∀ j, isNone (sndD (eightD ns j)) = false := fun j => rfl
  have wl : ∀ j, worth (sndD (eightD ns j)) ≤ 15 := fun j => by rw [w, List.length_take]; omega
  have w0 := wl 0
  have w1 := wl 1
  rcases eights_cases h1 h15 with ⟨c, e⟩ | ⟨c, e⟩
  · rw [e]
    show isPlanL [eightD ns 0] = true
    unfold isPlanL sumSnd
    simp only [List.length_singleton, List.all_cons, List.all_nil, p0, List.map_cons, List.map_nil, List.sum_cons, List.sum_nil]
    rw [decide_eq_true (show worth (sndD (eightD ns 0)) + 0 ≤ GREAT by omega)]
    rfl
  · have p1 := eight_piece hb (j := 1) (by omega)
    rw [e]
    show isPlanL [eightD ns 0, eightD ns 1] = true
    unfold isPlanL sumSnd
    simp only [List.length_cons, List.length_nil, List.all_cons, List.all_nil, p0, p1, List.map_cons, List.map_nil, List.sum_cons, List.sum_nil]
    rw [decide_eq_true (show worth (sndD (eightD ns 0)) + (worth (sndD (eightD ns 1)) + 0) ≤ GREAT by omega)]
    show (_ && !(isNone (sndD (eightD ns 0)) || false) && _) = true
    rw [n0]
    rfl
theorem eights_last {ns : List Int} (h1 : 1 ≤ ns.length) (h15 : ns.length ≤ 15) : ∃ ps pc, piecesOf (eightsD ns) = ps ++ [pc] ∧ pc.2.1 = some (ns.length : Int) := by
  rcases eights_cases h1 h15 with ⟨c, e⟩ | ⟨c, e⟩
  · refine ⟨[], _, by rw [e]; rfl, ?_⟩
    show some ((0 : Int) + (((ns.drop (8 * 0)).take 8).length : Int)) = _
    rw [List.length_take, List.length_drop]
    congr 1
    omega
  · refine ⟨[_], _, by rw [e]; rfl, ?_⟩
    show some ((0 : Int) + (((ns.drop (8 * 0)).take 8).length : Int) + (((ns.drop (8 * 1)).take 8).length : Int)) = _
    rw [List.length_take, List.length_drop, List.length_take, List.length_drop]
    congr 1
    omega
theorem eights_has {ns : List Int} (h15 : ns.length ≤ 15) {k : Nat} (hk : k < ns.length) : HasP (piecesOf (eightsD ns)) (k : Int) (.int ns[k]) := by
  have get : ∀ j, 8 * j ≤ k → k < 8 * j + 8 → ((((ns.drop (8 * j)).take 8).map PyData.int)[k - 8 * j]? : Option PyData) = some (.int ns[k]) := fun j a b => by
    rw [List.getElem?_map, List.getElem?_take_of_lt (by omega), List.getElem?_drop, show 8 * j + (k - 8 * j) = k by omega, List.getElem?_eq_getElem hk]
    rfl
  have len : ∀ j, 8 * j ≤ k → k < 8 * j + 8 → k - 8 * j < (((ns.drop (8 * j)).take 8).map PyData.int).length := fun j a b => (List.getElem?_eq_some_iff.mp (get j a b)).1
  rcases eights_cases (ns := ns) (by omega) h15 with ⟨c, e⟩ | ⟨c, e⟩
  · have g := get 0 (by omega) (by omega)
    have l := len 0 (by omega) (by omega)
    refine ⟨(0, some ((0 : Int) + (((ns.drop (8 * 0)).take 8).length : Int)), ((ns.drop (8 * 0)).take 8).map .int), ?_, by show 0 < (((ns.drop (8 * 0)).take 8).map PyData.int).length; omega, ?_⟩
    · rw [e]
      show List.find? (comes (k : Int)) [_] = _
      refine List.find?_cons_of_pos ?_
      show decide ((k : Int) < _) = true
      rw [List.length_map] at l
      exact decide_eq_true (by omega)
    · show (((ns.drop (8 * 0)).take 8).map PyData.int)[(((k : Int) - 0) % ((((ns.drop (8 * 0)).take 8).map PyData.int).length : Int)).toNat]? = _
      rw [Int.emod_eq_of_lt (by omega) (by omega), show ((k : Int) - 0).toNat = k - 8 * 0 by omega]
      exact g
  · by_cases ck : k < 8
    · have g := get 0 (by omega) (by omega)
      have l := len 0 (by omega) (by omega)
      refine ⟨(0, some ((0 : Int) + (((ns.drop (8 * 0)).take 8).length : Int)), ((ns.drop (8 * 0)).take 8).map .int), ?_, by show 0 < (((ns.drop (8 * 0)).take 8).map PyData.int).length; omega, ?_⟩
      · rw [e]
        show List.find? (comes (k : Int)) [_, _] = _
        refine List.find?_cons_of_pos ?_
        show decide ((k : Int) < _) = true
        rw [List.length_map] at l
        exact decide_eq_true (by omega)
      · show (((ns.drop (8 * 0)).take 8).map PyData.int)[(((k : Int) - 0) % ((((ns.drop (8 * 0)).take 8).map PyData.int).length : Int)).toNat]? = _
        rw [Int.emod_eq_of_lt (by omega) (by omega), show ((k : Int) - 0).toNat = k - 8 * 0 by omega]
        exact g
    · have g := get 1 (by omega) (by omega)
      have l := len 1 (by omega) (by omega)
      have l8 : ((ns.drop (8 * 0)).take 8).length = 8 := by rw [List.length_take, List.length_drop]; omega
      refine ⟨((0 : Int) + (((ns.drop (8 * 0)).take 8).length : Int), some ((0 : Int) + (((ns.drop (8 * 0)).take 8).length : Int) + (((ns.drop (8 * 1)).take 8).length : Int)), ((ns.drop (8 * 1)).take 8).map .int), ?_, by show 0 < (((ns.drop (8 * 1)).take 8).map PyData.int).length; omega, ?_⟩
      · rw [e]
        show List.find? (comes (k : Int)) [_, _] = _
        rw [List.find?_cons_of_neg]
        · refine List.find?_cons_of_pos ?_
          show decide ((k : Int) < _) = true
          rw [List.length_map] at l
          exact decide_eq_true (by show (k : Int) < (0 : Int) + (((ns.drop (8 * 0)).take 8).length : Int) + (((ns.drop (8 * 1)).take 8).length : Int); omega)
        · show ¬ decide ((k : Int) < (0 : Int) + (((ns.drop (8 * 0)).take 8).length : Int)) = true
          rw [decide_eq_true_eq]
          omega
      · show (((ns.drop (8 * 1)).take 8).map PyData.int)[(((k : Int) - ((0 : Int) + (((ns.drop (8 * 0)).take 8).length : Int))) % ((((ns.drop (8 * 1)).take 8).map PyData.int).length : Int)).toNat]? = _
        rw [l8, Int.emod_eq_of_lt (by omega) (by omega), show ((k : Int) - ((0 : Int) + ((8 : Nat) : Int))).toNat = k - 8 * 1 by omega]
        exact g
end CL
set_option Elab.async false
set_option linter.all false
set_option pp.maxSteps 900
set_option maxRecDepth 100000
set_option maxHeartbeats 4000000
namespace CL
open PySem PySem.Spec PyProof.Rows L2 GE
abbrev sOR : Stmt := topS 60
abbrev nOR : List Str := ["order", "made", "three", "young", "old", "between", "places", "plan", "one", "at"]
theorem scOR : FnScope nOR ["order"] (defScope sOR) := ⟨rfl, rfl, rfl, by decide +kernel, rfl, by decide +kernel, by decide +kernel⟩
theorem sl_blk {X : Cx} {s : Shared} {H : Hp} {scope : Scope} {cenv : Env} {fp : List Addr} : L2.SlR (X.blk s H scope cenv fp) (rSlL X.K) := sl_list
/-- the tables -/
structure Ts (P1 P2 P3 P4 : Addr) (H : Hp) : Prop where
  tb : Tb P1 P2 H
  t3 : GxR.TabG H P3
  t4 : GxR.TabG H P4
theorem Ts.ex {P1 P2 P3 P4 : Addr} {H H' : Hp} (t : Ts P1 P2 P3 P4 H) (x : Ex H H') : Ts P1 P2 P3 P4 H' := ⟨⟨tabG_ex t.tb.1 x, tabG_ex t.tb.2 x⟩, tabG_ex t.t3 x, tabG_ex t.t4 x⟩
theorem Ts.same {P1 P2 P3 P4 : Addr} {H H' : Hp} (t : Ts P1 P2 P3 P4 H) (s : Same H H') : Ts P1 P2 P3 P4 H' := t.ex (Ex.of s)
def spOR (P1 P2 P3 P4 : Addr) : Sp := fun vs H Q _ => ∃ (T : Addr) (ys : List Nat) (N : Nat), vs = [.ref T] ∧ H T = some (.lst (ppl ys)) ∧ ys.Perm (List.range N) ∧ N ≤ 15 ∧ Ts P1 P2 P3 P4 H ∧ ∀ H', Ex H H' → Q (.bl true) H'
theorem bars_true {ns : List Int} {y o b : Nat} (hf : Fst (plc ns) ns.length (some (y, o, b))) : barsB ns (tD (some (y, o, b))) = true := by
  obtain ⟨⟨h1, h2, h3, h4⟩, hb, _⟩ := hf
  have i1 : ∀ z : Nat, z < ns.length → inR ns.length (.int (z : Int)) = true := fun z hz => by
    show (decide (0 ≤ (z : Int)) && decide ((z : Int) < (ns.length : Int))) = true
    rw [decide_eq_true (by omega), decide_eq_true (by omega)]
    rfl
  show ((inR ns.length (.int (y : Int)) && inR ns.length (.int (o : Int)) && inR ns.length (.int (b : Int))) && barB (plc ns) ((y : Int)).toNat ((o : Int)).toNat ((b : Int)).toNat) = true
  rw [i1 y (by omega), i1 o (by omega), i1 b (by omega), Int.toNat_natCast, Int.toNat_natCast, Int.toNat_natCast, hb]
  rfl
theorem ex_new {H H1 : Hp} {p : Addr} {o : HO} (x : Ex H H1) (n : H1 p = none) : Ex H (upd H1 p o) := x.trans (Ex.of (same_upd n))
theorem sort3 {a b c : Int} (h1 : a < b) (h2 : b < c) : [a, b, c].Pairwise (· ≤ ·) := by
  simp
  omega
theorem HasP.uniq {ps : List PieceT} {n : Int} {a b : PyData} (h : HasP ps n a) (g : HasP ps n b) : a = b := by
  obtain ⟨p, h1, _, h3⟩ := h
  obtain ⟨q, g1, _, g3⟩ := g
  rw [h1] at g1
  obtain rfl := Option.some.inj g1
  rw [h3] at g3
  exact Option.some.inj g3
theorem h_idx {K : PySem.W.Frag} {H : Hp} {Q : VK} {O : Addr} {ns : List Int} {z : Nat} (eO : H O = some (.lst (ns.map V.int))) (hI : isOrderI ns = true) (hz : z < ns.length) (q : Q (.int ((plc ns).getD z 0)) H) : rIndex K (.ref O) [.int (z : Int)] H Q := by
  obtain ⟨hj, ej, no⟩ := find_at hI hz
  rw [plc_at hz] at q
  refine ⟨O, _, .int (z : Int), ns.findIdx (fun y => y == (z : Int)), .int ns[ns.findIdx (fun y => y == (z : Int))], rfl, rfl, SqL.of eO, rfl, flat_ints ns, by rw [List.getElem?_map, List.getElem?_eq_getElem hj]; rfl, ?_, fun m z' lm hz' => ?_, q⟩
  · rw [ej]
    show ((z : Int) == (z : Int)) = true
    simp
  · rw [List.getElem?_map] at hz'
    cases z2 : ns[m]? with
    | none => rw [z2] at hz'; cases hz'
    | some y =>
      rw [z2] at hz'
      cases hz'
      exact no m lm y z2
section
variable {P : Program} {w : World} {K : PySem.W.Frag} {mg : Str → Option Value} {base : Heap}
theorem ok_or {f P1 P2 P3 P4 X1 X3 X7 : Addr} {fd : FuncData} (F : Fun K "_law_order_right" "_law_order_right" sOR f fd) (T : NmO mg) (hmax : mg "max" = none) (CLQ : Cal P w K mg base 1 "_law_queue" ["patiences"] spLQ) (CL : Cal P w K mg base 7 "least_patiences" ["order"] (spLeast P3)) (CBa : Cal P w K mg base 6 "barring" ["order"] (spBarring P3))
    (CBs : Cal P w K mg base 6 "bars" ["order", "thing"] (spBars P3 P4)) (CRC : Cal P w K mg base 8 "rows_counted" ["order", "most"] (spRowsC P3)) (CQ : CalX P w K mg base 11 "queue_at" ["plan", "moment"] (spQueue P1 P2 X1 X3 X7)) : FnOk P w K mg base CX0 12 f fd ["order"] (spOR P1 P2 P3 P4) := by
  refine F.ok scOR (fun vs H Q E ⟨T, ys, N, e, _⟩ => by rw [e]; rfl) (fun cdv A' outer s H vs Q E hr h => ?_)
  obtain ⟨O, ys, N, rfl, eO, hp, hN, ts, q⟩ := h
  have nd := scOR.nd
  refine ⟨_, (pss_cons (ps_set (i := 1) nd rfl (.inr rfl) (pe_cal (CL.mono (by decide)) hr (by rfl) (pa_cons (pv 0) pa_nil)))
      (pss_cons (ps_set (i := 2) nd rfl (.inl rfl) (pe_cal (CBa.mono (by decide)) hr (by rfl) (pa_cons (pv 0) pa_nil)))
      (pss_cons (ps_if (pt_cmpR op_eq (pe_cmp (pc_isN (pv 1)) rfl) (pe_cmp (pc_isN (pv 2)) rfl) (nomark _)) (pss_one (ps_ret pe_bl)) pss_nil)
      (pss_cons (ps_if (pt_cmp (pc_isN (pv 1))) (pss_cons (ps_asg (pv 2) (pg_tup rfl (pgs_cons (pg_name (i := 3) nd rfl (.inl rfl)) (pgs_cons (pg_name (i := 4) nd rfl (.inl rfl)) (pgs_cons (pg_name (i := 5) nd rfl (.inl rfl)) pgs_nil)))))
      (pss_cons (ps_setLc (i := 6) (own := [("one", 8)]) (g := (gName 8)) (tt := tYes) rfl nd rfl rfl (sw_true rfl rfl rfl (by decide +kernel)) (pi_tup (pv 2)) (blkOk_by (own := [("one", 8)]) (N := nOR) (sc := (defScope sOR)) (by decide +kernel)) (fun _ _ _ _ _ => (pg_name (i := 8) nd rfl (.inl rfl))) (fun _ _ _ _ _ => pts_nil) (fun _ _ _ _ _ => (index_blk (pv 0) (pa_cons (pv 8) pa_nil))))
      (pss_one (ps_ret (pe_and (pe_chain op_lt op_lt (pv 4) (pv 5) (pv 3)) (pe_and (pe_cmpR (op_eqD hr.units) (pv 6) (pe_callB cr_sortedX (by rfl) T.sorted (by decide +kernel) (pa_cons (pv 6) pa_nil)) (nomark _)) (pe_one (pe_cmpR op_isBl (pe_cal (CBs.mono (by decide)) hr (by rfl) (pa_cons (pv 0) (pa_cons (pv 2) pa_nil))) pe_bl (nomark _))))))))) pss_nil)
      (pss_cons (ps_if (PW.pt (pw_or (pt_cmpR (op_neD hr.units) (pe_cal (CLQ.mono (by decide)) hr (by rfl) (pa_cons (pv 1) pa_nil)) (pv 0) (nomark _)) (pw_or1 (pt_cmpR op_lt (pe_cal (CRC.mono (by decide)) hr (by rfl) (pa_cons (pv 0) (pa_cons (pe_callB (cr_max rfl) (by rfl) hmax (by decide +kernel) (pa_cons (pe_op op_cat (pv 1) (pe_lst (pa_cons pe_int pa_nil))) pa_nil)) pa_nil))) pe_int (nomark _))))) (pss_one (ps_ret pe_bl)) pss_nil)
      (pss_cons (ps_setLc (i := 7) (own := [("at", 9)]) (g := (gName 9)) (tt := tYes) rfl nd rfl rfl (sw_true rfl rfl rfl (by decide +kernel)) (pi_range3 (by rfl) T.range (pa_cons pe_int (pa_cons (pe_callB call_len_seq (by rfl) T.len PySem.boot_len (pa_cons (pv 1) pa_nil)) (pa_cons pe_int pa_nil)))) (blkOk_by (own := [("at", 9)]) (N := nOR) (sc := (defScope sOR)) (by decide +kernel)) (fun _ _ _ _ _ => (pg_name (i := 9) nd rfl (.inl rfl))) (fun _ _ _ _ _ => pts_nil) (fun _ _ _ _ _ => (pe_tup (pa_cons (pe_slice sl_blk (pv 1) (po_some (pv 9)) (po_some (pe_op op_add (pv 9) pe_int))) (pa_cons (pe_callB len_blk (by rfl) T.len PySem.boot_len (pa_cons (pe_slice sl_blk (pv 1) (po_some (pv 9)) (po_some (pe_op op_add (pv 9) pe_int))) pa_nil)) pa_nil)))))
      (pss_one (ps_ret (pe_or (pe_cmpR (op_eqD hr.units) (pv 1) (pe_lst pa_nil) (nomark _)) (pe_one (pe_cmpR (op_eqD hr.units) (pe_calX (CQ.mono (by decide)) hr (by rfl) (passes_call takes0 fun _ _ _ _ h => h) (pa_cons (pv 7) (pa_cons (pe_callB call_len_seq (by rfl) T.len PySem.boot_len (pa_cons (pv 1) pa_nil)) pa_nil))) (pv 0) (nomark _))))))))))))
, ?_⟩
  have hI := ord_ic hp
  have ly : ys.length = N := by rw [hp.length_eq, List.length_range]
  have lI : (ic ys).length = N := by rw [ic_len, ly]
  have hl60 : (ic ys).length ≤ 60 := by omega
  have oV : ∀ {H' : Hp}, H' O = some (.lst (ppl ys)) → OrdV H' (.ref O) (ic ys) := fun {H'} e => .inl (.lst (by rw [e, ppl_ic]) (rp_intsA _))
  refine ⟨.ref O, rfl, .ref O, ic ys, rfl, oV eO, hI, hl60, ts.t3, fun t u H1 hF x1 t31 hL => ?_⟩
  have eO1 := x1.lst eO
  have ts1 := ts.ex x1
  dsimp only [gName]
  show tSeq _ _ _ [some (.ref O), some u, none, none, none, none, none, none, none, none] H1
  refine ⟨.ref O, rfl, .ref O, ic ys, rfl, oV eO1, hI, hl60, ts1.t3, fun t2 u2 H2 hF2 x2 t32 rp => ?_⟩
  obtain rfl := hF.uniq hF2
  have eO2 := x2.lst eO1
  have ts2 := ts1.ex x2
  have x02 := x1.trans x2
  dsimp only [gName]
  show tSeq _ _ _ [some (.ref O), some u, some u2, none, none, none, none, none, none, none] H2
  cases t with
  | some tt =>
    obtain ⟨y, o, b⟩ := tt
    obtain rfl := hL.1 (fun z => by cases z)
    cases rp with
    | tup e3 hA =>
      rename_i p3 xs3
      cases hA with
      | cons h1 hA =>
      cases hA with
      | cons h2 hA =>
      cases hA with
      | cons h3 hA =>
      cases hA
      cases h1
      cases h2
      cases h3
      obtain ⟨⟨hy, ho, hob, hby⟩, hbar, _⟩ := id hF
      have hbar2 := hbar
      rw [barB_in hob hby, Bool.and_eq_true, decide_eq_true_eq, decide_eq_true_eq] at hbar2
      obtain ⟨hp1, hp2⟩ := hbar2
      refine ⟨.non, rfl, .ref p3, rfl, rfl, _, rfl, ?_⟩
      dsimp only []
      rw [if_neg (by simp)]
      dsimp only [tNext]
      show tSeq _ _ _ [some (.ref O), some .non, some (.ref p3), none, none, none, none, none, none, none] H2
      refine ⟨.non, rfl, _, rfl, ?_⟩
      dsimp only
      rw [if_pos (by simp)]
      refine ⟨.ref p3, rfl, p3, _, rfl, SqT.of e3, rfl, .int (y : Int), _, rfl, .int (o : Int), _, rfl, .int (b : Int), _, rfl, rfl, ?_⟩
      dsimp only [gName]
      show tSeq _ _ _ [some (.ref O), some .non, some (.ref p3), some (.int (y : Int)), some (.int (o : Int)), some (.int (b : Int)), none, none, none, none] H2
      refine ⟨.ref p3, rfl, p3, rfl, ⟨_, SqT.of e3⟩, fun D nD => ?_⟩
      have lp := plc_len (ic ys)
      refine lc_tup (K := K) (a := p3) (xs := [V.int (y : Int), .int (o : Int), .int (b : Int)]) (fun k H3 => Same H2 H3 ∧ H3 D = some (.lst (([(plc (ic ys)).getD y 0, (plc (ic ys)).getD o 0, (plc (ic ys)).getD b 0].take k).map V.int)))
        ⟨same_upd nD, upd_same⟩ (fun k H3 _ ⟨s3, _⟩ => SqT.of (s3 _ _ e3)) (fun k x H3 hx ⟨s3, eD⟩ => ?_) (fun H3 ⟨s3, eD⟩ => ?_)
      · have eO3 : H3 O = some (.lst ((ic ys).map V.int)) := by rw [s3 _ _ eO2, ppl_ic]
        refine ⟨rfl, yesT ⟨.ref O, rfl, .inl ⟨rfl, _, SqL.of eO3⟩, x, rfl, ?_⟩⟩
        have put : ∀ {u : Int} {k : Nat}, H3 D = some (.lst (([(plc (ic ys)).getD y 0, (plc (ic ys)).getD o 0, (plc (ic ys)).getD b 0].take k).map V.int)) → [(plc (ic ys)).getD y 0, (plc (ic ys)).getD o 0, (plc (ic ys)).getD b 0][k]? = some u → k ≤ 3 →
            ∃ acc, H3 D = some (.lst acc) ∧ acc.length < sizeLine ∧ Same H2 (upd H3 D (.lst (acc ++ [.int u]))) ∧ (upd H3 D (.lst (acc ++ [.int u]))) D = some (.lst (([(plc (ic ys)).getD y 0, (plc (ic ys)).getD o 0, (plc (ic ys)).getD b 0].take (k + 1)).map V.int)) := fun {u k} e h hk =>
          ⟨_, e, small1000 (by rw [List.length_map, List.length_take]; omega), fun c ob ec => by rw [upd_ne (fun z => by rw [z, nD] at ec; cases ec)]; exact s3 c ob ec, by rw [upd_same, List.take_add_one, h, List.map_append]; rfl⟩
        have hk3 : k < 3 := (List.getElem?_eq_some_iff.mp hx).1
        rcases (show k = 0 ∨ k = 1 ∨ k = 2 by omega) with rfl | rfl | rfl
        · obtain rfl : V.int (y : Int) = x := Option.some.inj hx
          dsimp only [tNil]
          exact h_idx (K := K) eO3 hI (by omega) (put eD rfl (by decide))
        · obtain rfl : V.int (o : Int) = x := Option.some.inj hx
          dsimp only [tNil]
          exact h_idx (K := K) eO3 hI (by omega) (put eD rfl (by decide))
        · obtain rfl : V.int (b : Int) = x := Option.some.inj hx
          dsimp only [tNil]
          exact h_idx (K := K) eO3 hI (by omega) (put eD rfl (by decide))
      · dsimp only [gName]
        show tRet _ _ [some (.ref O), some .non, some (.ref p3), some (.int (y : Int)), some (.int (o : Int)), some (.int (b : Int)), some (.ref D), none, none, none] H3
        refine ⟨.int (o : Int), rfl, .int (b : Int), rfl, (o : Int), (b : Int), rfl, rfl, decide ((o : Int) < (b : Int)), rfl, ?_⟩
        rw [decide_eq_true (by omega)]
        refine iteT ⟨.int (y : Int), rfl, (b : Int), (y : Int), rfl, rfl, ?_⟩
        refine ⟨_, rfl, ?_⟩
        rw [decide_eq_true (by omega : (b : Int) < (y : Int))]
        rw [if_pos rfl]
        have eDi : H3 D = some (.lst ([(plc (ic ys)).getD y 0, (plc (ic ys)).getD o 0, (plc (ic ys)).getD b 0].map V.int)) := eD
        refine ⟨.ref D, rfl, .ref D, rfl, D, [(plc (ic ys)).getD y 0, (plc (ic ys)).getD o 0, (plc (ic ys)).getD b 0], rfl, .inl (SqL.of eDi), by show 3 < 64; decide, fun ms p4 hperm hsort np4 => ?_⟩
        have hms : ms = [(plc (ic ys)).getD y 0, (plc (ic ys)).getD o 0, (plc (ic ys)).getD b 0] := sorted_uniq hperm hsort (sort3 hp1 hp2)
        subst hms
        have s5 : Same H3 (upd H3 p4 (.lst ([(plc (ic ys)).getD y 0, (plc (ic ys)).getD o 0, (plc (ic ys)).getD b 0].map V.int))) := same_upd np4
        refine ⟨_, _, .lst (SqL.of (s5 _ _ eDi)) (ints_dpS _), .lst (SqL.of upd_same) (ints_dpS _), ints_shapedS _, ints_shapedS _, ?_⟩
        rw [eqv_lists, decide_eq_true rfl]
        refine ⟨_, rfl, ?_⟩
        rw [if_pos rfl]
        have s25 := s3.trans s5
        have ts5 := ts2.same s25
        refine ⟨.ref O, rfl, .ref p3, rfl, .ref O, .ref p3, ic ys, tD (some (y, o, b)), rfl, oV (s25 _ _ eO2), hI, hl60, .tup (s25 _ _ e3) (.cons (.int _) (.cons (.int _) (.cons (.int _) .nil))), ts5.t3, ts5.t4, fun H5 x5 t35 t45 => ?_⟩
        rw [bars_true hF]
        exact ⟨true, true, rfl, rfl, q H5 ((x02.trans (Ex.of s25)).trans x5)⟩
  | none =>
    obtain ⟨L, rfl, nL, eL⟩ := hL.2 rfl
    cases rp
    have eL2 := x2.lst eL
    have lL := leastF_len (ic ys)
    have hin := fun (x : Int) (hx : x ∈ leastF (ic ys)) => leastF_in hx
    have mk := unb_makes hp hF
    have hlsO : lsO ys = (leastF (ic ys)).map some := rfl
    refine ⟨.ref L, rfl, .non, rfl, rfl, _, rfl, ?_⟩
    dsimp only []
    rw [if_neg (by simp)]
    dsimp only [tNext]
    show tSeq _ _ _ [some (.ref O), some (.ref L), some .non, none, none, none, none, none, none, none] H2
    refine ⟨.ref L, rfl, _, rfl, ?_⟩
    dsimp only
    rw [if_neg (by simp)]
    dsimp only [tNext]
    show tSeq _ _ _ [some (.ref O), some (.ref L), some .non, none, none, none, none, none, none, none] H2
    have hrows : ∀ most, (∀ x ∈ leastF (ic ys), x ≤ most) → 1 ≤ rowsF (ic ys) most := fun most h => rows_pos hF h
    generalize leastF (ic ys) = ms at eL2 lL hin hlsO hrows
    rw [hlsO] at mk
    have lms : ms.length ≤ 15 := by omega
    refine ⟨.ref L, rfl, L, ms, rfl, eL2, by omega, fun x hx => (hin x hx).1, fun T1 H3 s3 nT1 eT1 => ⟨.ref O, rfl, ne_ppl eT1 (s3 _ _ eO2) ?_⟩⟩
    rw [mk]
    refine ⟨_, rfl, ?_⟩
    dsimp only
    rw [if_neg (by simp)]
    have eL3 := s3 _ _ eL2
    have eO3 := s3 _ _ eO2
    have ts3 := ts2.same s3
    have x03 := x02.trans (Ex.of s3)
    have lmI : (ms.map V.int).length = ms.length := List.length_map ..
    clear eL2 eO2 ts2 x02 eT1 nT1
    refine ⟨.ref O, rfl, .ref L, rfl, small_le (by show 1 ≤ 1000; decide), fun p np => ?_⟩
    have s4 : Same H3 (upd H3 p (.lst [.int 0])) := same_upd np
    refine ⟨L, p, _, _, rfl, rfl, s4 _ _ eL3, upd_same, small_add (by rw [lmI]; omega) (by show 1 ≤ 1000; decide), fun p2 np2 => ?_⟩
    have s5 : Same H3 (upd (upd H3 p (.lst [.int 0])) p2 (.lst (ms.map V.int ++ [.int 0]))) := s4.trans (same_upd np2)
    have e5 : (upd (upd H3 p (.lst [.int 0])) p2 (.lst (ms.map V.int ++ [.int 0]))) p2 = some (.lst ((ms ++ [0]).map V.int)) := by rw [upd_same, List.map_append]; rfl
    generalize upd (upd H3 p (.lst [.int 0])) p2 (.lst (ms.map V.int ++ [.int 0])) = H5 at s5 e5 ⊢
    refine ⟨p2, ms ++ [0], rfl, SqL.of e5, by rw [List.length_append]; show 0 < _ + 1; omega, fun M hM hle => ?_⟩
    have hM0 : 0 ≤ M := hle 0 (List.mem_append_right _ List.mem_cons_self)
    have hM60 : M ≤ 1000000000000000000 := by
      rcases List.mem_append.mp hM with h | h
      · have := (hin M h).2; omega
      · rw [List.mem_singleton.mp h]; decide
    have eO5 := s5 _ _ eO3
    refine ⟨.ref O, ic ys, M, rfl, oV eO5, hI, hl60, hM0, hM60, (ts3.same s5).t3, fun H6 x6 t36 => ⟨rowsF (ic ys) M, 1, rfl, rfl, decide (rowsF (ic ys) M < 1), rfl, ?_⟩⟩
    rw [decide_eq_false (by have := hrows M fun x hx => hle x (List.mem_append_left _ hx); omega)]
    dsimp only
    rw [if_neg (by decide)]
    have ts6 := (ts3.same s5).ex x6
    have eL6 := x6.lst (s5 _ _ eL3)
    have eO6 := x6.lst eO5
    have x06 := (x03.trans (Ex.of s5)).trans x6
    clear ts3 s5 e5 eL3 eO3 eO5 x03 s4 x6 t36
    dsimp only [tNext]
    show tSeq _ _ _ [some (.ref O), some (.ref L), some .non, none, none, none, none, none, none, none] H6
    obtain ⟨g1, g2⟩ := rg8 ⟨ms.length, by omega⟩
    refine ⟨.ref L, rfl, L, _, rfl, .inl (SqL.of eL6), 0, _, 8, (ms.length + 7) / 8, rfl, ⟨by decide, by decide, by rw [lmI]; exact g1, by rw [lmI]; exact g2⟩, fun D hD => ?_⟩
    refine lcC (lo := 0) (c := 8) (n := (ms.length + 7) / 8) (fun i H7 => ∃ acc, H7 D = some (.lst acc) ∧ acc.length = i ∧ Same H6 H7 ∧ RpAll (Hw (fun b => b = D) H7) acc ((List.range i).map (eightD ms))) ⟨[], upd_same, rfl, same_upd hD, .nil⟩ (fun i H7 hi ⟨acc, e7, l7, s7, rp7⟩ => ?_) (fun H7 ⟨acc, e7, l7, s7, rp7⟩ => ?_)
    · have ek : (0 : Int) + (i : Nat) * 8 = ((8 * i : Nat) : Int) := by omega
      rw [ek]
      have eL7 := s7 _ _ eL6
      have hi' : i < (ms.length + 7) / 8 := hi
      refine ⟨rfl, yesT ⟨.ref L, rfl, .int ((8 * i : Nat) : Int), rfl, ((8 * i : Nat) : Int), rfl, .int ((8 * i : Nat) : Int), rfl, ((8 * i : Nat) : Int), 8, rfl, rfl, ((8 * i + 8 : Nat) : Int), rfl, L, ms.map V.int, rfl, SqL.of eL7, fun p np => ?_⟩⟩
      rw [cut_eight]
      have s8 := same_upd (o := .lst (((ms.drop (8 * i)).take 8).map V.int)) np
      have ep8 : (upd H7 p (.lst (((ms.drop (8 * i)).take 8).map V.int))) p = some (.lst (((ms.drop (8 * i)).take 8).map V.int)) := upd_same
      have pD : p ≠ D := fun z => by rw [z, e7] at np; cases np
      have eL8 := s8 _ _ eL7
      have e8 := s8 _ _ e7
      have rp8 := RpAll.sm (Same.hw (W := fun b => b = D) s8) rp7
      have s68 := s7.trans s8
      generalize upd H7 p (.lst (((ms.drop (8 * i)).take 8).map V.int)) = H8 at s8 ep8 eL8 e8 rp8 s68 ⊢
      refine ⟨.ref L, rfl, .int ((8 * i : Nat) : Int), rfl, ((8 * i : Nat) : Int), rfl, .int ((8 * i : Nat) : Int), rfl, ((8 * i : Nat) : Int), 8, rfl, rfl, ((8 * i + 8 : Nat) : Int), rfl, L, ms.map V.int, rfl, SqL.of eL8, fun p' np' => ?_⟩
      rw [cut_eight]
      have s9 := same_upd (o := .lst (((ms.drop (8 * i)).take 8).map V.int)) np'
      have ep9 : (upd H8 p' (.lst (((ms.drop (8 * i)).take 8).map V.int))) p' = some (.lst (((ms.drop (8 * i)).take 8).map V.int)) := upd_same
      have ep9' := s9 _ _ ep8
      have e9 := s9 _ _ e8
      have rp9 := RpAll.sm (Same.hw (W := fun b => b = D) s9) rp8
      have s69 := s68.trans s9
      generalize upd H8 p' (.lst (((ms.drop (8 * i)).take 8).map V.int)) = H9 at s9 ep9 ep9' e9 rp9 s69 ⊢
      refine ⟨p', _, rfl, .inl (SqL.of ep9), small_le (by show 2 ≤ 1000; decide), fun t' nt => ?_⟩
      rw [List.length_map]
      have tD : t' ≠ D := fun z => by rw [z, e9] at nt; cases nt
      have s10 := same_upd (o := .tup [.ref p, .int (((ms.drop (8 * i)).take 8).length : Int)]) nt
      have et10 : (upd H9 t' (.tup [.ref p, .int (((ms.drop (8 * i)).take 8).length : Int)])) t' = some (.tup [.ref p, .int (((ms.drop (8 * i)).take 8).length : Int)]) := upd_same
      refine ⟨acc, s10 _ _ e9, by rw [l7]; exact small1000 (by omega), acc ++ [.ref t'], upd_same, by rw [List.length_append, l7]; rfl, fun b ob e => by rw [upd_ne (fun z => by rw [z, hD] at e; cases e)]; exact (s69.trans s10) b ob e, ?_⟩
      rw [hw_upd (W := fun b => b = D) (a := D) rfl, List.range_succ, List.map_append]
      exact (RpAll.sm (Same.hw s10) rp9).snoc (.tup (by rw [Hw.at (W := fun b => b = D) tD]; exact et10) (.cons (.lst (by rw [Hw.at (W := fun b => b = D) pD]; exact s10 _ _ ep9') (rp_intsA _)) (.cons (.int _) .nil)))
    · have eL7 := s7 _ _ eL6
      have eO7 := s7 _ _ eO6
      have ts7 := ts6.same s7
      have x07 := x06.trans (Ex.of s7)
      have rpD : Rp H7 (.ref D) (eightsD ms) := .lst e7 (RpAll.sm (Hw.sub _ _) rp7)
      dsimp only [gName]
      show tRet _ _ [some (.ref O), some (.ref L), some .non, none, none, none, none, some (.ref D), none, none] H7
      refine ⟨.ref L, rfl, Nat.zero_le _, fun p np => ?_⟩
      have s8 : Same H7 (upd H7 p (.lst [])) := same_upd np
      refine ⟨_, _, .lst (SqL.of (s8 _ _ eL7)) (ints_dpS ms), .lst (SqL.of upd_same) (ints_dpS []), ints_shapedS _, ints_shapedS [], ?_⟩
      rw [eqv_lists]
      refine ⟨_, rfl, ?_⟩
      by_cases hnil : ms = []
      · rw [decide_eq_true hnil, if_pos rfl]
        exact q _ (x07.trans (Ex.of s8))
      · rw [decide_eq_false hnil, if_neg (by decide)]
        have h1 : 1 ≤ ms.length := by
          have := List.length_pos_iff.mpr hnil
          omega
        have hpl := eights_plan h1 lms fun z hz => by have := hin z hz; omega
        obtain ⟨ps, pc, epl, epc⟩ := eights_last h1 lms
        have hmo : momentOk pc.2.1 (.int (ms.length : Int)) = true := by
          rw [momentOk_int, epc]
          show (decide (0 ≤ (ms.length : Int)) && decide ((ms.length : Int) ≤ GREAT) && decide ((ms.length : Int) ≤ (ms.length : Int))) = true
          rw [decide_eq_true (by omega), decide_eq_true (by have : GREAT = 1000000000000000000000000000000 := rfl; omega), decide_eq_true (Int.le_refl _)]
          rfl
        refine ⟨.ref D, rfl, .ref L, rfl, L, _, rfl, .inl (SqL.of (s8 _ _ eL7)), ?_⟩
        rw [lmI]
        refine ⟨.ref D, .int (ms.length : Int), eightsD ms, .int (ms.length : Int), rfl, Rp.sm s8 rpD, .int _, (ts7.same s8).tb, ⟨fun z => (by rw [hpl] at z; cases z), fun _ => ⟨ps, pc, epl, fun z => (by rw [hmo] at z; cases z), fun _ => ⟨ms.length, rfl, fun z => (by omega), fun _ pat hpat L1 H9 x9 t9 n9 l9 => ?_⟩⟩⟩⟩
        rw [lined_lin (ps := ms.map some) ms.length fun k hk => by
          have h2 := (hpat k hk).uniq (eights_has lms hk)
          rw [List.getD_eq_getElem?_getD, List.getElem?_map, List.getElem?_eq_getElem hk]
          cases hpk : pat k with
          | none => rw [hpk] at h2; cases h2
          | some v =>
            rw [hpk] at h2
            have h2 : PyData.int v = .int ms[k] := h2
            cases h2
            rfl] at l9
        have hqf : (lin (ms.map some) ms.length).1 = ys := by
          rw [← mk]
          unfold queueF
          rw [List.length_map]
        rw [hqf] at l9
        refine ⟨.ref O, rfl, eq_ppl (by rw [l9, ppl_ic]) (x9.lst (s8 _ _ eO7)) ?_⟩
        rw [decide_eq_true rfl]
        exact q H9 ((x07.trans (Ex.of s8)).trans x9)
end
end CL
set_option Elab.async false
set_option linter.all false
set_option pp.maxSteps 900
set_option maxRecDepth 100000
set_option maxHeartbeats 4000000
namespace CL
open PySem PySem.Spec PyProof.Rows L2 GE
def deedD : Deed → PyData
  | .come p => .tuple [.str "come", optD p]
  | .serve => .tuple [.str "serve"]
theorem deeds_rp {H : Hp} : ∀ {ws : List V} {ds : List Deed}, All2 (DeedV H) ws ds → RpAll H ws (ds.map deedD)
  | _, _, .nil => .nil
  | _, d :: _, .cons h t => by
    refine .cons ?_ (deeds_rp t)
    cases d with
    | come p =>
      obtain ⟨t, rfl, e⟩ := h
      exact .tup e (.cons (.str _) (.cons (rp_opt2 p) .nil))
    | serve =>
      obtain ⟨t, rfl, e⟩ := h
      exact .tup e (.cons (.str _) .nil)
def OkD (d : Deed) : Prop := ∀ p, d = .come p → isPatience (optD p) = true
theorem deed_is {d : Deed} (h : OkD d) : toDeed (deedD d) = d ∧ (isComD (deedD d) = true ↔ ∃ p, d = .come p) ∧ (d = .serve → isDeedD (deedD d) "serve" 1 = true) := by
  cases d with
  | serve =>
    have h1 : isComD (deedD .serve) = false := by decide +kernel
    exact ⟨by unfold toDeed; rw [h1]; rfl, ⟨(fun z => by rw [h1] at z; cases z), (fun ⟨p, z⟩ => by cases z)⟩, fun _ => by decide +kernel⟩
  | come p =>
    have hp := h p rfl
    have h0 : headIs "come" [.str "come", optD p] = true := by
      show decide (("come" : Str) = "come") = true
      exact decide_eq_true rfl
    have h1 : isComD (deedD (.come p)) = true := by
      show ((decide (2 = 2) && headIs "come" [.str "come", optD p]) && isPatience (optD p)) = true
      rw [h0, hp]
      rfl
    have h2 : patOf (optD p) = p := by cases p <;> rfl
    refine ⟨?_, ⟨fun _ => ⟨p, rfl⟩, fun _ => h1⟩, fun z => by cases z⟩
    unfold toDeed
    rw [if_pos h1]
    show Deed.come (patOf (optD p)) = _
    rw [h2]
theorem stand_deeds : ∀ (es ds : List Deed), Vd (ds ++ es) → (∀ d ∈ es, OkD d) → (standF (es.map deedD) (stF ds).xs.length).isSome = true
  | [], ds, _, _ => rfl
  | e :: es, ds, hv, ho => by
    have he := ho e List.mem_cons_self
    obtain ⟨h1, h2, h3⟩ := deed_is he
    have hv1 : Vd ((ds ++ [e]) ++ es) := by
      have z : ds ++ e :: es = (ds ++ [e]) ++ es := by simp
      rw [← z]; exact hv
    have ih := stand_deeds es (ds ++ [e]) hv1 fun d hd => ho d (List.mem_cons_of_mem _ hd)
    have hds : Vd ds := hv.pre
    have ok := hds.ok
    rw [List.map_cons]
    unfold standF
    cases e with
    | come p =>
      rw [if_pos (h2.mpr ⟨p, rfl⟩)]
      have : (stF (ds ++ [.come p])).xs.length = (stF ds).xs.length + 1 := by
        rw [stF_snoc]
        obtain ⟨g1, _⟩ := goes_le (stF ds).rs.length (stF ds).rs
        have := ok.len
        show (_ ++ _ :: _).length = _
        rw [List.length_append, List.length_cons, List.length_take, List.length_drop]
        omega
      rw [← this]
      exact ih
    | serve =>
      rw [if_neg (fun z => by obtain ⟨p, q⟩ := h2.mp z; cases q), if_pos (h3 rfl)]
      have hx : (stF ds).xs ≠ [] := hv1.pre.last
      have hl : 0 < (stF ds).xs.length := List.length_pos_iff.mpr hx
      rw [if_pos hl]
      have : (stF (ds ++ [.serve])).xs.length = (stF ds).xs.length - 1 := by
        rw [stF_snoc]
        show (stF ds).xs.tail.length = _
        rw [List.length_tail]
      rw [← this]
      exact ih
theorem map_toDeed : ∀ ds : List Deed, (∀ d ∈ ds, OkD d) → (ds.map deedD).map toDeed = ds
  | [], _ => rfl
  | d :: ds, h => by
    rw [List.map_cons, List.map_cons, (deed_is (h d List.mem_cons_self)).1, map_toDeed ds fun e he => h e (List.mem_cons_of_mem _ he)]
theorem Flds.hist {fs : List (Str × V)} {L : LnA} (h : Flds fs L) : fs.lookup ("history" : Str) = none := h.no _ (by decide +kernel) (by decide +kernel) (by decide +kernel) (by decide +kernel) (by decide +kernel)

/-! ### a line, and what is kept beside it -/
structure Kst (H0 : Hp) (C r : Addr) (L : LnA) (s : LS) (K G : Addr) (as : List Addr) (xs : List Nat) (l : List (Option Int)) (H : Hp) : Prop where
  ln : LineAt C H L s
  re : ReelAt H r
  mv : Mv r H0 H
  eK : H K = some (.lst (as.map V.ref))
  eG : ∃ gs, H G = some (.lst gs) ∧ gs.length ≤ s.sv.length
  la : as.length = xs.length
  ll : l.length = xs.length
  at_ : ∀ (i : Nat) (a : Addr) (x : Nat) (o : Option Int), as[i]? = some a → xs[i]? = some x → l[i]? = some o → H a = some (.lst [.int (x : Int), optV o])
  nd : (K :: G :: as).Nodup
  n0 : ∀ b ∈ K :: G :: as, H0 b = none
  nl : ∀ b ∈ K :: G :: as, ¬ L.has b
  lL : ∀ b, L.has b → H0 b = none
  r0 : H0 r ≠ none
section
variable {H0 H H' : Hp} {C r : Addr} {L : LnA} {s s' : LS} {K G : Addr} {as : List Addr} {xs : List Nat} {l : List (Option Int)}
theorem Kst.rne (k : Kst H0 C r L s K G as xs l H) {b : Addr} (hb : b ∈ K :: G :: as) : b ≠ r := fun z => k.r0 (by rw [← z]; exact k.n0 b hb)
theorem Kst.rL (k : Kst H0 C r L s K G as xs l H) : ¬ L.has r := fun z => k.r0 (k.lL r z)
theorem Kst.old (k : Kst H0 C r L s K G as xs l H) {b : Addr} {o : HO} (e : H0 b = some o) (ne : b ≠ r) : H b = some o := k.mv.keep b o ne e
theorem Kst.same (k : Kst H0 C r L s K G as xs l H) (m : Same H H') : Kst H0 C r L s K G as xs l H' :=
  ⟨k.ln.same m, k.re.same m, k.mv.trans (Mv.of m), m _ _ k.eK, (by obtain ⟨gs, e, h⟩ := k.eG; exact ⟨gs, m _ _ e, h⟩), k.la, k.ll, fun i a x o h1 h2 h3 => m _ _ (k.at_ i a x o h1 h2 h3), k.nd, k.n0, k.nl, k.lL, k.r0⟩
theorem Kst.reel (k : Kst H0 C r L s K G as xs l H) (re : ReelAt H' r) (m : Mv r H H') : Kst H0 C r L s K G as xs l H' :=
  ⟨k.ln.kx fun b o hb e => m.keep b o (fun z => by
      rcases hb with hb | hb
      · exact k.rL (by rw [← z]; exact hb)
      · obtain ⟨f, st, er, _⟩ := k.re.ex
        rw [z, er] at e
        cases e
        exact hb _ rfl) e, re, k.mv.trans m, m.keep _ _ (k.rne (by simp)) k.eK, (by obtain ⟨gs, e, h⟩ := k.eG; exact ⟨gs, m.keep _ _ (k.rne (by simp)) e, h⟩), k.la, k.ll,
    fun i a x o h1 h2 h3 => m.keep _ _ (k.rne (by simp [List.mem_of_getElem? h1])) (k.at_ i a x o h1 h2 h3), k.nd, k.n0, k.nl, k.lL, k.r0⟩
/-- the line alone goes on -/
theorem Kst.line (k : Kst H0 C r L s K G as xs l H) (ln : LineAt C H' L s') (m : MvL L H H') (hs : s.sv.length ≤ s'.sv.length) : Kst H0 C r L s' K G as xs l H' := by
  obtain ⟨f, st, er, h⟩ := k.re.ex
  refine ⟨ln, ⟨f, st, m.keep _ _ k.rL er, h⟩, ⟨fun b o ne e => m.keep _ _ (fun z => by rw [k.lL b z] at e; cases e) (k.mv.keep b o ne e)⟩, m.keep _ _ (k.nl K (by simp)) k.eK, ?_, k.la, k.ll, fun i a x o h1 h2 h3 => m.keep _ _ (k.nl a (by simp [List.mem_of_getElem? h1])) (k.at_ i a x o h1 h2 h3), k.nd, k.n0, k.nl, k.lL, k.r0⟩
  obtain ⟨gs, e, hg⟩ := k.eG
  exact ⟨gs, m.keep _ _ (k.nl G (by simp)) e, Nat.le_trans hg hs⟩
/-- one of those kept is changed -/
theorem Kst.upd1 (k : Kst H0 C r L s K G as xs l H) {b : Addr} {vs : List V} (hb : b ∈ K :: G :: as) (h1 : LineAt C (upd H b (.lst vs)) L s ∧ ReelAt (upd H b (.lst vs)) r ∧ Mv r H0 (upd H b (.lst vs)) → True) : LineAt C (upd H b (.lst vs)) L s ∧ ReelAt (upd H b (.lst vs)) r ∧ Mv r H0 (upd H b (.lst vs)) := by
  refine ⟨k.ln.kx fun c o hc e => ?_, ?_, ⟨fun c o ne e => ?_⟩⟩
  · have : c ≠ b := fun z => by
      rcases hc with hc | hc
      · exact k.nl b hb (by rw [← z]; exact hc)
      · rcases List.mem_cons.mp hb with y | y
        · rw [z, y, k.eK] at e; cases e; exact hc _ rfl
        · rcases List.mem_cons.mp y with y | y
          · obtain ⟨gs, e2, _⟩ := k.eG
            rw [z, y, e2] at e; cases e; exact hc _ rfl
          · obtain ⟨i, hi⟩ := List.getElem?_of_mem y
            have hil := (List.getElem?_eq_some_iff.mp hi).1
            rw [z, k.at_ i b _ _ hi (List.getElem?_eq_getElem (by rw [← k.la]; exact hil)) (List.getElem?_eq_getElem (by rw [k.ll, ← k.la]; exact hil))] at e
            cases e
            exact hc _ rfl
    rw [upd_ne this]
    exact e
  · obtain ⟨f, st, er, h⟩ := k.re.ex
    exact ⟨f, st, by rw [upd_ne (Ne.symm (k.rne hb))]; exact er, h⟩
  · rw [upd_ne fun z => by rw [z, k.n0 b hb] at e; cases e]
    exact k.mv.keep c o ne e
theorem Kst.setA (k : Kst H0 C r L s K G as xs l H) {i : Nat} {a : Addr} {x : Nat} {v : Option Int} (hi : as[i]? = some a) (hx : xs[i]? = some x) : Kst H0 C r L s K G as xs (l.set i v) (upd H a (.lst [.int (x : Int), optV v])) := by
  have hm : a ∈ K :: G :: as := by simp [List.mem_of_getElem? hi]
  obtain ⟨h1, h2, h3⟩ := k.upd1 (vs := [.int (x : Int), optV v]) hm fun _ => trivial
  have nd := k.nd
  obtain ⟨n1, nd2⟩ := List.nodup_cons.mp nd
  obtain ⟨n2, nd3⟩ := List.nodup_cons.mp nd2
  have aK : K ≠ a := fun z => n1 (by rw [z]; simp [List.mem_of_getElem? hi])
  have aG : G ≠ a := fun z => n2 (by rw [z]; exact List.mem_of_getElem? hi)
  refine ⟨h1, h2, h3, by rw [upd_ne aK]; exact k.eK, ?_, k.la, by rw [List.length_set]; exact k.ll, fun j b y o g1 g2 g3 => ?_, k.nd, k.n0, k.nl, k.lL, k.r0⟩
  · obtain ⟨gs, e, hg⟩ := k.eG
    exact ⟨gs, by rw [upd_ne aG]; exact e, hg⟩
  · by_cases e : j = i
    · subst e
      rw [hi] at g1
      obtain rfl := Option.some.inj g1
      rw [hx] at g2
      obtain rfl := Option.some.inj g2
      rw [List.getElem?_set_self (by have := (List.getElem?_eq_some_iff.mp hx).1; have := k.ll; omega)] at g3
      obtain rfl := Option.some.inj g3
      exact upd_same
    · rw [List.getElem?_set_ne (Ne.symm e)] at g3
      have : b ≠ a := fun z => by
        rw [z] at g1
        exact e ((List.getElem?_inj (List.getElem?_eq_some_iff.mp g1).1 nd3).mp (g1.trans hi.symm))
      rw [upd_ne this]
      exact k.at_ j b y o g1 g2 g3
/-- one more is kept -/
theorem Kst.ins (k : Kst H0 C r L s K G as xs l H) {p : Addr} {x : Nat} {v : Option Int} {i : Nat} (np : H p = none) (hi : i ≤ as.length) : Kst H0 C r L s K G (as.take i ++ p :: as.drop i) (xs.take i ++ x :: xs.drop i) (l.take i ++ v :: l.drop i) (upd (upd H p (.lst [.int (x : Int), optV v])) K (.lst ((as.take i ++ p :: as.drop i).map V.ref))) := by
  have k1 := k.same (same_upd (o := .lst [.int (x : Int), optV v]) np)
  obtain ⟨h1, h2, h3⟩ := k1.upd1 (b := K) (vs := (as.take i ++ p :: as.drop i).map V.ref) (by simp) fun _ => trivial
  have pK : p ≠ K := fun z => by rw [z, k.eK] at np; cases np
  have pG : p ≠ G := fun z => by obtain ⟨gs, e, _⟩ := k.eG; rw [z, e] at np; cases np
  have inH : ∀ b ∈ as, H b ≠ none := fun b hb => by
    obtain ⟨j, hj⟩ := List.getElem?_of_mem hb
    have hjl := (List.getElem?_eq_some_iff.mp hj).1
    rw [k.at_ j b _ _ hj (List.getElem?_eq_getElem (by rw [← k.la]; exact hjl)) (List.getElem?_eq_getElem (by rw [k.ll, ← k.la]; exact hjl))]
    exact nofun
  have pas : p ∉ as := fun z => inH p z np
  have perm : (as.take i ++ p :: as.drop i).Perm (p :: as) := by
    have h := List.perm_middle (a := p) (l₁ := as.take i) (l₂ := as.drop i)
    rw [List.take_append_drop] at h
    exact h
  have hmem : ∀ b, b ∈ K :: G :: (as.take i ++ p :: as.drop i) → b = p ∨ b ∈ K :: G :: as := fun b hb => by
    rcases List.mem_cons.mp hb with z | z
    · right; rw [z]; simp
    · rcases List.mem_cons.mp z with z | z
      · right; rw [z]; simp
      · rcases List.mem_cons.mp (perm.mem_iff.mp z) with z | z
        · exact .inl z
        · right; simp [z]
  obtain ⟨n1, nd2⟩ := List.nodup_cons.mp k.nd
  obtain ⟨n2, nd3⟩ := List.nodup_cons.mp nd2
  have p0 : H0 p = none := by
    cases z : H0 p with
    | none => rfl
    | some o =>
      by_cases e : p = r
      · rw [e] at np
        exact absurd np k.re.some
      · rw [k.mv.keep p o e z] at np
        cases np
  refine ⟨h1, h2, h3, upd_same, ?_, ?_, ?_, fun j b y o g1 g2 g3 => ?_, ?_, fun b hb => ?_, fun b hb => ?_, k.lL, k.r0⟩
  · obtain ⟨gs, e, hg⟩ := k.eG
    exact ⟨gs, by rw [upd_ne (fun z => n1 (by rw [← z]; simp)), upd_ne (Ne.symm pG)]; exact e, hg⟩
  · have := k.la
    rw [List.length_append, List.length_cons, List.length_take, List.length_drop, List.length_append, List.length_cons, List.length_take, List.length_drop]
    omega
  · have := k.ll
    rw [List.length_append, List.length_cons, List.length_take, List.length_drop, List.length_append, List.length_cons, List.length_take, List.length_drop]
    omega
  · have hla := k.la
    have hll := k.ll
    have bK : b ≠ K := fun z => by
      have hb := List.mem_of_getElem? g1
      rcases List.mem_cons.mp (perm.mem_iff.mp hb) with y | y
      · exact pK (y.symm.trans z)
      · exact n1 (by rw [← z]; simp [y])
    rw [upd_ne bK]
    rcases Nat.lt_trichotomy j i with c | c | c
    · rw [List.getElem?_append_left (by rw [List.length_take]; omega), List.getElem?_take_of_lt c] at g1 g2 g3
      rw [upd_ne fun z => pas (by rw [← z]; exact List.mem_of_getElem? g1)]
      exact k.at_ j b y o g1 g2 g3
    · subst c
      rw [List.getElem?_append_right (by rw [List.length_take]; omega), List.length_take, Nat.min_eq_left (by omega), Nat.sub_self] at g1 g2 g3
      cases g1
      cases g2
      cases g3
      exact upd_same
    · rw [List.getElem?_append_right (by rw [List.length_take]; omega), List.length_take, Nat.min_eq_left (by omega), show j - i = (j - 1 - i) + 1 by omega, List.getElem?_cons_succ, List.getElem?_drop, show i + (j - 1 - i) = j - 1 by omega] at g1 g2 g3
      rw [upd_ne fun z => pas (by rw [← z]; exact List.mem_of_getElem? g1)]
      exact k.at_ (j - 1) b y o g1 g2 g3
  · rw [List.nodup_cons, List.nodup_cons]
    refine ⟨fun z => ?_, fun z => ?_, perm.nodup_iff.mpr (List.nodup_cons.mpr ⟨pas, nd3⟩)⟩
    · rcases List.mem_cons.mp z with y | y
      · exact n1 (by rw [y]; simp)
      · rcases List.mem_cons.mp (perm.mem_iff.mp y) with y | y
        · exact pK y.symm
        · exact n1 (by simp [y])
    · rcases List.mem_cons.mp (perm.mem_iff.mp z) with y | y
      · exact pG y.symm
      · exact n2 y
  · rcases hmem b hb with z | z
    · rw [z]; exact p0
    · exact k.n0 b z
  · rcases hmem b hb with z | z
    · rw [z]
      intro y
      obtain ⟨vs, e⟩ := k.ln.isl y
      rw [np] at e
      cases e
    · exact k.nl b z
/-- the first one is kept no more -/
theorem Kst.pop {a : Addr} {x : Nat} {o : Option Int} (k : Kst H0 C r L s K G (a :: as) (x :: xs) (o :: l) H) : Kst H0 C r L s K G as xs l (upd H K (.lst (as.map V.ref))) := by
  obtain ⟨h1, h2, h3⟩ := k.upd1 (b := K) (vs := as.map V.ref) (by simp) fun _ => trivial
  have sub : ∀ b, b ∈ K :: G :: as → b ∈ K :: G :: a :: as := fun b hb => by
    simp only [List.mem_cons] at hb ⊢
    rcases hb with z | z | z
    · exact .inl z
    · exact .inr (.inl z)
    · exact .inr (.inr (.inr z))
  obtain ⟨n1, nd2⟩ := List.nodup_cons.mp k.nd
  obtain ⟨n2, nd3⟩ := List.nodup_cons.mp nd2
  refine ⟨h1, h2, h3, upd_same, ?_, by have := k.la; simpa using this, by have := k.ll; simpa using this, fun j b y u g1 g2 g3 => ?_, ?_, fun b hb => k.n0 b (sub b hb), fun b hb => k.nl b (sub b hb), k.lL, k.r0⟩
  · obtain ⟨gs, e, hg⟩ := k.eG
    exact ⟨gs, by rw [upd_ne fun z => n1 (by rw [← z]; simp)]; exact e, hg⟩
  · rw [upd_ne fun z => n1 (by rw [← z]; simp [List.mem_of_getElem? g1])]
    exact k.at_ (j + 1) b y u (by simpa using g1) (by simpa using g2) (by simpa using g3)
  · rw [List.nodup_cons, List.nodup_cons]
    exact ⟨fun z => n1 (by rcases List.mem_cons.mp z with y | y <;> simp [y]), fun z => n2 (by simp [z]), (List.nodup_cons.mp nd3).2⟩
/-- one is told -/
theorem Kst.told (k : Kst H0 C r L s K G as xs l H) {gs : List V} (hg : gs.length ≤ s.sv.length) : Kst H0 C r L s K G as xs l (upd H G (.lst gs)) := by
  obtain ⟨h1, h2, h3⟩ := k.upd1 (b := G) (vs := gs) (by simp) fun _ => trivial
  obtain ⟨n1, nd2⟩ := List.nodup_cons.mp k.nd
  obtain ⟨n2, nd3⟩ := List.nodup_cons.mp nd2
  exact ⟨h1, h2, h3, by rw [upd_ne fun z => n1 (by rw [z]; simp)]; exact k.eK, ⟨gs, upd_same, hg⟩, k.la, k.ll, fun i a x o g1 g2 g3 => by rw [upd_ne fun z => n2 (by rw [← z]; exact List.mem_of_getElem? g1)]; exact k.at_ i a x o g1 g2 g3, k.nd, k.n0, k.nl, k.lL, k.r0⟩
end
end CL
set_option Elab.async false
set_option linter.all false
set_option pp.maxSteps 900
set_option maxRecDepth 100000
set_option maxHeartbeats 4000000
namespace CL
open PySem PySem.Spec PyProof.Rows L2 GE
abbrev sLR : Stmt := topS 61
abbrev nLR : List Str := ["reel", "patiences", "line", "gone", "kept", "person", "patience", "at", "other", "one", "rest"]
theorem scLR : FnScope nLR ["reel", "patiences"] (defScope sLR) := ⟨rfl, rfl, rfl, by decide +kernel, rfl, by decide +kernel, by decide +kernel⟩
theorem Flds.queue {fs : List (Str × V)} {L : LnA} (h : Flds fs L) : fs.lookup ("queue" : Str) = none := h.no _ (by decide +kernel) (by decide +kernel) (by decide +kernel) (by decide +kernel) (by decide +kernel)
theorem Flds.left {fs : List (Str × V)} {L : LnA} (h : Flds fs L) : fs.lookup ("left" : Str) = none := h.no _ (by decide +kernel) (by decide +kernel) (by decide +kernel) (by decide +kernel) (by decide +kernel)
theorem opts_dpS {K : PySem.W.Frag} {H : Hp} : ∀ os : List (Option Int), DpAll K H (os.map optV) (os.map optD)
  | [] => .nil
  | o :: os => .cons (optV_dp o) (opts_dpS os)
theorem opts_layS : ∀ os : List (Option Int), PyData.canLayAll0 (os.map optD) = true
  | [] => rfl
  | o :: os => by
    have := opts_layS os
    cases o <;> simp [PyData.canLayAll0, PyData.canLay0, optD, this]
theorem opts_depthS : ∀ os : List (Option Int), PyData.depthAll (os.map optD) = 0
  | [] => rfl
  | o :: os => by
    have := opts_depthS os
    cases o <;> simp [PyData.depthAll, PyData.depth, optD, this]
theorem opts_shapedS (os : List (Option Int)) : SeqAt.shaped (.list (os.map optD)) = true := by
  unfold SeqAt.shaped
  simp [PyData.canLay0, PyData.depth, opts_layS, opts_depthS]
theorem opts_self : ∀ os : List (Option Int), PyData.eqvAll (os.map optD) (os.map optD) = true
  | [] => rfl
  | o :: os => by
    have := opts_self os
    cases o <;> simp [PyData.eqvAll, PyData.eqv, optD, this]
theorem opts_selfL (os : List (Option Int)) : PyData.eqv (.list (os.map optD)) (.list (os.map optD)) = true := by
  have := opts_self os
  simpa [PyData.eqv] using this
theorem eq_opts {K : PySem.W.Frag} {H : Hp} {a b : Addr} {os : List (Option Int)} {Q : VK} (ha : H a = some (.lst (os.map optV))) (hb : H b = some (.lst (os.map optV))) (q : Q (.bl true) H) : rEqD K (.ref a) (.ref b) H Q := by
  refine ⟨_, _, .lst (SqL.of ha) (opts_dpS os), .lst (SqL.of hb) (opts_dpS os), opts_shapedS os, opts_shapedS os, ?_⟩
  rw [opts_selfL]
  exact q
theorem ne_opts {K : PySem.W.Frag} {H : Hp} {a b : Addr} {os : List (Option Int)} {Q : VK} (ha : H a = some (.lst (os.map optV))) (hb : H b = some (.lst (os.map optV))) (q : Q (.bl false) H) : rNeD K (.ref a) (.ref b) H Q := by
  refine ⟨_, _, .lst (SqL.of ha) (opts_dpS os), .lst (SqL.of hb) (opts_dpS os), opts_shapedS os, opts_shapedS os, ?_⟩
  rw [opts_selfL]
  exact q
def spLR (r : Addr) : Sp := fun vs H Q _ => ∃ (A : Addr) (ns : List Int), vs = [.ref r, .ref A] ∧ H A = some (.lst (ns.map V.int)) ∧ ns.length ≤ 15 ∧ (∀ x ∈ ns, 0 ≤ x ∧ x ≤ 60) ∧ A ≠ r ∧ ReelAt H r ∧ ∀ H', ReelAt H' r → Mv r H H' → Q (.bl true) H'
/-- what holds ahead of each one's coming -/
structure Bes (H0 : Hp) (C r : Addr) (L : LnA) (K G : Addr) (i : Nat) (H : Hp) (ds : List Deed) (as : List Addr) : Prop where
  k : Kst H0 C r L (stF ds) K G as (stF ds).xs (stF ds).rs H
  vd : Vd ds
  ps : (stF ds).ps.length = i
  nn : NN (stF ds).rs
  ok : ∀ d ∈ ds, OkD d
  ld : ds.length ≤ 2 * i
section
variable {P : Program} {w : World} {K0 : PySem.W.Frag} {mg : Str → Option Value} {base : Heap} {C r : Addr}
theorem ok_lr {f fI fC fS fQ fL fH fLN : Addr} {fd fdI fdC fdS fdQ fdL fdH fdLN : FuncData} (F : Fun K0 "_law_line_right" "_law_line_right" sLR f fd) (T : Nm mg) (henum : mg "enumerate" = none) (TL : LnT K0 mg C) (M : Mk K0 C fI)
    (GI : FnOk P w K0 mg base CX0 1 fI fdI ["self"] (spInitL C)) (bI : Binds K0 fdI ["self"] [])
    (mC : Meth K0 C "come" fC) (GC : FnOk P w K0 mg base CX0 3 fC fdC ["self", "patience"] (spComeM C)) (bC : Binds K0 fdC ["self", "patience"] [])
    (mS : Meth K0 C "serve" fS) (GS : FnOk P w K0 mg base CX0 1 fS fdS ["self"] (spServeM C)) (bS : Binds K0 fdS ["self"] [])
    (mQ : Meth K0 C "queue" fQ) (GQ : FnOk P w K0 mg base CX0 1 fQ fdQ ["self"] (spQueM C)) (bQ : Binds K0 fdQ ["self"] [])
    (mL : Meth K0 C "left" fL) (GL : FnOk P w K0 mg base CX0 1 fL fdL ["self"] (spLeftM C)) (bL : Binds K0 fdL ["self"] [])
    (mH : Meth K0 C "history" fH) (GH : FnOk P w K0 mg base CX0 1 fH fdH ["self"] (spHistM C)) (bH : Binds K0 fdH ["self"] [])
    (hLs : PySem.W.findIn K0 (.ref C) "__len__" = some (some (.ref fLN))) (hLf : PySem.W.isFn K0 (.ref fLN) = true) (GLN : FnOk P w K0 mg base CX0 1 fLN fdLN ["self"] (spLenM C)) (bLN : Binds K0 fdLN ["self"] [])
    (CD : Cal P w K0 mg base 1 "_law_draw" ["reel", "many"] (spDraw r)) (CLO : Cal P w K0 mg base 5 "line_of" ["history"] (spLineOf C)) : FnOk P w K0 mg base CX0 6 f fd ["reel", "patiences"] (spLR r) := by
  refine F.ok scLR (fun vs H Q E ⟨A, ns, e, _⟩ => by rw [e]; rfl) (fun cdv A' outer s0 H vs Q E hr h => ?_)
  obtain ⟨A, ns, rfl, eA, hl, hnn, nAr, hre, q⟩ := h
  have nd := scLR.nd
  refine ⟨_, (pss_cons (ps_set (i := 2) nd rfl (.inl rfl) (pe_make0 M GI (hr.mono (by decide)) rfl TL.mgC bI .nil pass0))
      (pss_cons (ps_set (i := 3) nd rfl (.inl rfl) (pe_lst pa_nil))
      (pss_cons (ps_set (i := 4) nd rfl (.inl rfl) (pe_lst pa_nil))
      (pss_cons (ps_for PassesOwn.never rfl (pi_enum (by rfl) henum (pa_cons (pv 1) pa_nil)) (pg_tup rfl (pgs_cons (pg_name (i := 5) nd rfl (.inl rfl)) (pgs_cons (pg_name (i := 6) nd rfl (.inl rfl)) pgs_nil))) (pss_cons (ps_if (pt_cmpR op_ne (pe_meth (pv 2) TL.cl mC GC (hr.mono (by decide)) bC .nil pass0 (pa_cons (pv 6) pa_nil)) (pv 5) (nomark _)) (pss_one (ps_ret pe_bl)) pss_nil)
      (pss_cons (ps_set (i := 7) nd rfl (.inl rfl) (pe_callB call_len_seq (by rfl) T.len PySem.boot_len (pa_cons (pv 4) pa_nil)))
      (pss_cons (ps_while PassesOwn.never (PW.pt (pw_and (pt_cmpR op_gt (pv 7) pe_int (nomark _)) (pw_and1 (pt_cmpR op_gt (pe_ix ix_list (pe_ix ix_list (pv 4) (pe_op op_sub (pv 7) pe_int) (fun _ _ => rfl)) pe_int (fun _ _ => rfl)) pe_int (nomark _))))) (pss_cons (ps_set (i := 7) nd rfl (.inl rfl) (pe_op op_sub (pv 7) pe_int))
      (pss_one (ps_asg (pe_op op_sub (pe_ix ix_list (pe_ix ix_list (pv 4) (pv 7) (fun _ _ => rfl)) pe_int (fun _ _ => rfl)) pe_int) (pg_sub (pe_ix ix_list (pv 4) (pv 7) (fun _ _ => rfl)) pe_int set_list)))))
      (pss_cons (ps_expr (pe_bm PySem.F.plainAttrs_list PySem.F.slot_list_insert PySem.F.type_list_insert mt_insert (pv 4) (pa_cons (pv 7) (pa_cons (pe_lst (pa_cons (pv 5) (pa_cons (pv 6) pa_nil))) pa_nil))))
      (pss_cons (ps_if (pt_cmpR op_eq (pe_cal (CD.mono (by decide)) hr (by rfl) (pa_cons (pv 0) (pa_cons pe_int pa_nil))) pe_int (nomark _)) (pss_cons (ps_expr (pe_bm PySem.F.plainAttrs_list PySem.F.slot_list_append PySem.F.type_list_append mt_append (pv 3) (pa_cons (pe_meth0 (pv 2) TL.cl mS GS (hr.mono (by decide)) bS .nil pass0) pa_nil)))
      (pss_one (ps_if (pt_cmpR op_ne (pe_ix ix_list (pv 3) (pe_un un_neg pe_int) (fun _ _ => rfl)) (pe_ix ix_list (pe_bm PySem.F.plainAttrs_list PySem.F.slot_list_pop PySem.F.type_list_pop mt_popAt (pv 4) (pa_cons pe_int pa_nil)) pe_int (fun _ _ => rfl)) (nomark _)) (pss_one (ps_ret pe_bl)) pss_nil))) pss_nil)
      (pss_one (ps_if (PW.pt (pw_or (pt_cmpR (op_neD hr.units) (pe_meth0 (pv 2) TL.cl mQ GQ (hr.mono (by decide)) bQ .nil pass0) (pe_lc (own := [("one", 9), ("rest", 10)]) (g := (gLst K0 2 (gCons (gName 9) (gCons (gName 10) gNil)))) (tt := tYes) rfl nd (pi_list (pv 4)) (blkOk_by (own := [("one", 9), ("rest", 10)]) (N := nLR) (sc := (defScope sLR)) (by decide +kernel)) (fun _ _ _ _ _ => (pg_lst rfl (pgs_cons (pg_name (i := 9) nd rfl (.inl rfl) (.inr rfl)) (pgs_cons (pg_name (i := 10) nd rfl (.inl rfl) (.inr rfl)) pgs_nil)))) (fun _ _ _ _ _ => pts_nil) (fun _ _ _ _ _ => (pv 9))) (nomark _)) (pw_or1 (pt_cmpR (op_neD hr.units) (pe_meth0 (pv 2) TL.cl mL GL (hr.mono (by decide)) bL .nil pass0) (pe_lc (own := [("one", 9), ("rest", 10)]) (g := (gLst K0 2 (gCons (gName 9) (gCons (gName 10) gNil)))) (tt := tYes) rfl nd (pi_list (pv 4)) (blkOk_by (own := [("one", 9), ("rest", 10)]) (N := nLR) (sc := (defScope sLR)) (by decide +kernel)) (fun _ _ _ _ _ => (pg_lst rfl (pgs_cons (pg_name (i := 9) nd rfl (.inl rfl) (.inr rfl)) (pgs_cons (pg_name (i := 10) nd rfl (.inl rfl) (.inr rfl)) pgs_nil)))) (fun _ _ _ _ _ => pts_nil) (fun _ _ _ _ _ => (pv 10))) (nomark _))))) (pss_one (ps_ret pe_bl)) pss_nil))))))))
      (pss_cons (ps_set (i := 8) nd rfl (.inl rfl) (pe_cal (CLO.mono (by decide)) hr (by rfl) (pa_cons (pe_meth0 (pv 2) TL.cl mH GH (hr.mono (by decide)) bH .nil pass0) pa_nil)))
      (pss_one (ps_ret (pe_and (pe_cmpR (op_eqD hr.units) (pe_meth0 (pv 8) TL.cl mQ GQ (hr.mono (by decide)) bQ .nil pass0) (pe_meth0 (pv 2) TL.cl mQ GQ (hr.mono (by decide)) bQ .nil pass0) (nomark _)) (pe_and (pe_cmpR (op_eqD hr.units) (pe_meth0 (pv 8) TL.cl mL GL (hr.mono (by decide)) bL .nil pass0) (pe_meth0 (pv 2) TL.cl mL GL (hr.mono (by decide)) bL .nil pass0) (nomark _)) (pe_one (pe_chain op_eq op_eq (pe_callB (call_lenOwn GLN (hr.mono (by decide)) hLs hLf bLN pass0) (by rfl) T.len PySem.boot_len (pa_cons (pv 8) pa_nil)) (pe_callB (call_lenOwn GLN (hr.mono (by decide)) hLs hLf bLN pass0) (by rfl) T.len PySem.boot_len (pa_cons (pv 2) pa_nil)) (pe_callB call_len_seq (by rfl) T.len PySem.boot_len (pa_cons (pv 4) pa_nil)))))))))))))
, ?_⟩
  -- line
  refine fun x1 dx1 nx1 nd1 ne1 => ⟨x1, dx1, rfl, upd_same, fun L G1 eo nA0 lA kA => ⟨rfl, ?_⟩⟩
  have s01 : Same H G1 := fun b o e => kA b o (ne_of_none e nx1) (by rw [upd_ne (ne_of_none e nx1), upd_ne (ne_of_none e nd1)]; exact e)
  have nL0 : ∀ b, L.has b → H b = none := fun b hb => by
    cases z : H b with
    | none => rfl
    | some o =>
      have := nA0 b hb
      rw [upd_ne (ne_of_none z nx1), upd_ne (ne_of_none z nd1), z] at this
      cases this
  subst eo
  clear nA0 kA
  dsimp only [gName]
  show tSeq _ _ _ [some (.ref r), some (.ref A), some (.ref L.o), none, none, none, none, none, none, none, none] G1
  refine ⟨Nat.zero_le _, fun G nG => ⟨Nat.zero_le _, fun K nK => ?_⟩⟩
  have s12 : Same G1 (upd G1 G (.lst [])) := same_upd nG
  have GK : K ≠ G := fun z => by rw [z, upd_same] at nK; cases nK
  have nK1 : G1 K = none := s12.free nK
  have s13 : Same G1 (upd (upd G1 G (.lst [])) K (.lst [])) := s12.trans (same_upd nK)
  have eG : (upd (upd G1 G (.lst [])) K (.lst [])) G = some (.lst []) := by rw [upd_ne (Ne.symm GK)]; exact upd_same
  have eK : (upd (upd G1 G (.lst [])) K (.lst [])) K = some (.lst []) := upd_same
  dsimp only [gName]
  show tSeq _ _ _ [some (.ref r), some (.ref A), some (.ref L.o), some (.ref G), some (.ref K), none, none, none, none, none, none] (upd (upd G1 G (.lst [])) K (.lst []))
  generalize upd (upd G1 G (.lst [])) K (.lst []) = H3 at s13 eG eK
  have s03 := s01.trans s13
  have k3 : Kst H C r L LS.nil K G [] [] [] H3 := ⟨lA.same s13, hre.same s03, Mv.of s03, eK, ⟨[], eG, Nat.zero_le _⟩, rfl, rfl, fun i a x o h => (nomatch h), by simp [GK], (fun b hb => by
      simp only [List.mem_cons, List.not_mem_nil, or_false] at hb
      rcases hb with rfl | rfl
      · exact s01.free nK1
      · exact s01.free nG), (fun b hb hL => by
      obtain ⟨vs, e⟩ := lA.isl hL
      simp only [List.mem_cons, List.not_mem_nil, or_false] at hb
      rcases hb with rfl | rfl
      · rw [nK1] at e; cases e
      · rw [nG] at e; cases e), nL0, hre.some⟩
  have B3 : Bes H C r L K G 0 H3 [] [] := ⟨k3, vd_nil, rfl, fun o ho => (nomatch ho), fun d hd => (nomatch hd), Nat.le_refl _⟩
  clear s13 s03 s01 eG eK nG nK nK1 s12 lA k3
  have lns : (ns.map V.int).length = ns.length := List.length_map ..
  have eAk : ∀ {i : Nat} {H' : Hp} {ds : List Deed} {as : List Addr}, Bes H C r L K G i H' ds as → H' A = some (.lst (ns.map V.int)) := fun b => b.k.old eA nAr
  refine ⟨.ref A, rfl, A, _, rfl, SqL.of (eAk B3), for_it walk_enum (fun i σ H4 => ∃ ds as y5 y6 y7, σ = [some (.ref r), some (.ref A), some (.ref L.o), some (.ref G), some (.ref K), y5, y6, y7, none, none, none] ∧ Bes H C r L K G i H4 ds as)
    ⟨[], [], none, none, none, rfl, B3⟩ (fun i σ H4 _ hP => by obtain ⟨_, _, _, _, _, _, b⟩ := hP; exact SqL.of (eAk b)) (fun i x σ H4 H5 hi hP hY => ?_) (fun σ H4 hP => ?_)⟩
  · obtain ⟨ds, as, y5, y6, y7, rfl, b4⟩ := hP
    obtain ⟨T', x, y, rfl, nT', rfl, hx1, hy⟩ := hY
    obtain rfl := Option.some.inj hx1
    rw [lns] at hi
    obtain rfl : y = .int ns[i] := by
      have hy : (ns.map V.int)[i]? = some y := hy
      rw [List.getElem?_map, List.getElem?_eq_getElem hi] at hy
      exact (Option.some.inj hy).symm
    have s5 : Same H4 (upd H4 T' (.tup [.int (i : Int), .int ns[i]])) := same_upd nT'
    refine ⟨T', _, rfl, SqT.of upd_same, rfl, .int (i : Int), _, rfl, .int ns[i], _, rfl, rfl, ?_⟩
    have k5 := b4.k.same s5
    generalize upd H4 T' (.tup [.int (i : Int), .int ns[i]]) = H5 at k5 ⊢
    obtain ⟨hv0, hv60⟩ := hnn _ (List.getElem_mem hi)
    generalize ns[i] = pv at hv0 hv60 ⊢
    have hps := b4.ps
    have okS := b4.vd.ok
    have hpat : isPatience (optD (some pv)) = true := by
      show (decide (0 ≤ pv) && decide (pv ≤ GREAT)) = true
      rw [decide_eq_true hv0, decide_eq_true (by have : GREAT = 1000000000000000000000000000000 := rfl; omega)]
      rfl
    dsimp only [gName]
    show tSeq _ _ _ [some (.ref r), some (.ref A), some (.ref L.o), some (.ref G), some (.ref K), some (.int (i : Int)), some (.int pv), y7, none, none, none] H5
    obtain ⟨dx, fs, hob, hf⟩ := k5.ln.ob
    refine ⟨.ref L.o, rfl, L.o, dx, fs, rfl, hob, hf.comeX, .int pv, rfl, L, stF ds, some pv, rfl, k5.ln, hpat, by omega, fun H6 l6 m6 => ⟨.int (i : Int), rfl, rfl, _, rfl, ?_⟩⟩
    have k6 := k5.line l6 m6 (Nat.le_refl _)
    rw [hps]
    dsimp only []
    rw [if_neg (by simp)]
    dsimp only [tNext]
    have hst : stF (ds ++ [.come (some pv)]) = comeS (stF ds) (some pv) := stF_snoc ds _
    have b4n := b4.nn
    have hlen := okS.len
    have hlx : (stF ds).xs.length ≤ i := by have := okS.tot; omega
    have hdl := okS.dl
    obtain ⟨_, vd4, _, _, ok4, ld4⟩ := b4
    have vd6 : Vd (ds ++ [.come (some pv)]) := vd4.come _
    have ok6 : ∀ d ∈ ds ++ [.come (some pv)], OkD d := fun d hd => by
      rcases List.mem_append.mp hd with h | h
      · exact ok4 d h
      · rw [List.mem_singleton.mp h]
        intro p e
        cases e
        exact hpat
    clear l6 m6 k5 s5 ok4 vd4
    -- how far it goes
    show tSeq _ _ _ [some (.ref r), some (.ref A), some (.ref L.o), some (.ref G), some (.ref K), some (.int (i : Int)), some (.int pv), y7, none, none, none] H6
    refine ⟨.ref K, rfl, K, _, rfl, .inl (SqL.of k6.eK), ?_⟩
    have ela : (as.map V.ref).length = (stF ds).xs.length := by rw [List.length_map, k6.la]
    rw [ela]
    dsimp only [gName]
    show tSeq _ _ _ [some (.ref r), some (.ref A), some (.ref L.o), some (.ref G), some (.ref K), some (.int (i : Int)), some (.int pv), some (.int ((stF ds).xs.length : Int)), none, none, none] H6
    refine seqP (fun σ' H' => ∃ (k : Nat) (l : List (Option Int)), σ' = [some (.ref r), some (.ref A), some (.ref L.o), some (.ref G), some (.ref K), some (.int (i : Int)), some (.int pv), some (.int (k : Int)), none, none, none] ∧ Kst H C r L (comeS (stF ds) (some pv)) K G as (stF ds).xs l H' ∧ (k, l) = goes (stF ds).rs.length (stF ds).rs ∧ k ≤ (stF ds).xs.length) (fun σ' H7 hs => ?_) (fun nx hnx => ?_)
    rotate_left
    · refine ⟨fun k σ H7 => ∃ l : List (Option Int), σ = [some (.ref r), some (.ref A), some (.ref L.o), some (.ref G), some (.ref K), some (.int (i : Int)), some (.int pv), some (.int (k : Int)), none, none, none] ∧ Kst H C r L (comeS (stF ds) (some pv)) K G as (stF ds).xs l H7 ∧ k ≤ (stF ds).xs.length ∧ goes k l = goes (stF ds).rs.length (stF ds).rs ∧ NN l,
        ⟨(stF ds).xs.length, (stF ds).rs, rfl, k6, Nat.le_refl _, by rw [hlen], b4n⟩, fun k σ H7 hW => ?_⟩
      obtain ⟨l, rfl, k7, hk, hg, hnl⟩ := hW
      cases k with
      | zero =>
        refine ⟨.int ((0 : Nat) : Int), rfl, ((0 : Nat) : Int), 0, rfl, rfl, decide ((0 : Int) < ((0 : Nat) : Int)), rfl, iteF ?_⟩
        exact hnx _ _ ⟨0, l, rfl, k7, hg, Nat.zero_le _⟩
      | succ k' =>
        have hla := k7.la
        have hll := k7.ll
        obtain ⟨a, ha⟩ : ∃ a, as[k']? = some a := ⟨_, List.getElem?_eq_getElem (by omega)⟩
        obtain ⟨x, hx⟩ : ∃ x, (stF ds).xs[k']? = some x := ⟨_, List.getElem?_eq_getElem (by omega)⟩
        obtain ⟨o, ho⟩ : ∃ o, l[k']? = some o := ⟨_, List.getElem?_eq_getElem (by omega)⟩
        obtain ⟨v, rfl, hvv⟩ := hnl o (List.mem_of_getElem? ho)
        have hi1 : ((k' + 1 : Nat) : Int) - 1 = (k' : Int) := by omega
        have haR : (as.map V.ref)[k']? = some (.ref a) := by rw [List.getElem?_map, ha]; rfl
        have eA7 : H7 a = some (.lst [.int (x : Int), .int v]) := k7.at_ k' a x (some v) ha hx ho
        refine ⟨.int ((k' + 1 : Nat) : Int), rfl, ((k' + 1 : Nat) : Int), 0, rfl, rfl, decide ((0 : Int) < ((k' + 1 : Nat) : Int)), rfl, ?_⟩
        rw [decide_eq_true (by omega : (0 : Int) < ((k' + 1 : Nat) : Int))]
        refine iteT ⟨.ref K, rfl, .int ((k' + 1 : Nat) : Int), rfl, ((k' + 1 : Nat) : Int), 1, rfl, rfl, K, _, ((k' + 1 : Nat) : Int) - 1, .ref a, rfl, rfl, SqL.of k7.eK, by rw [hi1]; exact atI_nat haR, a, _, 1, .int v, rfl, rfl, SqL.of eA7, rfl, v, 0, rfl, rfl, decide (0 < v), rfl, ?_⟩
        by_cases hz : v = 0
        · subst hz
          have hg2 : (k' + 1, l) = goes (stF ds).rs.length (stF ds).rs := by
            rw [← hg]
            unfold goes
            rw [ho]
            rfl
          exact iteF (hnx _ _ ⟨k' + 1, l, rfl, k7, hg2, hk⟩)
        · rw [decide_eq_true (by omega)]
          have hg2 : goes k' (l.set k' (some (v - 1))) = goes (stF ds).rs.length (stF ds).rs := by
            rw [← hg]
            conv => rhs; unfold goes
            rw [ho]
            exact (if_neg hz).symm
          have k8 := k7.setA (v := some (v - 1)) ha hx
          refine iteT ⟨fun σ' H'' => σ' = [some (.ref r), some (.ref A), some (.ref L.o), some (.ref G), some (.ref K), some (.int (i : Int)), some (.int pv), some (.int (((k' + 1 : Nat) : Int) - 1)), none, none, none] ∧ H'' = upd H7 a (.lst [.int (x : Int), optV (some (v - 1))]), fun σ' H'' z => ⟨k', Nat.lt_succ_self k', l.set k' (some (v - 1)), by rw [z.1, hi1], by rw [z.2]; exact k8, by omega, hg2, hnl.set (by omega)⟩, ?_⟩
          refine ⟨.int ((k' + 1 : Nat) : Int), rfl, ((k' + 1 : Nat) : Int), 1, rfl, rfl, .ref K, rfl, .int (((k' + 1 : Nat) : Int) - 1), rfl, K, _, ((k' + 1 : Nat) : Int) - 1, .ref a, rfl, rfl, SqL.of k7.eK, by rw [hi1]; exact atI_nat haR, a, _, 1, .int v, rfl, rfl, SqL.of eA7, rfl, v, 1, rfl, rfl, .ref K, rfl, .int (((k' + 1 : Nat) : Int) - 1), rfl, K, _, ((k' + 1 : Nat) : Int) - 1, .ref a, rfl, rfl, SqL.of k7.eK, by rw [hi1]; exact atI_nat haR, a, _, 1, 1, rfl, rfl, eA7, rfl, rfl, rfl⟩
    obtain ⟨k, l, rfl, k7, hg, hkx⟩ := hs
    show tSeq _ _ _ [some (.ref r), some (.ref A), some (.ref L.o), some (.ref G), some (.ref K), some (.int (i : Int)), some (.int pv), some (.int (k : Int)), none, none, none] H7
    have hla := k7.la
    refine ⟨.ref K, rfl, .inl ⟨rfl, _, SqL.of k7.eK⟩, .int (k : Int), rfl, .int (i : Int), rfl, .int pv, rfl, small_le (by show 2 ≤ 1000; decide), fun p np => ?_⟩
    have k8 := k7.ins (x := i) (v := some pv) (i := k) np (by omega)
    have pK : K ≠ p := fun z => by rw [← z, k7.eK] at np; cases np
    refine ⟨K, _, (k : Int), .ref p, rfl, rfl, by rw [upd_ne pK]; exact k7.eK, small1000 (by rw [ela]; omega), by omega, by omega, ?_⟩
    have ecut : (as.map V.ref).take ((k : Int)).toNat ++ [V.ref p] ++ (as.map V.ref).drop ((k : Int)).toNat = (as.take k ++ p :: as.drop k).map V.ref := by
      rw [Int.toNat_natCast, List.append_assoc, List.map_append, List.map_cons, List.map_take, List.map_drop]
      rfl
    rw [ecut]
    have hk1 : (goes (stF ds).rs.length (stF ds).rs).1 = k := by rw [← hg]
    have hl2 : (goes (stF ds).rs.length (stF ds).rs).2 = l := by rw [← hg]
    have exs : (comeS (stF ds) (some pv)).xs = (stF ds).xs.take k ++ i :: (stF ds).xs.drop k := by
      show (stF ds).xs.take (stF ds).k ++ (stF ds).ps.length :: (stF ds).xs.drop (stF ds).k = _
      unfold LS.k
      rw [hk1, hps]
    have ers : (comeS (stF ds) (some pv)).rs = l.take k ++ some pv :: l.drop k := by
      show (goes (stF ds).rs.length (stF ds).rs).2.take (stF ds).k ++ some pv :: (goes (stF ds).rs.length (stF ds).rs).2.drop (stF ds).k = _
      unfold LS.k
      rw [hk1, hl2]
    have hnl : NN l := by rw [← hl2]; exact NN.goes b4n
    have b8 : Bes H C r L K G (i + 1) (upd (upd H7 p (.lst [.int (i : Int), optV (some pv)])) K (.lst ((as.take k ++ p :: as.drop k).map V.ref))) (ds ++ [.come (some pv)]) (as.take k ++ p :: as.drop k) := by
      refine ⟨by rw [hst, exs, ers]; exact k8, vd6, ?_, ?_, ok6, by rw [List.length_append]; show _ + 1 ≤ _; omega⟩
      · rw [hst]
        show (bump _ _ ++ [0]).length = _
        rw [List.length_append, bump_len, hps]
        rfl
      · rw [hst, ers]
        intro o ho
        rcases List.mem_append.mp ho with h1 | h1
        · exact hnl o (List.mem_of_mem_take h1)
        · rcases List.mem_cons.mp h1 with h2 | h2
          · exact ⟨pv, h2, hv0⟩
          · exact hnl o (List.mem_of_mem_drop h2)
    have ld8 : (ds ++ [Deed.come (some pv)]).length ≤ 2 * i + 1 := by rw [List.length_append]; show _ + 1 ≤ _; omega
    have hx1ne : (stF (ds ++ [.come (some pv)])).xs ≠ [] := by
      rw [hst, exs]
      intro z
      have := congrArg List.length z
      rw [List.length_append, List.length_cons, List.length_nil] at this
      omega
    clear k8 k7 np pK ecut exs ers hnl hk1 hl2 hst hg ela hla vd6 ok6 hdl hlx hlen b4n okS hps ld4 hob hf
    dsimp only []
    show tSeq _ _ _ [some (.ref r), some (.ref A), some (.ref L.o), some (.ref G), some (.ref K), some (.int (i : Int)), some (.int pv), some (.int (k : Int)), none, none, none] (upd (upd H7 p (.lst [.int (i : Int), optV (some pv)])) K (.lst ((as.take k ++ p :: as.drop k).map V.ref)))
    generalize upd (upd H7 p (.lst [.int (i : Int), optV (some pv)])) K (.lst ((as.take k ++ p :: as.drop k).map V.ref)) = H8 at b8 ⊢
    generalize ds ++ [.come (some pv)] = ds1 at b8 ld8 hx1ne
    generalize as.take k ++ p :: as.drop k = as1 at b8
    refine seqP (fun σ' H' => ∃ ds2 as2, σ' = [some (.ref r), some (.ref A), some (.ref L.o), some (.ref G), some (.ref K), some (.int (i : Int)), some (.int pv), some (.int (k : Int)), none, none, none] ∧ Bes H C r L K G (i + 1) H' ds2 as2) (fun σ' H9 hs => ?_) (fun nx hnx => ?_)
    rotate_left
    · refine ⟨.ref r, rfl, 4, rfl, b8.k.re, by decide, by decide, fun x H9 re9 m9 x0 x1 => ⟨rfl, _, rfl, ?_⟩⟩
      have k9 := b8.k.reel re9 m9
      dsimp only []
      by_cases c0 : x = 0
      · rw [if_pos (by simp [c0])]
        obtain ⟨z0, xs0, hxs⟩ := List.exists_cons_of_ne_nil hx1ne
        obtain ⟨gs, eG9, hgs⟩ := k9.eG
        obtain ⟨dx, fs, hob, hf⟩ := k9.ln.ob
        have ok1 := b8.vd.ok
        have hps1 := b8.ps
        have htot := ok1.tot
        refine ⟨.ref G, rfl, .inl ⟨rfl, _, SqL.of eG9⟩, .ref L.o, rfl, L.o, dx, fs, rfl, hob, hf.serveX, L, stF ds1, z0, xs0, rfl, k9.ln, hxs, by omega, fun H10 r' hr' ln10 m10 => ?_⟩
        have k10 := k9.line ln10 m10 (by show _ ≤ (_ ++ [_]).length; rw [List.length_append]; omega)
        have eG10 := m10.keep _ _ (k9.nl G (by simp)) eG9
        have k11 := k10.told (gs := gs ++ [.int (z0 : Int)]) (by show _ ≤ (_ ++ [_]).length; rw [List.length_append, List.length_append]; show _ + 1 ≤ _ + 1; omega)
        refine ⟨G, gs, .int (z0 : Int), rfl, rfl, eG10, small1000 (by omega), ?_⟩
        have eG11 : (upd H10 G (.lst (gs ++ [.int (z0 : Int)]))) G = some (.lst (gs ++ [.int (z0 : Int)])) := upd_same
        generalize upd H10 G (.lst (gs ++ [.int (z0 : Int)])) = H11 at k11 eG11 ⊢
        have eqs := serve_eqX hxs hr'
        obtain ⟨rs0, hrs⟩ : ∃ rs0, (stF ds1).rs = r' :: rs0 := by
          cases e : (stF ds1).rs with
          | nil => rw [e] at hr'; cases hr'
          | cons y ys => rw [e] at hr'; cases hr'; exact ⟨ys, rfl⟩
        rw [hxs, hrs] at k11
        obtain ⟨a0, as0, has⟩ : ∃ a0 as0, as1 = a0 :: as0 := by
          cases e : as1 with
          | nil => have := k11.la; rw [e] at this; cases this
          | cons y ys => exact ⟨y, ys, rfl⟩
        subst has
        have eA11 := k11.at_ 0 a0 z0 r' rfl rfl rfl
        have k12 := k11.pop
        have a0K : a0 ≠ K := fun z => (List.nodup_cons.mp k11.nd).1 (by rw [← z]; simp)
        refine ⟨.ref G, rfl, 1, rfl, G, _, -1, .int (z0 : Int), rfl, rfl, SqL.of eG11, atI_last _ _, .ref K, rfl, .inl ⟨rfl, _, SqL.of k11.eK⟩, K, _, 0, 0, .ref a0, rfl, rfl, k11.eK, by decide, by decide, seq_nat (by rw [List.length_map]; exact Nat.succ_pos _), rfl, a0, _, 0, .int (z0 : Int), rfl, rfl, SqL.of (by rw [upd_ne a0K]; exact eA11), rfl, rfl, _, rfl, ?_⟩
        dsimp only []
        rw [if_neg (by simp)]
        refine hnx _ _ ⟨ds1 ++ [.serve], as0, rfl, ⟨?_, b8.vd.serve hx1ne, ?_, ?_, ?_, ?_⟩⟩
        · rw [stF_snoc, ← eqs]
          show Kst H C r L _ K G as0 (stF ds1).xs.tail (stF ds1).rs.tail _
          rw [hxs, hrs]
          exact k12
        · rw [stF_snoc, ← eqs]
          exact hps1
        · rw [stF_snoc, ← eqs]
          show NN (stF ds1).rs.tail
          exact fun o ho => b8.nn o (List.mem_of_mem_tail ho)
        · exact fun d hd => (List.mem_append.mp hd).elim (b8.ok d) fun h p e => by rw [List.mem_singleton.mp h] at e; cases e
        · rw [List.length_append]
          show _ + 1 ≤ _
          omega
      · rw [if_neg (by simpa using c0)]
        exact hnx _ _ ⟨ds1, as1, rfl, ⟨k9, b8.vd, b8.ps, b8.nn, b8.ok, b8.ld⟩⟩
    obtain ⟨ds2, as2, rfl, b9⟩ := hs
    clear b8 hx1ne
    clear ld8
    have k9 := b9.k
    obtain ⟨dx, fs, hob, hf⟩ := k9.ln.ob
    have lrs := k9.ll
    have las := k9.la
    have hps2 := b9.ps
    have ok2 := b9.vd.ok
    have hlx2 : (stF ds2).xs.length ≤ 16 := by have := ok2.tot; omega
    show tIfS _ _ _ _ [some (.ref r), some (.ref A), some (.ref L.o), some (.ref G), some (.ref K), some (.int (i : Int)), some (.int pv), some (.int (k : Int)), none, none, none] H9
    refine ⟨.ref L.o, rfl, L.o, dx, fs, rfl, hob, hf.queue, L, _, rfl, k9.ln, fun q1 n1 => ?_⟩
    have s10 : Same H9 (upd H9 q1 (.lst (ppl (stF ds2).xs))) := same_upd n1
    have e1 : (upd H9 q1 (.lst (ppl (stF ds2).xs))) q1 = some (.lst (ppl (stF ds2).xs)) := upd_same
    generalize upd H9 q1 (.lst (ppl (stF ds2).xs)) = H10 at s10 e1 ⊢
    have k10 := k9.same s10
    refine ⟨.ref K, rfl, K, rfl, ⟨_, SqL.of k10.eK⟩, fun D nD => ?_⟩
    refine lc_list (K := K0) (a := K) (xs := as2.map V.ref) (fun j H11 => Same H10 H11 ∧ H11 D = some (.lst (ppl ((stF ds2).xs.take j)))) ⟨same_upd nD, upd_same⟩ (fun j H11 _ ⟨s11, _⟩ => SqL.of (s11 _ _ k10.eK)) (fun j x H11 hx ⟨s11, eD⟩ => ?_) (fun H11 ⟨s11, eD⟩ => ?_)
    · have hj : j < as2.length := by have := (List.getElem?_eq_some_iff.mp hx).1; rw [List.length_map] at this; exact this
      obtain ⟨a, ha⟩ : ∃ a, as2[j]? = some a := ⟨_, List.getElem?_eq_getElem hj⟩
      obtain ⟨z, hz⟩ : ∃ z, (stF ds2).xs[j]? = some z := ⟨_, List.getElem?_eq_getElem (by omega)⟩
      obtain ⟨o, ho⟩ : ∃ o, (stF ds2).rs[j]? = some o := ⟨_, List.getElem?_eq_getElem (by omega)⟩
      obtain rfl : x = .ref a := by rw [List.getElem?_map, ha] at hx; exact (Option.some.inj hx).symm
      have e11 := s11 _ _ (k10.at_ j a z o ha hz ho)
      refine ⟨a, _, rfl, SqL.of e11, rfl, .int (z : Int), _, rfl, optV o, _, rfl, rfl, ⟨rfl, yesT ⟨.int (z : Int), rfl, _, eD, small1000 (by rw [ppl_len, List.length_take]; omega), fun b ob e => by rw [upd_ne (fun y => by rw [y, nD] at e; cases e)]; exact s11 b ob e, ?_⟩⟩⟩
      rw [upd_same, List.take_add_one, hz]
      unfold ppl
      rw [List.map_append]
      rfl
    rw [List.length_map, las, List.take_length] at eD
    refine ne_ppl (s11 _ _ e1) eD ⟨_, rfl, ?_⟩
    dsimp only []
    rw [if_neg (by simp)]
    have s911 := s10.trans s11
    have k11 := k9.same s911
    clear s10 s11 k10 e1 eD nD n1
    refine ⟨.ref L.o, rfl, L.o, dx, fs, rfl, s911 _ _ hob, hf.left, L, _, rfl, k11.ln, fun q2 n2 => ?_⟩
    have s12 : Same H11 (upd H11 q2 (.lst ((stF ds2).rs.map optV))) := same_upd n2
    have e2 : (upd H11 q2 (.lst ((stF ds2).rs.map optV))) q2 = some (.lst ((stF ds2).rs.map optV)) := upd_same
    generalize upd H11 q2 (.lst ((stF ds2).rs.map optV)) = H12 at s12 e2 ⊢
    have k12 := k11.same s12
    refine ⟨.ref K, rfl, K, rfl, ⟨_, SqL.of k12.eK⟩, fun D2 nD2 => ?_⟩
    refine lc_list (K := K0) (a := K) (xs := as2.map V.ref) (fun j H13 => Same H12 H13 ∧ H13 D2 = some (.lst (((stF ds2).rs.take j).map optV))) ⟨same_upd nD2, upd_same⟩ (fun j H13 _ ⟨s13, _⟩ => SqL.of (s13 _ _ k12.eK)) (fun j x H13 hx ⟨s13, eD⟩ => ?_) (fun H13 ⟨s13, eD⟩ => ?_)
    · have hj : j < as2.length := by have := (List.getElem?_eq_some_iff.mp hx).1; rw [List.length_map] at this; exact this
      obtain ⟨a, ha⟩ : ∃ a, as2[j]? = some a := ⟨_, List.getElem?_eq_getElem hj⟩
      obtain ⟨z, hz⟩ : ∃ z, (stF ds2).xs[j]? = some z := ⟨_, List.getElem?_eq_getElem (by omega)⟩
      obtain ⟨o, ho⟩ : ∃ o, (stF ds2).rs[j]? = some o := ⟨_, List.getElem?_eq_getElem (by omega)⟩
      obtain rfl : x = .ref a := by rw [List.getElem?_map, ha] at hx; exact (Option.some.inj hx).symm
      have e13 := s13 _ _ (k12.at_ j a z o ha hz ho)
      refine ⟨a, _, rfl, SqL.of e13, rfl, .int (z : Int), _, rfl, optV o, _, rfl, rfl, ⟨rfl, yesT ⟨optV o, rfl, _, eD, small1000 (by rw [List.length_map, List.length_take]; omega), fun b ob e => by rw [upd_ne (fun y => by rw [y, nD2] at e; cases e)]; exact s13 b ob e, ?_⟩⟩⟩
      rw [upd_same, List.take_add_one, ho, List.map_append]
      rfl
    rw [List.length_map, las, ← lrs, List.take_length] at eD
    refine ne_opts (s13 _ _ e2) eD ⟨_, rfl, ?_⟩
    dsimp only []
    rw [if_neg (by decide)]
    exact ⟨ds2, as2, _, _, _, rfl, ⟨k12.same s13, b9.vd, b9.ps, b9.nn, b9.ok, b9.ld⟩⟩
  · obtain ⟨ds, as, y5, y6, y7, rfl, b4⟩ := hP
    rw [lns] at b4
    have k4 := b4.k
    have hv := b4.vd
    have hps := b4.ps
    have hld := b4.ld
    have hlx : (stF ds).xs.length ≤ 16 := by have := hv.ok.tot; omega
    obtain ⟨dx, fs, hob, hf⟩ := k4.ln.ob
    dsimp only []
    show tSeq _ _ _ [some (.ref r), some (.ref A), some (.ref L.o), some (.ref G), some (.ref K), y5, y6, y7, none, none, none] H4
    refine ⟨.ref L.o, rfl, L.o, dx, fs, rfl, hob, hf.hist, L, _, rfl, k4.ln, fun hh ws nh aw => ?_⟩
    rw [stF_ds] at aw
    have s5 : Same H4 (upd H4 hh (.lst ws)) := same_upd nh
    have eh : (upd H4 hh (.lst ws)) hh = some (.lst ws) := upd_same
    generalize upd H4 hh (.lst ws) = H5 at s5 eh ⊢
    have aw5 : All2 (DeedV H5) ws ds := aw.imp fun _ _ => DeedV.kx fun t ys e => s5 _ _ e
    refine ⟨.ref hh, .list (ds.map deedD), ds.map deedD, rfl, .lst eh (deeds_rp aw5), rfl, stand_deeds ds [] (by exact hv) b4.ok, by rw [List.length_map]; omega, fun O H6 s6 nO lO vO => ?_⟩
    rw [map_toDeed ds b4.ok] at lO
    have k6 := (k4.same s5).same s6
    clear aw aw5 eh nh s5 s6 nO vO k4 hob
    dsimp only [gName]
    show tRet _ _ [some (.ref r), some (.ref A), some (.ref L.o), some (.ref G), some (.ref K), y5, y6, y7, some (.ref O.o), none, none] H6
    obtain ⟨dx, fs, hob, _⟩ := k6.ln.ob
    obtain ⟨dxO, fsO, hobO, hfO⟩ := lO.ob
    refine ⟨.ref O.o, rfl, O.o, dxO, fsO, rfl, hobO, hfO.queue, O, _, rfl, lO, fun q1 n1 => ?_⟩
    have s7 : Same H6 (upd H6 q1 (.lst (ppl (stF ds).xs))) := same_upd n1
    have e1 : (upd H6 q1 (.lst (ppl (stF ds).xs))) q1 = some (.lst (ppl (stF ds).xs)) := upd_same
    generalize upd H6 q1 (.lst (ppl (stF ds).xs)) = H7 at s7 e1 ⊢
    obtain ⟨dx, fs, hob, hf⟩ := (k6.same s7).ln.ob
    refine ⟨.ref L.o, rfl, L.o, dx, fs, rfl, hob, hf.queue, L, _, rfl, (k6.same s7).ln, fun q2 n2 => ?_⟩
    have s8 : Same H7 (upd H7 q2 (.lst (ppl (stF ds).xs))) := same_upd n2
    refine eq_ppl (s8 _ _ e1) upd_same ?_
    rw [decide_eq_true rfl]
    refine ⟨_, rfl, ?_⟩
    rw [if_pos rfl]
    have s68 := s7.trans s8
    generalize upd H7 q2 (.lst (ppl (stF ds).xs)) = H8 at s68 ⊢
    clear s7 s8 e1 n1 n2 hob hf hobO hfO
    obtain ⟨dxO, fsO, hobO, hfO⟩ := (lO.same s68).ob
    refine ⟨.ref O.o, rfl, O.o, dxO, fsO, rfl, hobO, hfO.left, O, _, rfl, lO.same s68, fun q3 n3 => ?_⟩
    have s9 : Same H8 (upd H8 q3 (.lst ((stF ds).rs.map optV))) := same_upd n3
    have e3 : (upd H8 q3 (.lst ((stF ds).rs.map optV))) q3 = some (.lst ((stF ds).rs.map optV)) := upd_same
    have s69 := s68.trans s9
    generalize upd H8 q3 (.lst ((stF ds).rs.map optV)) = H9 at s9 e3 s69 ⊢
    obtain ⟨dx, fs, hob, hf⟩ := (k6.same s69).ln.ob
    refine ⟨.ref L.o, rfl, L.o, dx, fs, rfl, hob, hf.left, L, _, rfl, (k6.same s69).ln, fun q4 n4 => ?_⟩
    have s10 : Same H9 (upd H9 q4 (.lst ((stF ds).rs.map optV))) := same_upd n4
    refine eq_opts (s10 _ _ e3) upd_same ?_
    refine ⟨_, rfl, ?_⟩
    rw [if_pos rfl]
    have s610 := s69.trans s10
    generalize upd H9 q4 (.lst ((stF ds).rs.map optV)) = H10 at s610 ⊢
    have kE := k6.same s610
    have lE := lO.same s610
    obtain ⟨dx, fs, hob, _⟩ := kE.ln.ob
    obtain ⟨dxO, fsO, hobO, _⟩ := lE.ob
    refine ⟨.ref O.o, rfl, O.o, dxO, fsO, rfl, hobO, O, _, rfl, lE, _, rfl, by omega, .ref L.o, rfl, L.o, dx, fs, rfl, hob, L, _, rfl, kE.ln, _, rfl, by omega, rfl, _, rfl, ?_⟩
    rw [if_pos (by simp)]
    refine ⟨.ref K, rfl, K, _, rfl, .inl (SqL.of kE.eK), rfl, ?_⟩
    rw [List.length_map, kE.la, decide_eq_true rfl]
    exact q H10 kE.re kE.mv
end
end CL
set_option Elab.async false
set_option linter.all false
set_option pp.maxSteps 900
set_option maxRecDepth 100000
set_option maxHeartbeats 4000000
namespace CL
open PySem PySem.Spec PyProof.Rows L2 GE
abbrev sRG : Stmt := topS 62
abbrev nRG : List Str := ["reel", "patiences", "order", "made", "turn", "other", "at", "to", "k", "small", "great"]
theorem scRG : FnScope nRG ["reel"] (defScope sRG) := ⟨rfl, rfl, rfl, by decide +kernel, rfl, by decide +kernel, by decide +kernel⟩
theorem ix_blk {X : Cx} {s : Shared} {H : Hp} {scope : Scope} {cenv : Env} {fp : List Addr} : IxR (X.blk s H scope cenv fp) (rIxL X.K) := ix_list
theorem lsI_eq (ps : List (Option Int)) : ((List.range ps.length).map (lstN ps)).map V.int = (lsP ps).map optV := by
  unfold lsP
  rw [List.map_map, List.map_map]
  rfl
theorem lsI_len (ps : List (Option Int)) : ((List.range ps.length).map (lstN ps)).length = ps.length := by rw [List.length_map, List.length_range]
theorem lsI_at {ps : List (Option Int)} {j : Nat} (h : j < ps.length) : (((List.range ps.length).map (lstN ps)).map V.int)[j]? = some (.int (lstN ps j)) := by
  rw [List.getElem?_map, List.getElem?_map, List.getElem?_range h]
  rfl
def Klx (r : Addr) (H H' : Hp) : Prop := ∀ b vs, b ≠ r → H b = some (.lst vs) → H' b = some (.lst vs)
theorem tabG_mvr {P r : Addr} {H H' : Hp} (h : GxR.TabG H P) (hr : ReelAt H r) (m : Mv r H H') : GxR.TabG H' P := by
  obtain ⟨ps, e, t⟩ := h
  obtain ⟨x, y, er, _⟩ := hr.ex
  exact ⟨ps, m.keep P _ (fun z => by rw [z, er] at e; cases e) e, t⟩
structure Fr (H0 : Hp) (r P1 P2 P3 P4 : Addr) (G : List (Addr × List V)) (H : Hp) : Prop where
  re : ReelAt H r
  ts : Ts P1 P2 P3 P4 H
  kl : Klx r H0 H
  at_ : ∀ p ∈ G, p.1 ≠ r ∧ H p.1 = some (.lst p.2)
section
variable {H0 H H' : Hp} {r P1 P2 P3 P4 : Addr} {G : List (Addr × List V)}
theorem Fr.mv (f : Fr H0 r P1 P2 P3 P4 G H) (re : ReelAt H' r) (m : Mv r H H') : Fr H0 r P1 P2 P3 P4 G H' :=
  ⟨re, ⟨⟨tabG_mvr f.ts.tb.1 f.re m, tabG_mvr f.ts.tb.2 f.re m⟩, tabG_mvr f.ts.t3 f.re m, tabG_mvr f.ts.t4 f.re m⟩, fun b vs n e => m.keep b _ n (f.kl b vs n e), fun p hp => ⟨(f.at_ p hp).1, m.keep _ _ (f.at_ p hp).1 (f.at_ p hp).2⟩⟩
theorem Fr.ex (f : Fr H0 r P1 P2 P3 P4 G H) (x : Ex H H') : Fr H0 r P1 P2 P3 P4 G H' := by
  obtain ⟨a, b, er, h⟩ := f.re.ex
  exact ⟨⟨a, b, x.lst er, h⟩, f.ts.ex x, fun b vs n e => x.lst (f.kl b vs n e), fun p hp => ⟨(f.at_ p hp).1, x.lst (f.at_ p hp).2⟩⟩
theorem Fr.same (f : Fr H0 r P1 P2 P3 P4 G H) (s : Same H H') : Fr H0 r P1 P2 P3 P4 G H' := f.ex (Ex.of s)
theorem Fr.new (f : Fr H0 r P1 P2 P3 P4 G H) {a : Addr} (n : H a = none) : a ≠ r := fun z => f.re.some (by rw [← z]; exact n)
theorem Fr.push (f : Fr H0 r P1 P2 P3 P4 G H) {a : Addr} {xs : List V} (ha : a ≠ r) (e : H a = some (.lst xs)) : Fr H0 r P1 P2 P3 P4 ((a, xs) :: G) H := ⟨f.re, f.ts, f.kl, fun p hp => by
  rcases List.mem_cons.mp hp with rfl | hp
  · exact ⟨ha, e⟩
  · exact f.at_ p hp⟩
theorem Fr.get (f : Fr H0 r P1 P2 P3 P4 G H) {a : Addr} {xs : List V} (h : (a, xs) ∈ G) : H a = some (.lst xs) := (f.at_ _ h).2
theorem Fr.off (f : Fr H0 r P1 P2 P3 P4 G H) {a : Addr} {xs : List V} (h : (a, xs) ∈ G) : a ≠ r := (f.at_ _ h).1
theorem Fr.fresh (f : Fr H0 r P1 P2 P3 P4 G H) {a : Addr} (n : H a = none) : ∀ vs, H0 a ≠ some (.lst vs) := fun vs e => by
  rw [f.kl a vs (f.new n) e] at n
  cases n
theorem Fr.nin (f : Fr H0 r P1 P2 P3 P4 G H) {a : Addr} (n : H a = none) : ∀ ys, (a, ys) ∉ G := fun ys h => by
  rw [f.get h] at n
  cases n
/-- an own new list is stored -/
theorem Fr.put (f : Fr H0 r P1 P2 P3 P4 G H) {a : Addr} {xs : List V} (ha : a ≠ r) (h0 : ∀ vs, H0 a ≠ some (.lst vs)) (hg : ∀ ys, (a, ys) ∉ G) (ht : ∃ ys, H a = some (.lst ys)) : Fr H0 r P1 P2 P3 P4 G (upd H a (.lst xs)) := by
  obtain ⟨ys, ha2⟩ := ht
  have tb : ∀ {P : Addr}, GxR.TabG H P → GxR.TabG (upd H a (.lst xs)) P := fun {P} h => by
    obtain ⟨ps, e, t⟩ := h
    exact ⟨ps, by rw [upd_ne fun z => by rw [z, ha2] at e; cases e]; exact e, t⟩
  obtain ⟨x, y, er, h⟩ := f.re.ex
  exact ⟨⟨x, y, by rw [upd_ne (Ne.symm ha)]; exact er, h⟩, ⟨⟨tb f.ts.tb.1, tb f.ts.tb.2⟩, tb f.ts.t3, tb f.ts.t4⟩, fun b vs n e => by rw [upd_ne fun z => h0 vs (by rw [← z]; exact e)]; exact f.kl b vs n e, fun p hp => ⟨(f.at_ p hp).1, by rw [upd_ne fun z => hg p.2 (by rw [← z]; exact hp)]; exact (f.at_ p hp).2⟩⟩
end
def spRG (P1 P2 P3 P4 r : Addr) : Sp := fun vs H Q _ => vs = [.ref r] ∧ ReelAt H r ∧ Ts P1 P2 P3 P4 H ∧ ∀ H', Klx r H H' → Ts P1 P2 P3 P4 H' → Q (.bl true) H'
section
variable {P : Program} {w : World} {K : PySem.W.Frag} {mg : Str → Option Value} {base : Heap}
theorem ok_rg {f r P1 P2 P3 P4 : Addr} {fd : FuncData} (F : Fun K "_law_right" "_law_right" sRG f fd) (T : NmO mg) (hzip : mg "zip" = none) (CD : Cal P w K mg base 1 "_law_draw" ["reel", "many"] (spDraw r)) (CLQ : Cal P w K mg base 1 "_law_queue" ["patiences"] spLQ) (CL : Cal P w K mg base 7 "least_patiences" ["order"] (spLeast P3))
    (COR : Cal P w K mg base 12 "_law_order_right" ["order"] (spOR P1 P2 P3 P4)) (CLR : Cal P w K mg base 6 "_law_line_right" ["reel", "patiences"] (spLR r)) : FnOk P w K mg base CX0 13 f fd ["reel"] (spRG P1 P2 P3 P4 r) := by
  refine F.ok scRG (fun vs H Q E ⟨e, _⟩ => by rw [e]; rfl) (fun cdv A' outer s H vs Q E hr h => ?_)
  obtain ⟨rfl, hre, hts, q⟩ := h
  have nd := scRG.nd
  refine ⟨_, (pss_cons (ps_setLc (i := 1) (own := [("k", 8)]) (g := (gName 8)) (tt := tYes) rfl nd rfl rfl (sw_true rfl rfl rfl (by decide +kernel)) (pi_range1 (by rfl) T.range (pa_cons (pe_cal (CD.mono (by decide)) hr (by rfl) (pa_cons (pv 0) (pa_cons pe_int pa_nil))) pa_nil)) (blkOk_by (own := [("k", 8)]) (N := nRG) (sc := (defScope sRG)) (by decide +kernel)) (fun _ _ _ _ _ => (pg_name (i := 8) nd rfl (.inl rfl))) (fun _ _ _ _ _ => pts_nil) (fun _ _ _ _ _ => (pe_cal (CD.mono (by decide)) hr (by rfl) (pa_cons (pv 0) (pa_cons (pe_ix ix_blk (pe_lst (pa_cons pe_int (pa_cons pe_int (pa_cons pe_int pa_nil)))) (pe_cal (CD.mono (by decide)) hr (by rfl) (pa_cons (pv 0) (pa_cons pe_int pa_nil))) (fun _ _ => rfl)) pa_nil)))))
      (pss_cons (ps_set (i := 2) nd rfl (.inl rfl) (pe_cal (CLQ.mono (by decide)) hr (by rfl) (pa_cons (pv 1) pa_nil)))
      (pss_cons (ps_set (i := 3) nd rfl (.inl rfl) (pe_cal (CL.mono (by decide)) hr (by rfl) (pa_cons (pv 2) pa_nil)))
      (pss_cons (ps_if (PW.pt (pw_or (pt_cmp (pc_isN (pv 3))) (pw_or1 (pt_cmpR (op_neE hr.units0) (pe_lc (own := [("small", 9), ("great", 10)]) (g := (gTup K 2 (gCons (gName 9) (gCons (gName 10) gNil)))) rfl nd (pi_zip (by rfl) hzip (pa_cons (pv 3) (pa_cons (pv 1) pa_nil))) (blkOk_by (own := [("small", 9), ("great", 10)]) (N := nRG) (sc := (defScope sRG)) (by decide +kernel)) (fun _ _ _ _ _ => (pg_tup rfl (pgs_cons (pg_name (i := 9) nd rfl (.inl rfl) (.inr rfl)) (pgs_cons (pg_name (i := 10) nd rfl (.inl rfl) (.inr rfl)) pgs_nil)))) (fun _ _ _ _ _ => pts_one (pt_cmpR op_gt (pv 9) (pv 10) (nomark _))) (fun _ _ _ _ _ => pe_int)) (pe_lst pa_nil) (nomark _))))) (pss_one (ps_ret pe_bl)) pss_nil)
      (pss_cons (ps_if (PW.pt (pw_or (pt_not (pt_val (pe_cal (COR.mono (by decide)) hr (by rfl) (pa_cons (pv 2) pa_nil)))) (pw_or (pt_not (pt_val (pe_cal (CLR.mono (by decide)) hr (by rfl) (pa_cons (pv 0) (pa_cons (pv 3) pa_nil))))) (pw_or1 (pt_not (pt_val (pe_cal (CLR.mono (by decide)) hr (by rfl) (pa_cons (pv 0) (pa_cons (pv 1) pa_nil))))))))) (pss_one (ps_ret pe_bl)) pss_nil)
      (pss_cons (ps_for PassesOwn.never rfl (pi_range1 (by rfl) T.range (pa_cons (pe_op op_mul pe_int (pe_callTy call_int1 (by rfl) T.int (by decide +kernel) (pa_cons (pe_cmpR (op_neE hr.units0) (pv 2) (pe_lst pa_nil) (nomark _)) pa_nil))) pa_nil)) (pg_name (i := 4) nd rfl (.inl rfl)) (pss_cons (ps_set (i := 5) nd rfl (.inr rfl) (pe_callTy call_list_of (by rfl) T.list (by decide +kernel) (pa_cons (pv 2) pa_nil)))
      (pss_cons (ps_par (i := 6) (j := 7) rfl nd rfl rfl (by decide) rfl rfl (pa_cons (pe_cal (CD.mono (by decide)) hr (by rfl) (pa_cons (pv 0) (pa_cons (pe_callB call_len_seq (by rfl) T.len PySem.boot_len (pa_cons (pv 5) pa_nil)) pa_nil))) (pa_cons (pe_cal (CD.mono (by decide)) hr (by rfl) (pa_cons (pv 0) (pa_cons (pe_callB call_len_seq (by rfl) T.len PySem.boot_len (pa_cons (pv 5) pa_nil)) pa_nil))) pa_nil)) (by rfl))
      (pss_cons (ps_asg (pe_tup (pa_cons (pe_ix ix_list (pv 5) (pv 7) (fun _ _ => rfl)) (pa_cons (pe_ix ix_list (pv 5) (pv 6) (fun _ _ => rfl)) pa_nil))) (pg_tup rfl (pgs_cons (pg_sub (pv 5) (pv 6) set_list) (pgs_cons (pg_sub (pv 5) (pv 7) set_list) pgs_nil))))
      (pss_cons (ps_if (pt_cmpR op_eq (pv 4) pe_int (nomark _)) (pss_one (ps_set (i := 5) nd rfl (.inr rfl) (pe_lc (own := [("k", 8)]) (g := (gName 8)) (tt := tYes) rfl nd (pi_range1 (by rfl) T.range (pa_cons (pe_callB call_len_seq (by rfl) T.len PySem.boot_len (pa_cons (pv 2) pa_nil)) pa_nil)) (blkOk_by (own := [("k", 8)]) (N := nRG) (sc := (defScope sRG)) (by decide +kernel)) (fun _ _ _ _ _ => (pg_name (i := 8) nd rfl (.inl rfl))) (fun _ _ _ _ _ => pts_nil) (fun _ _ _ _ _ => (pop_blk (pv 5) (pa_cons (pe_cal (CD.mono (by decide)) hr (by rfl) (pa_cons (pv 0) (pa_cons (pe_callB len_blk (by rfl) T.len PySem.boot_len (pa_cons (pv 5) pa_nil)) pa_nil))) pa_nil)))))) pss_nil)
      (pss_one (ps_if (pt_not (pt_val (pe_cal (COR.mono (by decide)) hr (by rfl) (pa_cons (pv 5) pa_nil)))) (pss_one (ps_ret pe_bl)) pss_nil)))))))
      (pss_one (ps_ret pe_bl))))))))
, ?_⟩
  have t140 : (2 : Int) ^ 140 = 1393796574908163946345982392040522594123776 := by decide +kernel
  have F0 : Fr H r P1 P2 P3 P4 [] H := ⟨hre, hts, fun _ _ _ e => e, fun p hp => nomatch hp⟩
  refine ⟨.ref r, rfl, 15, rfl, hre, by decide, by decide, fun n H1 re1 m1 n0 n1 => ⟨n, rfl, by omega, by omega, fun A nA => ?_⟩⟩
  have F1 := F0.mv re1 m1
  have Ar := F1.new nA
  have A0 := F1.fresh nA
  refine lc_range (lo := 0) (n := n.toNat) (fun i H2 => ∃ ns : List Int, Fr H r P1 P2 P3 P4 [] H2 ∧ H2 A = some (.lst (ns.map V.int)) ∧ ns.length = i ∧ ∀ x ∈ ns, 0 ≤ x ∧ x ≤ 60)
    ⟨[], F1.same (same_upd nA), upd_same, rfl, fun x hx => nomatch hx⟩ (fun i H2 hi ⟨ns, F2, eA, ln, hb⟩ => ?_) (fun H2 ⟨ns, F2, eA, ln, hb⟩ => ?_)
  · refine ⟨rfl, yesT ⟨.ref r, rfl, small_le (by show 3 ≤ 1000; decide), fun p np => ?_⟩⟩
    have F3 := (F2.push Ar eA).same (same_upd (o := .lst [.int 2, .int 4, .int 15]) np)
    have F3 := F3.push (F2.new np) upd_same
    refine ⟨.ref r, rfl, 3, rfl, F3.re, by decide, by decide, fun x H4 re4 m4 x0 x1 => ?_⟩
    have F4 := F3.mv re4 m4
    obtain ⟨mv, hmv, hat⟩ : ∃ mv : Int, (1 ≤ mv ∧ mv ≤ 15) ∧ atI [V.int 2, V.int 4, V.int 15] x = some (.int mv) := by
      rcases (show x = 0 ∨ x = 1 ∨ x = 2 by omega) with rfl | rfl | rfl
      · exact ⟨2, by decide, rfl⟩
      · exact ⟨4, by decide, rfl⟩
      · exact ⟨15, by decide, rfl⟩
    refine ⟨p, _, x, .int mv, rfl, rfl, SqL.of (F4.get (xs := [.int 2, .int 4, .int 15]) (by simp)), hat, mv, rfl, F4.re, hmv.1, by rw [t140]; omega, fun v H5 re5 m5 v0 v1 => ?_⟩
    have F5 := F4.mv re5 m5
    refine ⟨ns.map V.int, F5.get (by simp), small1000 (by rw [List.length_map]; omega), ns ++ [v], ?_, by rw [upd_same, List.map_append]; rfl, by rw [List.length_append, ln]; rfl, fun y hy => ?_⟩
    · have F6 : Fr H r P1 P2 P3 P4 [] H5 := ⟨F5.re, F5.ts, F5.kl, fun p hp => nomatch hp⟩
      exact F6.put Ar A0 (fun ys hy => nomatch hy) ⟨ns.map V.int, F5.get (by simp)⟩
    · rcases List.mem_append.mp hy with h | h
      · exact hb y h
      · rw [List.mem_singleton.mp h]
        omega
  have hln : ns.length ≤ 14 := by omega
  clear F1 A0 n0 n1 ln
  have F3 := F2.push Ar eA
  clear F2 eA
  dsimp only [gName]
  show tSeq _ _ _ [some (.ref r), some (.ref A), none, none, none, none, none, none, none, none, none] H2
  refine ⟨.ref A, rfl, A, ns, rfl, F3.get (by simp), by omega, fun x hx => (hb x hx).1, fun O H4 s4 nO eO => ?_⟩
  have F4 := (F3.same s4).push (F3.new nO) eO
  clear F3 s4
  generalize hps : ns.map some = ps at eO F4
  have lps : ps.length = ns.length := by rw [← hps, List.length_map]
  have hord := q_ord ps
  have hoL : (ic (queueF ps)).length ≤ 60 := by rw [ic_len, q_len]; omega
  have hperm : (queueF ps).Perm (List.range ps.length) := (lin_perm ps ps.length).1
  dsimp only [gName]
  show tSeq _ _ _ [some (.ref r), some (.ref A), some (.ref O), none, none, none, none, none, none, none, none] H4
  refine ⟨.ref O, rfl, .ref O, ic (queueF ps), rfl, .inl (.lst (by rw [eO, ppl_ic]) (rp_intsA _)), hord, hoL, F4.ts.t3, fun t u H5 hF x5 t35 hL => ?_⟩
  obtain rfl := hF.uniq q_fst
  obtain ⟨L, rfl, nL, eL⟩ := hL.2 rfl
  rw [least_q] at eL
  have F5 := (F4.ex x5).push (F4.new nL) eL
  clear F4 x5 t35 hL nL nO
  dsimp only [gName]
  show tSeq _ _ _ [some (.ref r), some (.ref A), some (.ref O), some (.ref L), none, none, none, none, none, none, none] H5
  have lls := lsI_len ps
  refine ⟨.ref L, rfl, _, rfl, ?_⟩
  dsimp only
  rw [if_neg (by simp)]
  refine ⟨.ref L, rfl, .ref A, rfl, L, A, _, _, rfl, SqL.of (F5.get (xs := ((List.range ps.length).map (lstN ps)).map V.int) (by simp)), SqL.of (F5.get (xs := ns.map V.int) (by simp)), fun D nD => ?_⟩
  have lzip : ps.length = min (((List.range ps.length).map (lstN ps)).map V.int).length (ns.map V.int).length := by rw [List.length_map, lls, List.length_map, lps]; exact (Nat.min_self _).symm
  refine lc_it (walk_zip (n := ps.length) lzip) (fun i H6 => Same H5 H6 ∧ H6 D = some (.lst [])) ⟨same_upd nD, upd_same⟩ (fun i H6 _ ⟨s6, _⟩ => ⟨SqL.of (s6 _ _ (F5.get (xs := ((List.range ps.length).map (lstN ps)).map V.int) (by simp))), SqL.of (s6 _ _ (F5.get (xs := ns.map V.int) (by simp)))⟩) (fun i x H6 H7 hi ⟨s6, eD⟩ hY => ?_) (fun H6 ⟨s6, eD⟩ => ?_)
  · obtain ⟨T', x, y, rfl, nT', rfl, hx, hy⟩ := hY
    have hx : (((List.range ps.length).map (lstN ps)).map V.int)[i]? = some x := hx
    have hy : (ns.map V.int)[i]? = some y := hy
    rw [lsI_at hi] at hx
    obtain rfl := Option.some.inj hx
    have hin : i < ns.length := by omega
    rw [List.getElem?_map, List.getElem?_eq_getElem hin] at hy
    obtain rfl : V.int ns[i] = y := Option.some.inj hy
    have hq : qOf ps i = some ns[i] := by
      unfold qOf
      rw [← hps, List.getD_eq_getElem?_getD, List.getElem?_map, List.getElem?_eq_getElem hin]
      rfl
    have hle := least_le hq (hb _ (List.getElem_mem hin)).1
    have s7 : Same H6 (upd H6 T' (.tup [.int (lstN ps i), .int ns[i]])) := same_upd nT'
    refine ⟨T', _, rfl, SqT.of upd_same, rfl, .int (lstN ps i), _, rfl, .int ns[i], _, rfl, rfl, rfl, ?_⟩
    refine ⟨.int (lstN ps i), rfl, .int ns[i], rfl, lstN ps i, ns[i], rfl, rfl, decide (ns[i] < lstN ps i), rfl, ?_⟩
    rw [decide_eq_false (by omega)]
    dsimp only
    rw [if_neg (by decide)]
    exact ⟨s6.trans s7, s7 _ _ eD⟩
  have F6 := F5.same s6
  clear F5 s6 lzip
  refine ⟨Nat.zero_le _, fun p np => ⟨D, p, [], rfl, rfl, same_upd np _ _ eD, upd_same, ?_⟩⟩
  refine ⟨_, rfl, ?_⟩
  dsimp only
  rw [if_neg (by decide)]
  have F7 := F6.same (same_upd (o := .lst []) np)
  generalize upd H6 p (.lst []) = H7 at F7 ⊢
  clear F6 np eD
  dsimp only [tNext]
  show tSeq _ _ _ [some (.ref r), some (.ref A), some (.ref O), some (.ref L), none, none, none, none, none, none, none] H7
  refine ⟨.ref O, rfl, O, queueF ps, ps.length, rfl, F7.get (by simp), hperm, by omega, F7.ts, fun H8 x8 => ⟨true, rfl, ?_⟩⟩
  dsimp only
  rw [if_neg (by decide)]
  have F8 := F7.ex x8
  clear F7 x8
  refine ⟨.ref r, rfl, .ref L, rfl, L, _, rfl, F8.get (xs := ((List.range ps.length).map (lstN ps)).map V.int) (by simp), by rw [lls]; omega, fun x hx => ?_, F8.off (xs := ((List.range ps.length).map (lstN ps)).map V.int) (by simp), F8.re, fun H9 re9 m9 => ⟨true, rfl, ?_⟩⟩
  · obtain ⟨j, _, rfl⟩ := List.mem_map.mp hx
    have := lstN_le (ps := ps) j
    have := least_nn (ps := ps) j
    omega
  dsimp only
  rw [if_neg (by decide)]
  have F9 := F8.mv re9 m9
  clear F8 m9 re9
  refine ⟨.ref r, rfl, .ref A, rfl, A, ns, rfl, F9.get (by simp), by omega, hb, F9.off (xs := ns.map V.int) (by simp), F9.re, fun H10 re10 m10 => ⟨true, rfl, ?_⟩⟩
  dsimp only
  rw [if_neg (by decide)]
  have F10 := F9.mv re10 m10
  clear F9 m10 re10
  dsimp only [tNext]
  show tSeq _ _ _ [some (.ref r), some (.ref A), some (.ref O), some (.ref L), none, none, none, none, none, none, none] H10
  refine ⟨.ref O, rfl, Nat.zero_le _, fun p np => ⟨O, p, ppl (queueF ps), rfl, rfl, same_upd np _ _ (F10.get (by simp)), upd_same, .inr ⟨_, rfl, 3, _, rfl, rfl, .inl ⟨by decide, by decide⟩, _, rfl, ?_, ?_, ?_⟩⟩⟩
  · split <;> decide
  · split <;> decide
  have F11 := F10.same (same_upd (o := .lst []) np)
  generalize upd H10 p (.lst []) = H11 at F11 ⊢
  clear F10 np
  generalize hc : (if (!(ppl (queueF ps)).isEmpty) = true then (1 : Int) else 0) = c
  have hc3 : 0 ≤ c ∧ c ≤ 1 ∧ (0 < c → 1 ≤ ps.length) := by
    subst hc
    split
    · rename_i h
      refine ⟨by decide, by decide, fun _ => ?_⟩
      have h2 : (ppl (queueF ps)) ≠ [] := fun z => by rw [z] at h; cases h
      have h3 := List.length_pos_iff.mpr h2
      rw [ppl_len, q_len] at h3
      exact h3
    · exact ⟨by decide, by decide, fun z => absurd z (by decide)⟩
  refine for_range (lo := 0) (n := (3 * c).toNat) (fun i σ H3 => (∃ y4 y5 y6 y7, σ = [some (.ref r), some (.ref A), some (.ref O), some (.ref L), y4, y5, y6, y7, none, none, none]) ∧ Fr H r P1 P2 P3 P4 [(L, ((List.range ps.length).map (lstN ps)).map V.int), (O, ppl (queueF ps)), (A, ns.map V.int)] H3)
    ⟨⟨none, none, none, none, rfl⟩, F11⟩ (fun i σ H12 hi hP => ?_) (fun σ H12 hP => ?_)
  · obtain ⟨⟨y4, y5, y6, y7, rfl⟩, F12⟩ := hP
    have hN1 : 1 ≤ ps.length := hc3.2.2 (by omega)
    have hi3 : i < 3 := by omega
    clear F11 hc3 hc hi
    dsimp only [gName]
    show tSeq _ _ _ [some (.ref r), some (.ref A), some (.ref O), some (.ref L), some (.int (0 + (i : Int))), y5, y6, y7, none, none, none] H12
    refine ⟨.ref O, rfl, O, _, rfl, .inl (SqL.of (F12.get (xs := ppl (queueF ps)) (by simp))), fun T nT => ?_⟩
    have F13 := F12.same (same_upd (o := .lst (ppl (queueF ps))) nT)
    have Tr := F12.new nT
    have T0 := F12.fresh nT
    have TG := F12.nin nT
    have eT : (upd H12 T (.lst (ppl (queueF ps)))) T = some (.lst (ppl (queueF ps))) := upd_same
    generalize upd H12 T (.lst (ppl (queueF ps))) = H13 at F13 eT ⊢
    clear F12 nT
    generalize hys : queueF ps = ys at hperm eT
    have lys : ys.length = ps.length := by rw [hperm.length_eq, List.length_range]
    dsimp only [gName]
    show tSeq _ _ _ [some (.ref r), some (.ref A), some (.ref O), some (.ref L), some (.int (0 + (i : Int))), some (.ref T), y6, y7, none, none, none] H13
    refine ⟨.ref r, rfl, .ref T, rfl, T, _, rfl, .inl (SqL.of eT), ((ppl ys).length : Int), rfl, F13.re, by rw [ppl_len]; omega, by rw [ppl_len, t140]; omega, fun x5 H14 re14 m14 a5 c5 => ?_⟩
    have F14 := F13.mv re14 m14
    have eT := m14.keep T _ Tr eT
    refine ⟨.ref r, rfl, .ref T, rfl, T, _, rfl, .inl (SqL.of eT), ((ppl ys).length : Int), rfl, F14.re, by rw [ppl_len]; omega, by rw [ppl_len, t140]; omega, fun x6 H15 re15 m15 a6 c6 => ⟨_, _, rfl, ?_⟩⟩
    have F15 := F14.mv re15 m15
    have eT := m15.keep T _ Tr eT
    rw [ppl_len] at c5 c6
    obtain ⟨one, rfl⟩ : ∃ j : Nat, x5 = (j : Int) := ⟨x5.toNat, by omega⟩
    obtain ⟨other, rfl⟩ : ∃ j : Nat, x6 = (j : Int) := ⟨x6.toNat, by omega⟩
    have h1 : one < ys.length := by omega
    have h3 : other < ys.length := by omega
    clear F13 F14 m14 m15 re14 re15
    refine ⟨.ref T, rfl, .int other, rfl, T, _, other, _, rfl, rfl, SqL.of eT, atI_nat (ppl_get h3), .ref T, rfl, .int one, rfl, T, _, one, _, rfl, rfl, SqL.of eT, atI_nat (ppl_get h1), small_le (by show 2 ≤ 1000; decide), fun t nt => ?_⟩
    have s16 : Same H15 (upd H15 t (.tup [.int (ys[other] : Int), .int (ys[one] : Int)])) := same_upd nt
    have e16 : (upd H15 t (.tup [.int (ys[other] : Int), .int (ys[one] : Int)])) t = some (.tup [.int (ys[other] : Int), .int (ys[one] : Int)]) := upd_same
    generalize upd H15 t (.tup [.int (ys[other] : Int), .int (ys[one] : Int)]) = H16 at s16 e16
    have F16 := F15.same s16
    have eT := s16 _ _ eT
    clear F15 s16
    refine ⟨t, _, rfl, SqT.of e16, rfl, _, _, rfl, .ref T, rfl, .int one, rfl, T, _, one, one, rfl, rfl, eT, ixN_nat (by rw [ppl_len]; exact h1), _, _, rfl, .ref T, rfl, .int other, rfl, T, _, other, other, rfl, rfl, upd_same, ixN_nat (by rw [List.length_set, ppl_len]; exact h3), rfl, ?_⟩
    have F17 := (F16.put (xs := (ppl ys).set one (.int (ys[other] : Int))) Tr T0 TG ⟨_, eT⟩).put (xs := ((ppl ys).set one (.int (ys[other] : Int))).set other (.int (ys[one] : Int))) Tr T0 TG ⟨_, upd_same⟩
    have hswp : ((ys.set one ys[other]).set other ys[one]).Perm (List.range ps.length) := (List.set_set_perm h1 h3).trans hperm
    have eT17 : (upd (upd H16 T (.lst ((ppl ys).set one (.int (ys[other] : Int))))) T (.lst (((ppl ys).set one (.int (ys[other] : Int))).set other (.int (ys[one] : Int))))) T = some (.lst (ppl ((ys.set one ys[other]).set other ys[one]))) := by
      rw [upd_same]
      unfold ppl
      rw [List.map_set, List.map_set]
    generalize upd (upd H16 T (.lst ((ppl ys).set one (.int (ys[other] : Int))))) T (.lst (((ppl ys).set one (.int (ys[other] : Int))).set other (.int (ys[one] : Int)))) = H17 at F17 eT17 ⊢
    generalize (ys.set one ys[other]).set other ys[one] = zs at hswp eT17
    clear F16 eT e16 nt
    have lzs : zs.length = ps.length := by rw [hswp.length_eq, List.length_range]
    dsimp only []
    show tSeq _ _ _ [some (.ref r), some (.ref A), some (.ref O), some (.ref L), some (.int (0 + (i : Int))), some (.ref T), some (.int (one : Int)), some (.int (other : Int)), none, none, none] H17
    subst hys
    refine seqP (fun σ' H' => ∃ T' zs', σ' = [some (.ref r), some (.ref A), some (.ref O), some (.ref L), some (.int (0 + (i : Int))), some (.ref T'), some (.int (one : Int)), some (.int (other : Int)), none, none, none] ∧ Fr H r P1 P2 P3 P4 [(L, ((List.range ps.length).map (lstN ps)).map V.int), (O, ppl (queueF ps)), (A, ns.map V.int)] H' ∧ H' T' = some (.lst (ppl zs')) ∧ zs'.Perm (List.range ps.length)) (fun σ' H18 hs => ?_) (fun nx hnx => ?_)
    · obtain ⟨T', zs', rfl, F18, eT', hp'⟩ := hs
      refine ⟨.ref T', rfl, T', zs', ps.length, rfl, eT', hp', by omega, F18.ts, fun H19 x19 => ⟨true, rfl, iteF ?_⟩⟩
      exact ⟨⟨_, _, _, _, rfl⟩, F18.ex x19⟩
    refine ⟨.int (0 + (i : Int)), rfl, rfl, _, rfl, ?_⟩
    by_cases c2 : i = 2
    · dsimp only []
      rw [if_pos (by subst c2; decide)]
      refine ⟨.ref O, rfl, O, _, rfl, .inl (SqL.of (F17.get (xs := ppl (queueF ps)) (by simp))), ((ppl (queueF ps)).length : Int), rfl, by rw [ppl_len, q_len]; omega, by rw [ppl_len, q_len]; omega, fun D nD => ?_⟩
      have Dr := F17.new nD
      have D0 := F17.fresh nD
      have DG := F17.nin nD
      have nDT : D ≠ T := fun z => by rw [z, eT17] at nD; cases nD
      rw [ppl_len, q_len]
      refine lc_range (lo := 0) (n := ((ps.length : Nat) : Int).toNat) (fun j H18 => ∃ (out rest : List Nat), Fr H r P1 P2 P3 P4 [(L, ((List.range ps.length).map (lstN ps)).map V.int), (O, ppl (queueF ps)), (A, ns.map V.int)] H18 ∧ H18 T = some (.lst (ppl rest)) ∧ H18 D = some (.lst (ppl out)) ∧ (out ++ rest).Perm (List.range ps.length) ∧ out.length = j)
        ⟨[], zs, F17.same (same_upd nD), by rw [upd_ne (Ne.symm nDT)]; exact eT17, upd_same, hswp, rfl⟩ (fun j H18 hj ⟨out, rest, F18, eT, eD, hp, lo⟩ => ?_) (fun H18 ⟨out, rest, F18, eT, eD, hp, lo⟩ => ?_)
      · have lt := hp.length_eq
        rw [List.length_append, List.length_range] at lt
        have hj' : j < ps.length := hj
        refine ⟨rfl, yesT ?_⟩
        refine ⟨.ref T, rfl, .inl ⟨rfl, _, SqL.of eT⟩, .ref r, rfl, .ref T, rfl, T, _, rfl, .inl (SqL.of eT), ((ppl rest).length : Int), rfl, F18.re, by rw [ppl_len]; omega, by rw [ppl_len, t140]; omega, fun x H19 re19 m19 x0 x1 => ?_⟩
        rw [ppl_len] at x1
        obtain ⟨u, rfl⟩ : ∃ j : Nat, x = (j : Int) := ⟨x.toNat, by omega⟩
        have hu : u < rest.length := by omega
        have F19 := F18.mv re19 m19
        have eT := m19.keep T _ Tr eT
        have eD := m19.keep D _ Dr eD
        refine ⟨T, _, u, u, .int (rest[u] : Int), rfl, rfl, eT, by omega, by omega, seq_nat (by rw [ppl_len]; exact hu), ppl_get hu, ppl out, by rw [upd_ne nDT]; exact eD, small1000 (by rw [ppl_len]; omega), out ++ [rest[u]], rest.eraseIdx u, ?_, ?_, ?_, ?_, ?_⟩
        · exact (F19.put Tr T0 TG ⟨_, eT⟩).put Dr D0 DG ⟨ppl out, by rw [upd_ne nDT]; exact eD⟩
        · rw [upd_ne (Ne.symm nDT), upd_same]
          exact congrArg (fun z => some (HO.lst z)) (erase_ppl rest u)
        · rw [upd_same]
          unfold ppl
          rw [List.map_append]
          rfl
        · refine List.Perm.trans ?_ hp
          rw [List.append_assoc]
          refine List.Perm.append_left out ?_
          exact (perm_erase hu).symm
        · rw [List.length_append, lo]; rfl
      · have lm : ((ps.length : Nat) : Int).toNat = ps.length := rfl
        rw [lm] at lo
        have lt := hp.length_eq
        rw [List.length_append, List.length_range] at lt
        obtain rfl : rest = [] := List.eq_nil_of_length_eq_zero (by omega)
        rw [List.append_nil] at hp
        exact hnx _ _ ⟨D, out, rfl, F18, eD, hp⟩
    · dsimp only []
      rw [if_neg (by simp; omega)]
      exact hnx _ _ ⟨T, zs, rfl, F17, eT17, hswp⟩
  · exact q _ hP.2.kl hP.2.ts
end
end CL
set_option Elab.async false
set_option linter.all false
set_option pp.maxSteps 900
set_option maxRecDepth 100000
set_option maxHeartbeats 4000000
namespace CL
open PySem PySem.Spec PyProof.Rows L2 GE
structure FnG (P : Program) (w : World) (K : PySem.W.Frag) (mg : Str → Option Value) (base : Heap) (k : Nat) (f : Addr) (fd : FuncData) (ps : List Str) (sp : Sp) : Prop where
  run : ∀ (A : Around) (outer : List Env) (s : Shared) (H : Hp) (args : Args) (us : List Value) (vs : List V) (Q : VK) (E : XK), A.guards = some [] → Room k A → Env0 P w K mg base A outer s H → BindsTo s fd args (ps.zip us) → Vals vs us → sp vs H Q E →
    codeAny (model P w) A (.call (.ref f) args) (CR CX0 outer P w H s Q E) s
abbrev sLaw : Stmt := topS 63
abbrev nLaw : List Str := ["script", "cells", "k", "cell"]
theorem scLaw : FnScope nLaw ["script"] (defScope sLaw) := ⟨rfl, rfl, rfl, by decide +kernel, rfl, by decide +kernel, by decide +kernel⟩
def spE (sp : Addr → Sp) : Sp := fun vs H Q E => ∃ r, sp r vs H Q E
def spLaw (K : PySem.W.Frag) (P1 P2 P3 P4 : Addr) : Sp := fun vs H Q _ => ∃ (a : Addr) (ns : List Int), vs = [.ref a] ∧ SqL K H a (ns.map V.int) ∧ ns.length ≤ 63 ∧ Tb P1 P2 H ∧ GxR.TabG H P3 ∧ GxR.TabG H P4 ∧ ∀ H', Q (.bl true) H'
section
variable {P : Program} {w : World} {K : PySem.W.Frag} {mg : Str → Option Value} {base : Heap}
theorem ok_law {f P1 P2 P3 P4 : Addr} {fd : FuncData} (F : Fun K "law" "law" sLaw f fd) (T : Nm mg) (hmin : mg "min" = none) (hmax : mg "max" = none) (henum : mg "enumerate" = none) (CE : Cal P w K mg base 1 "_law_reel" ["cell", "k"] spReel) (CR : Cal P w K mg base 13 "_law_right" ["reel"] (spE fun r => spRG P1 P2 P3 P4 r)) : FnOk P w K mg base CX0 14 f fd ["script"] (spLaw K P1 P2 P3 P4) := by
  refine F.ok scLaw (fun vs H Q E ⟨a, ns, e, _⟩ => by rw [e]; rfl) (fun cdv A outer s H vs Q E hr h => ?_)
  obtain ⟨a, ns, rfl, hS, h63, tb, t3, t4, q⟩ := h
  have nd := scLaw.nd
  refine ⟨_, (pss_cons (ps_set (i := 1) nd rfl (.inl rfl) (pe_slice sl_list (pe_op op_cat (pe_slice sl_list (pv 0) po_none (po_some pe_int)) (pe_lst (pa_cons pe_int pa_nil))) po_none (po_some (pe_callB (call_max2 rfl) (by rfl) hmax (by decide +kernel) (pa_cons pe_int (pa_cons (pe_callB (call_min2 rfl) (by rfl) hmin (by decide +kernel) (pa_cons pe_int (pa_cons (pe_callB call_len_seq (by rfl) T.len PySem.boot_len (pa_cons (pv 0) pa_nil)) pa_nil))) pa_nil))))))
      (pss_one (ps_ret (pe_cmpR (op_eqD hr.units) (pe_lc (own := [("k", 2), ("cell", 3)]) (g := (gTup K 2 (gCons (gName 2) (gCons (gName 3) gNil)))) rfl nd (pi_enum (by rfl) henum (pa_cons (pv 1) pa_nil)) (blkOk_by (own := [("k", 2), ("cell", 3)]) (N := nLaw) (sc := (defScope sLaw)) (by decide +kernel)) (fun _ _ _ _ _ => (pg_tup rfl (pgs_cons (pg_name (i := 2) nd rfl (.inl rfl) (.inr rfl)) (pgs_cons (pg_name (i := 3) nd rfl (.inl rfl) (.inr rfl)) pgs_nil)))) (fun _ _ _ _ _ => pts_one (pt_not (pt_val (pe_cal (CR.mono (by decide)) hr (by rfl) (pa_cons (pe_cal (CE.mono (by decide)) hr (by rfl) (pa_cons (pv 3) (pa_cons (pv 2) pa_nil))) pa_nil))))) (fun _ _ _ _ _ => (pv 2))) (pe_lst pa_nil) (nomark _))))), ?_⟩
  have lm : (ns.map V.int).length = ns.length := List.length_map ..
  refine ⟨.ref a, rfl, 6, rfl, a, _, rfl, hS, fun p1 np1 => ?_⟩
  rw [show cutV (ns.map V.int) none (some 6) = (ns.map V.int).take 6 from cut_to _ 6]
  have s1 := same_upd (o := .lst ((ns.map V.int).take 6)) np1
  have e1 : (upd H p1 (.lst ((ns.map V.int).take 6))) p1 = some (.lst ((ns.map V.int).take 6)) := upd_same
  have hS1 := s1.seq hS
  have tb1 := tb.same s1
  have t31 := tabG_same s1 t3
  have t41 := tabG_same s1 t4
  generalize upd H p1 (.lst ((ns.map V.int).take 6)) = H1 at s1 e1 hS1 tb1 t31 t41 ⊢
  refine ⟨small_le (by show 1 ≤ 1000; decide), fun p2 np2 => ?_⟩
  have s2 := same_upd (o := .lst [.int 0]) np2
  have e2 : (upd H1 p2 (.lst [.int 0])) p2 = some (.lst [.int 0]) := upd_same
  have e12 := s2 _ _ e1
  have hS2 := s2.seq hS1
  have tb2 := tb1.same s2
  have t32 := tabG_same s2 t31
  have t42 := tabG_same s2 t41
  show rCat (.ref p1) (.ref p2) (upd H1 p2 (.lst [.int 0])) _
  generalize upd H1 p2 (.lst [.int 0]) = H2 at s2 e2 e12 hS2 tb2 t32 t42 ⊢
  refine ⟨p1, p2, _, _, rfl, rfl, e12, e2, small_add (by rw [List.length_take]; omega) (by show 1 ≤ 1000; decide), fun p3 np3 => ?_⟩
  have s3 := same_upd (o := .lst ((ns.map V.int).take 6 ++ [.int 0])) np3
  have e3 : (upd H2 p3 (.lst ((ns.map V.int).take 6 ++ [.int 0]))) p3 = some (.lst ((ns.map V.int).take 6 ++ [.int 0])) := upd_same
  have hS3 := s3.seq hS2
  have tb3 := tb2.same s3
  have t33 := tabG_same s3 t32
  have t43 := tabG_same s3 t42
  generalize upd H2 p3 (.lst ((ns.map V.int).take 6 ++ [.int 0])) = H3 at s3 e3 hS3 tb3 t33 t43 ⊢
  refine ⟨.ref a, rfl, a, ns.map V.int, rfl, .inl hS3, 6, _, rfl, 1, _, rfl, _, rfl, p3, _, rfl, SqL.of e3, fun c nc => ?_⟩
  obtain ⟨n, hn⟩ : ∃ n : Nat, (if (if ((ns.map V.int).length : Int) < 6 then ((ns.map V.int).length : Int) else 6) > 1 then (if ((ns.map V.int).length : Int) < 6 then ((ns.map V.int).length : Int) else 6) else 1) = (n : Int) := ⟨_, (Int.toNat_of_nonneg (by split <;> omega)).symm⟩
  rw [hn, cut_to]
  have hxs : ∀ x ∈ ((ns.map V.int).take 6 ++ [V.int 0]).take n, ∃ i, x = .int i := fun x hx => by
    rcases List.mem_append.mp (List.mem_of_mem_take hx) with h | h
    · obtain ⟨i, _, rfl⟩ := List.mem_map.mp (List.mem_of_mem_take h)
      exact ⟨i, rfl⟩
    · exact ⟨0, List.mem_singleton.mp h⟩
  have hlx : (((ns.map V.int).take 6 ++ [V.int 0]).take n).length ≤ 7 := by
    rw [List.length_take, List.length_append, List.length_take, List.length_singleton]
    omega
  generalize ((ns.map V.int).take 6 ++ [V.int 0]).take n = xs at hxs hlx ⊢
  have s4 := same_upd (o := .lst xs) nc
  have e4 : (upd H3 c (.lst xs)) c = some (.lst xs) := upd_same
  have tb4 := tb3.same s4
  have t34 := tabG_same s4 t33
  have t44 := tabG_same s4 t43
  generalize upd H3 c (.lst xs) = H4 at s4 e4 tb4 t34 t44 ⊢
  dsimp only [gName]
  show tRet _ _ [some (.ref a), some (.ref c), none, none] H4
  refine ⟨.ref c, rfl, c, xs, rfl, SqL.of e4, fun D hD => ?_⟩
  have cD : c ≠ D := fun z => by rw [← z, e4] at hD; cases hD
  refine lc_it (walk_enum (xs := xs)) (fun i H5 => Tb P1 P2 H5 ∧ GxR.TabG H5 P3 ∧ GxR.TabG H5 P4 ∧ H5 c = some (.lst xs) ∧ H5 D = some (.lst [])) ⟨tb4.same (same_upd hD), tabG_same (same_upd hD) t34, tabG_same (same_upd hD) t44, by rw [upd_ne cD]; exact e4, upd_same⟩ (fun i H5 _ hP => SqL.of hP.2.2.2.1) (fun i x H5 H6 hi hP hY => ?_) (fun H5 hP => ?_)
  · obtain ⟨tb5, t35, t45, ec5, eD5⟩ := hP
    obtain ⟨Tt, xi, xc, rfl, nT, rfl, hxi, hxc⟩ := hY
    cases hxi
    obtain ⟨cc, rfl⟩ := hxs xc (List.mem_of_getElem? hxc)
    have s6 := same_upd (o := .tup [.int (i : Nat), .int cc]) nT
    have e6 : (upd H5 Tt (.tup [.int (i : Nat), .int cc])) Tt = some (.tup [.int (i : Nat), .int cc]) := upd_same
    have tb6 := tb5.same s6
    have ec6 := s6 _ _ ec5
    have eD6 := s6 _ _ eD5
    generalize upd H5 Tt (.tup [.int (i : Nat), .int cc]) = H6 at s6 e6 tb6 ec6 eD6 ⊢
    refine ⟨Tt, _, rfl, SqT.of e6, rfl, .int (i : Nat), _, rfl, .int cc, _, rfl, rfl, rfl, ?_⟩
    refine ⟨.int cc, rfl, .int (i : Nat), rfl, cc, i, rfl, by omega, fun r H7 s7 nr re7 => ?_⟩
    have ec7 := s7 _ _ ec6
    have eD7 := s7 _ _ eD6
    refine ⟨r, rfl, re7, ⟨tb6.same s7, tabG_same s7 (tabG_same s6 t35), tabG_same s7 (tabG_same s6 t45)⟩, fun H8 k8 ts8 => ?_⟩
    have ec8 := k8 _ _ (fun z => by rw [z, nr] at ec6; cases ec6) ec7
    have eD8 := k8 _ _ (fun z => by rw [z, nr] at eD6; cases eD6) eD7
    refine ⟨true, rfl, ?_⟩
    exact ⟨ts8.tb, ts8.t3, ts8.t4, ec8, eD8⟩
  · obtain ⟨tb5, t35, t45, ec5, eD5⟩ := hP
    refine ⟨small_le (by show 0 ≤ 1000; decide), fun E1 nE1 => ?_⟩
    have s6 := same_upd (o := .lst []) nE1
    refine ⟨.list [], .list [], .lst (SqL.of (s6 _ _ eD5)) .nil, .lst (SqL.of upd_same) .nil, rfl, rfl, ?_⟩
    rw [show PyData.eqv (.list []) (.list []) = true from (eqv_lists [] []).trans (decide_eq_true rfl)]
    exact q _
end
end CL
set_option Elab.async false
set_option linter.all false
set_option maxRecDepth 100000
set_option maxHeartbeats 4000000
namespace CL
open PySem PySem.Spec PyProof.Rows L2 GE
/-! ### the end: what is tracked when the law is called, and that the run leaves the heap as it was but for the tables -/
def H0 (ts : List Addr) (K : PySem.W.Frag) (a : Addr) (vs : List Value) (ns : List Int) : Hp := fun b =>
  if b ∈ ts then some (.tbl #[]) else if b = a ∧ (K.lookup a).isNone = true then some (.frz { cls := .type "list", data := .seq vs.toArray } (.lst (ns.map V.int))) else none
section
variable {ts : List Addr} {K : PySem.W.Frag} {a : Addr} {vs : List Value} {ns : List Int} {h : Heap}
theorem H0.tab {b : Addr} (m : b ∈ ts) : H0 ts K a vs ns b = some (.tbl #[]) := if_pos m
theorem H0.cases {b : Addr} {u : HO} (e : H0 ts K a vs ns b = some u) : (b ∈ ts ∧ u = .tbl #[]) ∨ (b = a ∧ K.lookup a = none ∧ u = .frz { cls := .type "list", data := .seq vs.toArray } (.lst (ns.map V.int))) := by
  unfold H0 at e
  split at e
  · rename_i m
    exact .inl ⟨m, (Option.some.inj e).symm⟩
  · split at e
    · rename_i z
      exact .inr ⟨z.1, Option.isNone_iff_eq_none.mp z.2, (Option.some.inj e).symm⟩
    · cases e
/-- an object that is no list and no empty table is not tracked -/
theorem H0.other (hT : ∀ b ∈ ts, h.get? b = some { cls := .none, data := .fields #[] }) (ha : h.get? a = some { cls := .type "list", data := .seq vs.toArray }) {b : Addr} {o : Obj} (e : h.get? b = some o) (h1 : o.data ≠ .seq vs.toArray) (h2 : o.data ≠ .fields #[]) :
    H0 ts K a vs ns b = none := by
  cases q : H0 ts K a vs ns b with
  | none => rfl
  | some u =>
    rcases H0.cases q with ⟨m, _⟩ | ⟨rfl, _, _⟩
    · rw [hT b m] at e
      cases e
      exact absurd rfl h2
    · rw [ha] at e
      cases e
      exact absurd rfl h1
end
theorem end_own {P : Program} {w : World} {K : PySem.W.Frag} {mg mb : Str → Option Value} {q : Program} {loose : List Str} {mean : ExcName → Option Value} {k : Nat} {fa a : Addr} {fd : FuncData} {x : Str} {sp : Sp} {s₁ : Shared} {vs : List Value} {ns : List Int} (ts : List Addr)
    (KX : K.In s₁.heap) (T : Top q loose mean mg mb s₁.heap) (hi0 : importsNone q = true) (hg : s₁.gens = #[])
    (hT : ∀ b ∈ ts, s₁.heap.get? b = some { cls := .none, data := .fields #[] }) (hC : ∀ b ∈ ts, ∃ c, PySem.W.codeHdIn K c b = true) (nT : ∀ b ∈ ts, K.lookup b = none)
    (ha : s₁.heap.get? a = some { cls := .type "list", data := .seq vs.toArray }) (hi : IntsAre vs ns) (hl : ns.length ≤ sizeLine) (hr : Room k callerA)
    (F : ∀ base : Heap, K.In base → base.Ns mainGlobals mg → (∃ o, base.get? sysModules = some o) → (∀ b ∈ ts, base.BuiltinsAt mg b ∧ mainGlobals ≠ b) → FnG P w K mg base k fa fd [x] sp)
    (hbind : ∀ (s : Shared) (u : Value), BindsTo s fd ⟨[u], []⟩ [(x, u)])
    (hsp : ∀ H : Hp, (∀ b ∈ ts, H b = some (.tbl #[])) → SqL K H a (ns.map V.int) → sp [.ref a] H (fun v _ => v = .bl true) fun _ _ _ => False) :
    codeAny (model P w) callerA (.call (.ref fa) ⟨[.ref a], []⟩) (fun r s' => r = .ok (.ret (.bool true)) ∧ OldK s₁.heap s'.heap ∧ s'.os = s₁.os ∧ AllBare s'.gens) s₁ := by
  have rv := vals_ints hi
  have aT : a ∉ ts := fun m => by
    have z := hT a m
    rw [ha] at z
    cases z
  generalize hH : H0 ts K a vs ns = H
  have tabs : ∀ b ∈ ts, H b = some (.tbl #[]) := fun b m => by rw [← hH]; exact H0.tab m
  have cs : ∀ {b : Addr} {u : HO}, H b = some u → (b ∈ ts ∧ u = .tbl #[]) ∨ (b = a ∧ K.lookup a = none ∧ u = .frz { cls := .type "list", data := .seq vs.toArray } (.lst (ns.map V.int))) := fun e => by
    rw [← hH] at e
    exact H0.cases e
  have oth : ∀ {b : Addr} {o : Obj}, s₁.heap.get? b = some o → o.data ≠ .seq vs.toArray → o.data ≠ .fields #[] → H b = none := fun e h1 h2 => by
    rw [← hH]
    exact H0.other hT ha e h1 h2
  have inB : ∀ {b : Addr} {o : Obj}, s₁.heap.get? b = some o → H b = none → (hidT s₁.heap H).get? b = some o := fun e n => hidT_get e n
  have nsB : ∀ {b : Addr} {m : Str → Option Value}, s₁.heap.Ns b m → (hidT s₁.heap H).Ns b m := fun ⟨o, es, ep, e, d, r⟩ => ⟨o, es, ep, inB e (oth e (by rw [d]; exact nofun) (by rw [d]; exact nofun)), d, r⟩
  have hok : HOk P w H s₁.heap := fun b u e => by
    rcases cs e with ⟨m, rfl⟩ | ⟨rfl, _, rfl⟩
    · exact hT b m
    · exact ⟨ha, by rw [List.length_map]; exact hl, vs, _, rv, ha⟩
  have hS : SqL K H a (ns.map V.int) := by
    cases hk : K.lookup a with
    | some o =>
      have e := KX a o hk
      rw [ha] at e
      cases e
      exact .inr ⟨_, vs.toArray, _, hk, rfl, rfl, rfl, by rw [List.size_toArray, hi.length]; exact hl, by simpa using rv⟩
    | none =>
      have e : H a = some (.frz { cls := .type "list", data := .seq vs.toArray } (.lst (ns.map V.int))) := by
        rw [← hH]
        unfold H0
        rw [if_neg aT, if_pos ⟨rfl, by rw [hk]; rfl⟩]
      exact .inl (.inr ⟨_, e⟩)
  have KB : K.In (hidT s₁.heap H) := fun b o e => inB (KX b o e) (by
    cases z : H b with
    | none => rfl
    | some u =>
      rcases cs z with ⟨m, _⟩ | ⟨rfl, n, _⟩
      · rw [nT b m] at e; cases e
      · rw [n] at e; cases e)
  have hM : L2.Mod K mg (hidT s₁.heap H) := ⟨KB, nsB T.g, ⟨mb, nsB T.b, T.builtins⟩, let ⟨mc, h1, h2⟩ := T.nolimit; ⟨mc, nsB h1, h2⟩⟩
  have sysB : ∃ o, (hidT s₁.heap H).get? sysModules = some o := by
    obtain ⟨mm, ⟨o, es, ep, e, d, _⟩, _⟩ := (T.seer hi0).mods
    exact ⟨o, inB e (oth e (by rw [d]; exact nofun) (by rw [d]; exact nofun))⟩
  have gB : ∀ b ∈ ts, mainGlobals ≠ b := fun b m z => by
    obtain ⟨o, es, ep, e, d, _⟩ := T.g
    rw [z, hT b m] at e
    cases e
    cases d
  have bB : ∀ b ∈ ts, (hidT s₁.heap H).BuiltinsAt mg b := fun b m => by
    obtain ⟨bm, ob, b1, b2, b3, b4, b5, b6⟩ := T.bmain
    refine ⟨bm, ob, b1, b2, fun z => ?_, fun z => ?_, inB b3 (oth b3 (by rw [b6]; exact nofun) (by rw [b6]; exact nofun)), b4, b5, b6⟩
    · obtain ⟨o, es, ep, e, d, _⟩ := T.g
      rw [z, e] at b3
      cases b3
      rw [d] at b6
      cases b6
    · rw [z, hT b m] at b3
      cases b3
      cases b6
  have e0 : Env0 P w K mg (hidT s₁.heap H) callerA [] s₁ H := ⟨rfl, hM, fun b o e => of_hidT e, Nat.le_of_eq (hidT_size _ _), trivial, fun b hb => absurd (show b ∈ ([] : List Addr) from hb) (by simp), hok, .of_eq hg⟩
  have G := F _ KB (nsB T.g) sysB fun b m => ⟨bB b m, gB b m⟩
  refine codeAny_mono (G.run callerA [] s₁ H ⟨[.ref a], []⟩ [.ref a] [.ref a] _ _ rfl hr e0 (hbind s₁ (.ref a)) (.cons rfl .nil) (hsp H tabs hS)) fun r s' z => ?_
  cases r with
  | error e => exact False.elim z
  | ok fl =>
    cases fl with
    | next => exact False.elim z
    | brk => exact False.elim z
    | cont => exact False.elim z
    | ret u =>
      obtain ⟨v, H', os, bare, un, hok', r', e'⟩ := z
      obtain rfl : v = .bl true := e'
      obtain rfl : u = Value.bool true := r'
      have stays : ∀ b o, b ∉ ts → s₁.heap.get? b = some o → s'.heap.get? b = some o := fun b o nb e => by
        cases z : H b with
        | none => exact un.keep b o e z (fun y => absurd (show b ∈ ([] : List Addr) from y) (by simp)) (by simp)
        | some u =>
          rcases cs z with ⟨m, _⟩ | ⟨rfl, _, rfl⟩
          · exact absurd m nb
          · rw [ha] at e
            cases e
            exact (hok' _ _ (un.frzs _ _ _ z)).1
      have grow : ∀ b ∈ ts, ∃ more : Array Value, s'.heap.get? b = some { cls := .none, data := .fields more } := fun b m => by
        obtain ⟨more, e⟩ := un.tbls b #[] (tabs b m)
        exact ⟨_, hok' b _ e⟩
      refine ⟨rfl, ⟨fun b o e => ?_, fun b o e => ?_⟩, os, bare⟩
      · by_cases m : b ∈ ts
        · obtain ⟨c, hc⟩ := hC b m
          obtain ⟨more, hm⟩ := grow b m
          rw [hT b m] at e
          cases e
          exact .inr (.inl ⟨((PySem.W.codeHd_of_K KX hc).tab (hT b m)).isCodeTable, rfl, #[], more, rfl, by rw [Array.empty_append]; exact hm⟩)
        · exact .inl (stays b o m e)
      · by_cases m : b ∈ ts
        · obtain ⟨more, hm⟩ := grow b m
          exact ⟨_, hm⟩
        · exact ⟨o, stays b o m e⟩
end CL
set_option Elab.async false
set_option pp.maxSteps 300
set_option linter.all false
set_option maxRecDepth 100000
set_option maxHeartbeats 4000000
namespace CL
open PySem PySem.Spec PyProof.Rows L2 GE
theorem fnE {P : Program} {w : World} {K : PySem.W.Frag} {mg : Str → Option Value} {base : Heap} {k : Nat} {f : Addr} {fd : FuncData} {ps : List Str} {sp : Addr → Sp} (F : ∀ r, FnOk P w K mg base CX0 k f fd ps (sp r)) : FnOk P w K mg base CX0 k f fd ps (spE sp) :=
  ⟨fun vs H Q E ⟨r, h⟩ => (F r).len vs H Q E h, fun A outer s H args us vs Q E hr e0 hb rv ⟨r, h⟩ => (F r).run A outer s H args us vs Q E hr e0 hb rv h⟩
/-- the table of a def of the program is empty when the law is called -/
theorem tab_of {q : Program} {loose : List Str} {mean : ExcName → Option Value} {mg mb : Str → Option Value} {h : Heap} {K : PySem.W.Frag} {n : Str} {f c P : Addr} {o : Obj} {fd : FuncData} (T : Top q loose mean mg mb h) (KX : K.In h) (hr : ((recsOf q).any fun e => e.name == n) = true)
    (hm : mg n = some (.ref f)) (k1 : K.lookup f = some o) (k2 : o.data = .func fd) (k3 : fd.code = .ref c) (hh : PySem.W.codeHdIn K c P = true) : h.get? P = some { cls := .none, data := .fields #[] } := by
  obtain ⟨d, hd, e⟩ := List.any_eq_true.mp hr
  have e' : d.name = n := beq_iff_eq.mp e
  obtain ⟨a', o', fd', c', P', t1, t2, t3, t4, t5, t6⟩ := T.tab d hd
  rw [e', hm] at t1
  cases t1
  rw [KX _ _ k1] at t2
  cases t2
  rw [k2] at t3
  cases t3
  rw [k3] at t4
  cases t4
  obtain ⟨⟨oc, vc, g1, _, g3, g4⟩, g5⟩ := t6
  obtain ⟨oh, uh, _, _, _, _, _, _, _, i1, _, i2, i3, _⟩ := PySem.W.codeHd_of_K KX hh
  rw [g1] at i1
  cases i1
  rw [g3] at i2
  cases i2
  rw [g4] at i3
  cases i3
  exact g5
/-- what the head must know of the law's def -/
def AtLaw (l : PySem.W.OpenLaw) (w : World) (K : PySem.W.Frag) (mg : Str → Option Value) (fa : Addr) (h : Heap) : Prop :=
  ∃ (fd : FuncData) (Q1 Q2 Q3 Q4 : Addr), (∀ b ∈ ([Q1, Q2, Q3, Q4] : List Addr), h.get? b = some { cls := .none, data := .fields #[] }) ∧ (∀ b ∈ ([Q1, Q2, Q3, Q4] : List Addr), ∃ c, PySem.W.codeHdIn K c b = true) ∧ (∀ b ∈ ([Q1, Q2, Q3, Q4] : List Addr), K.lookup b = none) ∧ (∀ (s : Shared) (u : Value), BindsTo s fd ⟨[u], []⟩ [("script", u)]) ∧
    ∀ base : Heap, K.In base → base.Ns mainGlobals mg → (∃ o, base.get? sysModules = some o) → (∀ b ∈ ([Q1, Q2, Q3, Q4] : List Addr), base.BuiltinsAt mg b ∧ mainGlobals ≠ b) → FnG l.prog w K mg base 14 fa fd ["script"] (spLaw K Q1 Q2 Q3 Q4)
theorem walk {l : PySem.W.OpenLaw} {q : Program} {loose : List Str} {XP : (Str → Option Value) → Heap → Prop} {YP : World → Heap → Prop} {d : DefRec} {K : Params → PySem.W.Frag} (hn : l.most = some 63) (hdf : d.params.defaults = []) (hi0 : importsNone q = true)
    (hY : ∀ (w : World) (h : Heap), YP w h → (K w.params).In h)
    (F : ∀ (w : World) (mg mb : Str → Option Value) (mean : ExcName → Option Value) (lo : List Str) (fa : Addr) (h : Heap), (K w.params).In h → Top q lo mean mg mb h → mg d.name = some (.ref fa) → AtLaw l w (K w.params) mg fa h) :
    PySem.W.WalkO q loose XP YP l.row.toRowW d [] (fun f vs => PySem.call f vs) := by
  refine Att.attach_callB hn hdf fun w s₀ s₁ mg mb fa o pm cd doc a vs ns G Y ho hd hcd hmg hobj hints hlen _ hg => ?_
  obtain ⟨fd, Q1, Q2, Q3, Q4, h1, h2, h3, h4, h5⟩ := F w mg mb _ _ fa s₁.heap (hY w _ Y) G.T hmg
  exact end_own [Q1, Q2, Q3, Q4] (hY w _ Y) G.T hi0 hg h1 h2 h3 hobj hints (Nat.le_trans hlen (by decide)) ⟨rfl, by decide, by decide⟩ h5 h4 fun H t hS => ⟨a, ns, rfl, hS, hlen, ⟨⟨#[], t Q1 (by simp), trivial⟩, ⟨#[], t Q2 (by simp), trivial⟩⟩, ⟨#[], t Q3 (by simp), trivial⟩, ⟨#[], t Q4 (by simp), trivial⟩, fun _ => rfl⟩
theorem all_mk {l : PySem.W.OpenLaw} {w : World} {K : PySem.W.Frag} {q : Program} {lo : List Str} {mean : ExcName → Option Value} {h : Heap} {mg mb : Str → Option Value} {fa fMI fMC fMS fMQ fML fMH fMN fW fR fIO fPE fPP fBI fBR fBS fLP fRO fRC fA fT fI fL fCK fG fM fV fta fpt fN flp fln flt fqu fDE fCO fHI fLO fRE fDR fLQ fOR fLR fRG fZ cT cL cIO cBS PT PL PIO PBS cLN X1 X3 X7 : Addr} (X : K.In h) (G : Top q lo mean mg mb h) (hfa : mg "law" = some (.ref fa))
    {odMI anMI : Option Addr} {slMI : Array (Option Value)} {ocMI kVMI dcMI pmMI cdMI ctMI : Value}
    {odMC anMC : Option Addr} {slMC : Array (Option Value)} {ocMC kVMC dcMC pmMC cdMC ctMC : Value}
    {odMS anMS : Option Addr} {slMS : Array (Option Value)} {ocMS kVMS dcMS pmMS cdMS ctMS : Value}
    {odMQ anMQ : Option Addr} {slMQ : Array (Option Value)} {ocMQ kVMQ dcMQ pmMQ cdMQ ctMQ : Value}
    {odML anML : Option Addr} {slML : Array (Option Value)} {ocML kVML dcML pmML cdML ctML : Value}
    {odMH anMH : Option Addr} {slMH : Array (Option Value)} {ocMH kVMH dcMH pmMH cdMH ctMH : Value}
    {odMN anMN : Option Addr} {slMN : Array (Option Value)} {ocMN kVMN dcMN pmMN cdMN ctMN : Value}
    {odW anW : Option Addr} {slW : Array (Option Value)} {ocW kVW dcW pmW cdW ctW : Value}
    {odR anR : Option Addr} {slR : Array (Option Value)} {ocR kVR dcR pmR cdR ctR : Value}
    {odIO anIO : Option Addr} {slIO : Array (Option Value)} {ocIO kVIO dcIO pmIO ctIO : Value}
    {odPE anPE : Option Addr} {slPE : Array (Option Value)} {ocPE kVPE dcPE pmPE cdPE ctPE : Value}
    {odPP anPP : Option Addr} {slPP : Array (Option Value)} {ocPP kVPP dcPP pmPP cdPP ctPP : Value}
    {odBI anBI : Option Addr} {slBI : Array (Option Value)} {ocBI kVBI dcBI pmBI cdBI ctBI : Value}
    {odBR anBR : Option Addr} {slBR : Array (Option Value)} {ocBR kVBR dcBR pmBR cdBR ctBR : Value}
    {odBS anBS : Option Addr} {slBS : Array (Option Value)} {ocBS kVBS dcBS pmBS ctBS : Value}
    {odLP anLP : Option Addr} {slLP : Array (Option Value)} {ocLP kVLP dcLP pmLP cdLP ctLP : Value}
    {odRO anRO : Option Addr} {slRO : Array (Option Value)} {ocRO kVRO dcRO pmRO cdRO ctRO : Value}
    {odRC anRC : Option Addr} {slRC : Array (Option Value)} {ocRC kVRC dcRC pmRC cdRC ctRC : Value}
    {odA anA : Option Addr} {slA : Array (Option Value)} {ocA kVA dcA pmA cdA ctA : Value}
    {odT anT : Option Addr} {slT : Array (Option Value)} {ocT kVT dcT pmT ctT : Value}
    {odI anI : Option Addr} {slI : Array (Option Value)} {ocI kVI dcI pmI cdI ctI : Value}
    {odL anL : Option Addr} {slL : Array (Option Value)} {ocL kVL dcL pmL ctL : Value}
    {odCK anCK : Option Addr} {slCK : Array (Option Value)} {ocCK kVCK dcCK pmCK cdCK ctCK : Value}
    {odG anG : Option Addr} {slG : Array (Option Value)} {ocG kVG dcG pmG cdG ctG : Value}
    {odM anM : Option Addr} {slM : Array (Option Value)} {ocM kVM dcM pmM cdM ctM : Value}
    {odV anV : Option Addr} {slV : Array (Option Value)} {ocV kVV dcV pmV cdV ctV : Value}
    {odta anta : Option Addr} {slta : Array (Option Value)} {octa kVta dcta pmta cdta ctta : Value}
    {odpt anpt : Option Addr} {slpt : Array (Option Value)} {ocpt kVpt dcpt pmpt cdpt ctpt : Value}
    {odN anN : Option Addr} {slN : Array (Option Value)} {ocN kVN dcN pmN cdN ctN : Value}
    {odlp anlp : Option Addr} {sllp : Array (Option Value)} {oclp kVlp dclp pmlp cdlp ctlp : Value}
    {odln anln : Option Addr} {slln : Array (Option Value)} {ocln kVln dcln pmln cdln ctln : Value}
    {odlt anlt : Option Addr} {sllt : Array (Option Value)} {oclt kVlt dclt pmlt cdlt ctlt : Value}
    {odqu anqu : Option Addr} {slqu : Array (Option Value)} {ocqu kVqu dcqu pmqu cdqu ctqu : Value}
    {odDE anDE : Option Addr} {slDE : Array (Option Value)} {ocDE kVDE dcDE pmDE cdDE ctDE : Value}
    {odCO anCO : Option Addr} {slCO : Array (Option Value)} {ocCO kVCO dcCO pmCO cdCO ctCO : Value}
    {odHI anHI : Option Addr} {slHI : Array (Option Value)} {ocHI kVHI dcHI pmHI cdHI ctHI : Value}
    {odLO anLO : Option Addr} {slLO : Array (Option Value)} {ocLO kVLO dcLO pmLO cdLO ctLO : Value}
    {odRE anRE : Option Addr} {slRE : Array (Option Value)} {ocRE kVRE dcRE pmRE cdRE ctRE : Value}
    {odDR anDR : Option Addr} {slDR : Array (Option Value)} {ocDR kVDR dcDR pmDR cdDR ctDR : Value}
    {odLQ anLQ : Option Addr} {slLQ : Array (Option Value)} {ocLQ kVLQ dcLQ pmLQ cdLQ ctLQ : Value}
    {odOR anOR : Option Addr} {slOR : Array (Option Value)} {ocOR kVOR dcOR pmOR cdOR ctOR : Value}
    {odLR anLR : Option Addr} {slLR : Array (Option Value)} {ocLR kVLR dcLR pmLR cdLR ctLR : Value}
    {odRG anRG : Option Addr} {slRG : Array (Option Value)} {ocRG kVRG dcRG pmRG cdRG ctRG : Value}
    {odZ anZ : Option Addr} {slZ : Array (Option Value)} {ocZ kVZ dcZ pmZ cdZ ctZ : Value} {eT : Value} {dT : Option Addr} {usT : Array Value} {wT : Array (Option Value)} {eL : Value} {dL : Option Addr} {usL : Array Value} {wL : Array (Option Value)} {eIO : Value} {dIO : Option Addr} {usIO : Array Value} {wIO : Array (Option Value)} {eBS : Value} {dBS : Option Addr} {usBS : Array Value} {wBS : Array (Option Value)} {tgM : Tok} {tgLo : Tok} {tgMP : Tok} {tgGM : Tok} {tgMost : Tok}
    (aMI : PySem.W.findIn K (.ref cLN) "__init__" = some (some (.ref fMI))) (lMI : K.lookup fMI = some ⟨ocMI, odMI, .func (PySem.W.fnOf "__init__" "Line.__init__" (defArgs sInitL) (defBody sInitL) (defScope sInitL) .none kVMI dcMI pmMI anMI cdMI ctMI), slMI⟩) (MIc : PySem.W.codeIn K cdMI "Line.__init__" = true) (kMI : PySem.W.keepIn K (.ref fMI) = true) (iMI : PySem.W.isFn K (.ref fMI) = true)
    (aMC : PySem.W.findIn K (.ref cLN) "come" = some (some (.ref fMC))) (lMC : K.lookup fMC = some ⟨ocMC, odMC, .func (PySem.W.fnOf "come" "Line.come" (defArgs sComeM) (defBody sComeM) (defScope sComeM) .none kVMC dcMC pmMC anMC cdMC ctMC), slMC⟩) (MCc : PySem.W.codeIn K cdMC "Line.come" = true) (kMC : PySem.W.keepIn K (.ref fMC) = true) (iMC : PySem.W.isFn K (.ref fMC) = true)
    (aMS : PySem.W.findIn K (.ref cLN) "serve" = some (some (.ref fMS))) (lMS : K.lookup fMS = some ⟨ocMS, odMS, .func (PySem.W.fnOf "serve" "Line.serve" (defArgs sServeM) (defBody sServeM) (defScope sServeM) .none kVMS dcMS pmMS anMS cdMS ctMS), slMS⟩) (MSc : PySem.W.codeIn K cdMS "Line.serve" = true) (kMS : PySem.W.keepIn K (.ref fMS) = true) (iMS : PySem.W.isFn K (.ref fMS) = true)
    (aMQ : PySem.W.findIn K (.ref cLN) "queue" = some (some (.ref fMQ))) (lMQ : K.lookup fMQ = some ⟨ocMQ, odMQ, .func (PySem.W.fnOf "queue" "Line.queue" (defArgs sQueM) (defBody sQueM) (defScope sQueM) .none kVMQ dcMQ pmMQ anMQ cdMQ ctMQ), slMQ⟩) (MQc : PySem.W.codeIn K cdMQ "Line.queue" = true) (kMQ : PySem.W.keepIn K (.ref fMQ) = true) (iMQ : PySem.W.isFn K (.ref fMQ) = true)
    (aML : PySem.W.findIn K (.ref cLN) "left" = some (some (.ref fML))) (lML : K.lookup fML = some ⟨ocML, odML, .func (PySem.W.fnOf "left" "Line.left" (defArgs sLeftM) (defBody sLeftM) (defScope sLeftM) .none kVML dcML pmML anML cdML ctML), slML⟩) (MLc : PySem.W.codeIn K cdML "Line.left" = true) (kML : PySem.W.keepIn K (.ref fML) = true) (iML : PySem.W.isFn K (.ref fML) = true)
    (aMH : PySem.W.findIn K (.ref cLN) "history" = some (some (.ref fMH))) (lMH : K.lookup fMH = some ⟨ocMH, odMH, .func (PySem.W.fnOf "history" "Line.history" (defArgs sHistM) (defBody sHistM) (defScope sHistM) .none kVMH dcMH pmMH anMH cdMH ctMH), slMH⟩) (MHc : PySem.W.codeIn K cdMH "Line.history" = true) (kMH : PySem.W.keepIn K (.ref fMH) = true) (iMH : PySem.W.isFn K (.ref fMH) = true)
    (aMN : PySem.W.findIn K (.ref cLN) "__len__" = some (some (.ref fMN))) (lMN : K.lookup fMN = some ⟨ocMN, odMN, .func (PySem.W.fnOf "__len__" "Line.__len__" (defArgs sLenM) (defBody sLenM) (defScope sLenM) .none kVMN dcMN pmMN anMN cdMN ctMN), slMN⟩) (MNc : PySem.W.codeIn K cdMN "Line.__len__" = true) (kMN : PySem.W.keepIn K (.ref fMN) = true) (iMN : PySem.W.isFn K (.ref fMN) = true)
    (aW : PySem.W.nsIn K mainGlobals "is_whole" = some (some (.ref fW))) (lW : K.lookup fW = some ⟨ocW, odW, .func (PySem.W.fnOf "is_whole" "is_whole" (defArgs sWhole) (defBody sWhole) (defScope sWhole) .none kVW dcW pmW anW cdW ctW), slW⟩) (Wc : PySem.W.codeIn K cdW "is_whole" = true) (kW : PySem.W.keepIn K (.ref fW) = true)
    (aR : PySem.W.nsIn K mainGlobals "is_row" = some (some (.ref fR))) (lR : K.lookup fR = some ⟨ocR, odR, .func (PySem.W.fnOf "is_row" "is_row" (defArgs sRow) (defBody sRow) (defScope sRow) .none kVR dcR pmR anR cdR ctR), slR⟩) (Rc : PySem.W.codeIn K cdR "is_row" = true) (kR : PySem.W.keepIn K (.ref fR) = true)
    (aIO : PySem.W.nsIn K mainGlobals "is_order" = some (some (.ref fIO))) (lIO : K.lookup fIO = some ⟨ocIO, odIO, .func (PySem.W.fnOf "is_order" "is_order" (defArgs sIsO) (defBody sIsO) (defScope sIsO) .none kVIO dcIO pmIO anIO (.ref cIO) ctIO), slIO⟩) (IOc : PySem.W.codeIn K (.ref cIO) "is_order" = true) (kIO : PySem.W.keepIn K (.ref fIO) = true)
    (aPE : PySem.W.nsIn K mainGlobals "people_of" = some (some (.ref fPE))) (lPE : K.lookup fPE = some ⟨ocPE, odPE, .func (PySem.W.fnOf "people_of" "people_of" (defArgs sPeople) (defBody sPeople) (defScope sPeople) .none kVPE dcPE pmPE anPE cdPE ctPE), slPE⟩) (PEc : PySem.W.codeIn K cdPE "people_of" = true) (kPE : PySem.W.keepIn K (.ref fPE) = true)
    (aPP : PySem.W.nsIn K mainGlobals "places_of" = some (some (.ref fPP))) (lPP : K.lookup fPP = some ⟨ocPP, odPP, .func (PySem.W.fnOf "places_of" "places_of" (defArgs sPlaces) (defBody sPlaces) (defScope sPlaces) .none kVPP dcPP pmPP anPP cdPP ctPP), slPP⟩) (PPc : PySem.W.codeIn K cdPP "places_of" = true) (kPP : PySem.W.keepIn K (.ref fPP) = true)
    (aBI : PySem.W.nsIn K mainGlobals "bar_it" = some (some (.ref fBI))) (lBI : K.lookup fBI = some ⟨ocBI, odBI, .func (PySem.W.fnOf "bar_it" "bar_it" (defArgs sBarIt) (defBody sBarIt) (defScope sBarIt) .none kVBI dcBI pmBI anBI cdBI ctBI), slBI⟩) (BIc : PySem.W.codeIn K cdBI "bar_it" = true) (kBI : PySem.W.keepIn K (.ref fBI) = true)
    (aBR : PySem.W.nsIn K mainGlobals "barring" = some (some (.ref fBR))) (lBR : K.lookup fBR = some ⟨ocBR, odBR, .func (PySem.W.fnOf "barring" "barring" (defArgs sBarring) (defBody sBarring) (defScope sBarring) .none kVBR dcBR pmBR anBR cdBR ctBR), slBR⟩) (BRc : PySem.W.codeIn K cdBR "barring" = true) (kBR : PySem.W.keepIn K (.ref fBR) = true)
    (aBS : PySem.W.nsIn K mainGlobals "bars" = some (some (.ref fBS))) (lBS : K.lookup fBS = some ⟨ocBS, odBS, .func (PySem.W.fnOf "bars" "bars" (defArgs sBars) (defBody sBars) (defScope sBars) .none kVBS dcBS pmBS anBS (.ref cBS) ctBS), slBS⟩) (BSc : PySem.W.codeIn K (.ref cBS) "bars" = true) (kBS : PySem.W.keepIn K (.ref fBS) = true)
    (aLP : PySem.W.nsIn K mainGlobals "least_patiences" = some (some (.ref fLP))) (lLP : K.lookup fLP = some ⟨ocLP, odLP, .func (PySem.W.fnOf "least_patiences" "least_patiences" (defArgs sLeast) (defBody sLeast) (defScope sLeast) .none kVLP dcLP pmLP anLP cdLP ctLP), slLP⟩) (LPc : PySem.W.codeIn K cdLP "least_patiences" = true) (kLP : PySem.W.keepIn K (.ref fLP) = true)
    (aRO : PySem.W.nsIn K mainGlobals "refuser_of" = some (some (.ref fRO))) (lRO : K.lookup fRO = some ⟨ocRO, odRO, .func (PySem.W.fnOf "refuser_of" "refuser_of" (defArgs sRefus) (defBody sRefus) (defScope sRefus) .none kVRO dcRO pmRO anRO cdRO ctRO), slRO⟩) (ROc : PySem.W.codeIn K cdRO "refuser_of" = true) (kRO : PySem.W.keepIn K (.ref fRO) = true)
    (aRC : PySem.W.nsIn K mainGlobals "rows_counted" = some (some (.ref fRC))) (lRC : K.lookup fRC = some ⟨ocRC, odRC, .func (PySem.W.fnOf "rows_counted" "rows_counted" (defArgs sRowsC) (defBody sRowsC) (defScope sRowsC) .none kVRC dcRC pmRC anRC cdRC ctRC), slRC⟩) (RCc : PySem.W.codeIn K cdRC "rows_counted" = true) (kRC : PySem.W.keepIn K (.ref fRC) = true)
    (aA : PySem.W.nsIn K mainGlobals "is_patience" = some (some (.ref fA))) (lA : K.lookup fA = some ⟨ocA, odA, .func (PySem.W.fnOf "is_patience" "is_patience" (defArgs sPat) (defBody sPat) (defScope sPat) .none kVA dcA pmA anA cdA ctA), slA⟩) (Ac : PySem.W.codeIn K cdA "is_patience" = true) (kA : PySem.W.keepIn K (.ref fA) = true)
    (aT : PySem.W.nsIn K mainGlobals "is_turns" = some (some (.ref fT))) (lT : K.lookup fT = some ⟨ocT, odT, .func (PySem.W.fnOf "is_turns" "is_turns" (defArgs sTurns) (defBody sTurns) (defScope sTurns) .none kVT dcT pmT anT (.ref cT) ctT), slT⟩) (Tc : PySem.W.codeIn K (.ref cT) "is_turns" = true) (kT : PySem.W.keepIn K (.ref fT) = true)
    (aI : PySem.W.nsIn K mainGlobals "is_piece" = some (some (.ref fI))) (lI : K.lookup fI = some ⟨ocI, odI, .func (PySem.W.fnOf "is_piece" "is_piece" (defArgs sPiece) (defBody sPiece) (defScope sPiece) .none kVI dcI pmI anI cdI ctI), slI⟩) (Ic : PySem.W.codeIn K cdI "is_piece" = true) (kI : PySem.W.keepIn K (.ref fI) = true)
    (aL : PySem.W.nsIn K mainGlobals "is_plan" = some (some (.ref fL))) (lL : K.lookup fL = some ⟨ocL, odL, .func (PySem.W.fnOf "is_plan" "is_plan" (defArgs sPlan) (defBody sPlan) (defScope sPlan) .none kVL dcL pmL anL (.ref cL) ctL), slL⟩) (Lc : PySem.W.codeIn K (.ref cL) "is_plan" = true) (kL : PySem.W.keepIn K (.ref fL) = true)
    (aCK : PySem.W.nsIn K mainGlobals "check_plan" = some (some (.ref fCK))) (lCK : K.lookup fCK = some ⟨ocCK, odCK, .func (PySem.W.fnOf "check_plan" "check_plan" (defArgs sCheck) (defBody sCheck) (defScope sCheck) .none kVCK dcCK pmCK anCK cdCK ctCK), slCK⟩) (CKc : PySem.W.codeIn K cdCK "check_plan" = true) (kCK : PySem.W.keepIn K (.ref fCK) = true)
    (aG : PySem.W.nsIn K mainGlobals "pieces_of" = some (some (.ref fG))) (lG : K.lookup fG = some ⟨ocG, odG, .func (PySem.W.fnOf "pieces_of" "pieces_of" (defArgs sPieces) (defBody sPieces) (defScope sPieces) .none kVG dcG pmG anG cdG ctG), slG⟩) (Gc : PySem.W.codeIn K cdG "pieces_of" = true) (kG : PySem.W.keepIn K (.ref fG) = true)
    (aM : PySem.W.nsIn K mainGlobals "many_in" = some (some (.ref fM))) (lM : K.lookup fM = some ⟨ocM, odM, .func (PySem.W.fnOf "many_in" "many_in" (defArgs sMany) (defBody sMany) (defScope sMany) .none kVM dcM pmM anM cdM ctM), slM⟩) (Mc : PySem.W.codeIn K cdM "many_in" = true) (kM : PySem.W.keepIn K (.ref fM) = true)
    (aV : PySem.W.nsIn K mainGlobals "piece_number" = some (some (.ref fV))) (lV : K.lookup fV = some ⟨ocV, odV, .func (PySem.W.fnOf "piece_number" "piece_number" (defArgs sPieceNo) (defBody sPieceNo) (defScope sPieceNo) .none kVV dcV pmV anV cdV ctV), slV⟩) (Vc : PySem.W.codeIn K cdV "piece_number" = true) (kV : PySem.W.keepIn K (.ref fV) = true)
    (ata : PySem.W.nsIn K mainGlobals "turn_at" = some (some (.ref fta))) (lta : K.lookup fta = some ⟨octa, odta, .func (PySem.W.fnOf "turn_at" "turn_at" (defArgs sTurnAt) (defBody sTurnAt) (defScope sTurnAt) .none kVta dcta pmta anta cdta ctta), slta⟩) (tac : PySem.W.codeIn K cdta "turn_at" = true) (kta : PySem.W.keepIn K (.ref fta) = true)
    (apt : PySem.W.nsIn K mainGlobals "patience_at" = some (some (.ref fpt))) (lpt : K.lookup fpt = some ⟨ocpt, odpt, .func (PySem.W.fnOf "patience_at" "patience_at" (defArgs sPatAt) (defBody sPatAt) (defScope sPatAt) .none kVpt dcpt pmpt anpt cdpt ctpt), slpt⟩) (ptc : PySem.W.codeIn K cdpt "patience_at" = true) (kpt : PySem.W.keepIn K (.ref fpt) = true)
    (aN : PySem.W.nsIn K mainGlobals "check_moment" = some (some (.ref fN))) (lN : K.lookup fN = some ⟨ocN, odN, .func (PySem.W.fnOf "check_moment" "check_moment" (defArgs sCkM) (defBody sCkM) (defScope sCkM) .none kVN dcN pmN anN cdN ctN), slN⟩) (Nc : PySem.W.codeIn K cdN "check_moment" = true) (kN : PySem.W.keepIn K (.ref fN) = true)
    (alp : PySem.W.nsIn K mainGlobals "let_past" = some (some (.ref flp))) (llp : K.lookup flp = some ⟨oclp, odlp, .func (PySem.W.fnOf "let_past" "let_past" (defArgs sLet) (defBody sLet) (defScope sLet) .none kVlp dclp pmlp anlp cdlp ctlp), sllp⟩) (lpc : PySem.W.codeIn K cdlp "let_past" = true) (klp : PySem.W.keepIn K (.ref flp) = true)
    (aln : PySem.W.nsIn K mainGlobals "line_up" = some (some (.ref fln))) (lln : K.lookup fln = some ⟨ocln, odln, .func (PySem.W.fnOf "line_up" "line_up" (defArgs sLine) (defBody sLine) (defScope sLine) .none kVln dcln pmln anln cdln ctln), slln⟩) (lnc : PySem.W.codeIn K cdln "line_up" = true) (kln : PySem.W.keepIn K (.ref fln) = true)
    (alt : PySem.W.nsIn K mainGlobals "listed_at" = some (some (.ref flt))) (llt : K.lookup flt = some ⟨oclt, odlt, .func (PySem.W.fnOf "listed_at" "listed_at" (defArgs sListed) (defBody sListed) (defScope sListed) .none kVlt dclt pmlt anlt cdlt ctlt), sllt⟩) (ltc : PySem.W.codeIn K cdlt "listed_at" = true) (klt : PySem.W.keepIn K (.ref flt) = true)
    (aqu : PySem.W.nsIn K mainGlobals "queue_at" = some (some (.ref fqu))) (lqu : K.lookup fqu = some ⟨ocqu, odqu, .func (PySem.W.fnOf "queue_at" "queue_at" (defArgs sQueue) (defBody sQueue) (defScope sQueue) .none kVqu dcqu pmqu anqu cdqu ctqu), slqu⟩) (quc : PySem.W.codeIn K cdqu "queue_at" = true) (kqu : PySem.W.keepIn K (.ref fqu) = true)
    (aDE : PySem.W.nsIn K mainGlobals "is_deed" = some (some (.ref fDE))) (lDE : K.lookup fDE = some ⟨ocDE, odDE, .func (PySem.W.fnOf "is_deed" "is_deed" (defArgs sIsDeed) (defBody sIsDeed) (defScope sIsDeed) .none kVDE dcDE pmDE anDE cdDE ctDE), slDE⟩) (DEc : PySem.W.codeIn K cdDE "is_deed" = true) (kDE : PySem.W.keepIn K (.ref fDE) = true)
    (aCO : PySem.W.nsIn K mainGlobals "is_coming" = some (some (.ref fCO))) (lCO : K.lookup fCO = some ⟨ocCO, odCO, .func (PySem.W.fnOf "is_coming" "is_coming" (defArgs sIsCom) (defBody sIsCom) (defScope sIsCom) .none kVCO dcCO pmCO anCO cdCO ctCO), slCO⟩) (COc : PySem.W.codeIn K cdCO "is_coming" = true) (kCO : PySem.W.keepIn K (.ref fCO) = true)
    (aHI : PySem.W.nsIn K mainGlobals "is_history" = some (some (.ref fHI))) (lHI : K.lookup fHI = some ⟨ocHI, odHI, .func (PySem.W.fnOf "is_history" "is_history" (defArgs sIsHist) (defBody sIsHist) (defScope sIsHist) .none kVHI dcHI pmHI anHI cdHI ctHI), slHI⟩) (HIc : PySem.W.codeIn K cdHI "is_history" = true) (kHI : PySem.W.keepIn K (.ref fHI) = true)
    (aLO : PySem.W.nsIn K mainGlobals "line_of" = some (some (.ref fLO))) (lLO : K.lookup fLO = some ⟨ocLO, odLO, .func (PySem.W.fnOf "line_of" "line_of" (defArgs sLineOf) (defBody sLineOf) (defScope sLineOf) .none kVLO dcLO pmLO anLO cdLO ctLO), slLO⟩) (LOc : PySem.W.codeIn K cdLO "line_of" = true) (kLO : PySem.W.keepIn K (.ref fLO) = true)
    (aRE : PySem.W.nsIn K mainGlobals "_law_reel" = some (some (.ref fRE))) (lRE : K.lookup fRE = some ⟨ocRE, odRE, .func (PySem.W.fnOf "_law_reel" "_law_reel" (defArgs sReel) (defBody sReel) (defScope sReel) .none kVRE dcRE pmRE anRE cdRE ctRE), slRE⟩) (REc : PySem.W.codeIn K cdRE "_law_reel" = true) (kRE : PySem.W.keepIn K (.ref fRE) = true)
    (aDR : PySem.W.nsIn K mainGlobals "_law_draw" = some (some (.ref fDR))) (lDR : K.lookup fDR = some ⟨ocDR, odDR, .func (PySem.W.fnOf "_law_draw" "_law_draw" (defArgs sDraw) (defBody sDraw) (defScope sDraw) .none kVDR dcDR pmDR anDR cdDR ctDR), slDR⟩) (DRc : PySem.W.codeIn K cdDR "_law_draw" = true) (kDR : PySem.W.keepIn K (.ref fDR) = true)
    (aLQ : PySem.W.nsIn K mainGlobals "_law_queue" = some (some (.ref fLQ))) (lLQ : K.lookup fLQ = some ⟨ocLQ, odLQ, .func (PySem.W.fnOf "_law_queue" "_law_queue" (defArgs sLQ) (defBody sLQ) (defScope sLQ) .none kVLQ dcLQ pmLQ anLQ cdLQ ctLQ), slLQ⟩) (LQc : PySem.W.codeIn K cdLQ "_law_queue" = true) (kLQ : PySem.W.keepIn K (.ref fLQ) = true)
    (aOR : PySem.W.nsIn K mainGlobals "_law_order_right" = some (some (.ref fOR))) (lOR : K.lookup fOR = some ⟨ocOR, odOR, .func (PySem.W.fnOf "_law_order_right" "_law_order_right" (defArgs sOR) (defBody sOR) (defScope sOR) .none kVOR dcOR pmOR anOR cdOR ctOR), slOR⟩) (ORc : PySem.W.codeIn K cdOR "_law_order_right" = true) (kOR : PySem.W.keepIn K (.ref fOR) = true)
    (aLR : PySem.W.nsIn K mainGlobals "_law_line_right" = some (some (.ref fLR))) (lLR : K.lookup fLR = some ⟨ocLR, odLR, .func (PySem.W.fnOf "_law_line_right" "_law_line_right" (defArgs sLR) (defBody sLR) (defScope sLR) .none kVLR dcLR pmLR anLR cdLR ctLR), slLR⟩) (LRc : PySem.W.codeIn K cdLR "_law_line_right" = true) (kLR : PySem.W.keepIn K (.ref fLR) = true)
    (aRG : PySem.W.nsIn K mainGlobals "_law_right" = some (some (.ref fRG))) (lRG : K.lookup fRG = some ⟨ocRG, odRG, .func (PySem.W.fnOf "_law_right" "_law_right" (defArgs sRG) (defBody sRG) (defScope sRG) .none kVRG dcRG pmRG anRG cdRG ctRG), slRG⟩) (RGc : PySem.W.codeIn K cdRG "_law_right" = true) (kRG : PySem.W.keepIn K (.ref fRG) = true)
    (aZ : PySem.W.nsIn K mainGlobals "law" = some (some (.ref fZ))) (lZ : K.lookup fZ = some ⟨ocZ, odZ, .func (PySem.W.fnOf "law" "law" (defArgs sLaw) (defBody sLaw) (defScope sLaw) .none kVZ dcZ pmZ anZ cdZ ctZ), slZ⟩) (Zc : PySem.W.codeIn K cdZ "law" = true) (kZ : PySem.W.keepIn K (.ref fZ) = true)
    (z_isinstance : PySem.W.nsIn K mainGlobals "isinstance" = some none) (z_len : PySem.W.nsIn K mainGlobals "len" = some none) (z_all : PySem.W.nsIn K mainGlobals "all" = some none) (z_any : PySem.W.nsIn K mainGlobals "any" = some none) (z_sum : PySem.W.nsIn K mainGlobals "sum" = some none) (z_int : PySem.W.nsIn K mainGlobals "int" = some none) (z_bool : PySem.W.nsIn K mainGlobals "bool" = some none) (z_list : PySem.W.nsIn K mainGlobals "list" = some none) (z_tuple : PySem.W.nsIn K mainGlobals "tuple" = some none) (z_str : PySem.W.nsIn K mainGlobals "str" = some none) (z_range : PySem.W.nsIn K mainGlobals "range" = some none) (z_min : PySem.W.nsIn K mainGlobals "min" = some none) (z_max : PySem.W.nsIn K mainGlobals "max" = some none) (z_sorted : PySem.W.nsIn K mainGlobals "sorted" = some none) (z_enumerate : PySem.W.nsIn K mainGlobals "enumerate" = some none) (z_zip : PySem.W.nsIn K mainGlobals "zip" = some none) (z_abs : PySem.W.nsIn K mainGlobals "abs" = some none)
    (mT : K.lookup cT = some ⟨eT, dT, .fields usT, wT⟩) (pT : usT[11]? = some (.ref PT)) (qT : PySem.W.codeHdIn K cT PT = true) (nT : (K.lookup PT).isNone = true) (rT : ((recsOf q).any fun e => e.name == "is_turns") = true)
    (mL : K.lookup cL = some ⟨eL, dL, .fields usL, wL⟩) (pL : usL[11]? = some (.ref PL)) (qL : PySem.W.codeHdIn K cL PL = true) (nL : (K.lookup PL).isNone = true) (rL : ((recsOf q).any fun e => e.name == "is_plan") = true)
    (mIO : K.lookup cIO = some ⟨eIO, dIO, .fields usIO, wIO⟩) (pIO : usIO[11]? = some (.ref PIO)) (qIO : PySem.W.codeHdIn K cIO PIO = true) (nIO : (K.lookup PIO).isNone = true) (rIO : ((recsOf q).any fun e => e.name == "is_order") = true)
    (mBS : K.lookup cBS = some ⟨eBS, dBS, .fields usBS, wBS⟩) (pBS : usBS[11]? = some (.ref PBS)) (qBS : PySem.W.codeHdIn K cBS PBS = true) (nBS : (K.lookup PBS).isNone = true) (rBS : ((recsOf q).any fun e => e.name == "bars") = true)
    (aCLS : PySem.W.nsIn K mainGlobals "Line" = some (some (.ref cLN))) (pgC : PySem.W.plainGet K cLN Str.empty = true) (hdC : PySem.W.hasDictIn K cLN = true) (poC : PySem.W.plainOver K cLN = true) (saC : PySem.W.findIn K (.ref cLN) "__setattr__" = some (some (.builtin "object.__setattr__"))) (mkC : PySem.W.makesIn K cLN = true) (kcC : PySem.W.keepIn K (.ref cLN) = true)
    (nF0 : PySem.W.findIn K (.ref cLN) "people" = some none) (nF1 : PySem.W.findIn K (.ref cLN) "rest" = some none) (nF2 : PySem.W.findIn K (.ref cLN) "past" = some none) (nF3 : PySem.W.findIn K (.ref cLN) "served" = some none) (nF4 : PySem.W.findIn K (.ref cLN) "deeds" = some none)
    (xg1 : PySem.W.nsIn K mainGlobals "NoPlan" = some (some (.ref X1)))
    (xx1 : PySem.W.excIn K X1 [.type "ValueError", .type "Exception", .type "BaseException", .type "object"] "ValueError.__new__" = true)
    (xk1 : PySem.W.keepIn K (.ref X1) = true)
    (xb1 : PySem.W.subIn K (.ref X1) (.type "BaseException") = some true)
    (xt1 : PySem.W.typeIn K (.ref X1) = some (.type "type"))
    (xg3 : PySem.W.nsIn K mainGlobals "NoMoment" = some (some (.ref X3)))
    (xx3 : PySem.W.excIn K X3 [.type "ValueError", .type "Exception", .type "BaseException", .type "object"] "ValueError.__new__" = true)
    (xk3 : PySem.W.keepIn K (.ref X3) = true)
    (xb3 : PySem.W.subIn K (.ref X3) (.type "BaseException") = some true)
    (xt3 : PySem.W.typeIn K (.ref X3) = some (.type "type"))
    (xg7 : PySem.W.nsIn K mainGlobals "TooMany" = some (some (.ref X7)))
    (xx7 : PySem.W.excIn K X7 [.type "ValueError", .type "Exception", .type "BaseException", .type "object"] "ValueError.__new__" = true)
    (xk7 : PySem.W.keepIn K (.ref X7) = true)
    (xb7 : PySem.W.subIn K (.ref X7) (.type "BaseException") = some true)
    (xt7 : PySem.W.typeIn K (.ref X7) = some (.type "type"))
    (gM : PySem.W.nsIn K mainGlobals "GREATEST" = some (some (.int GREAT tgM))) (gLo : PySem.W.nsIn K mainGlobals "LONGEST" = some (some (.int 8 tgLo))) (gMP : PySem.W.nsIn K mainGlobals "MOST_PEOPLE" = some (some (.int 60 tgMP))) (gGM : PySem.W.nsIn K mainGlobals "GREATEST_MOST" = some (some (.int 1000000000000000000 tgGM))) (gMost : PySem.W.nsIn K mainGlobals "MOST_LISTED" = some (some (.int 2000 tgMost))) : AtLaw l w K mg fa h := by
  have e := hfa.symm.trans (PySem.W.mg_of X G.g aZ)
  cases e
  have FMI := fun_mk (st := sInitL) lMI MIc kMI
  have FMC := fun_mk (st := sComeM) lMC MCc kMC
  have FMS := fun_mk (st := sServeM) lMS MSc kMS
  have FMQ := fun_mk (st := sQueM) lMQ MQc kMQ
  have FML := fun_mk (st := sLeftM) lML MLc kML
  have FMH := fun_mk (st := sHistM) lMH MHc kMH
  have FMN := fun_mk (st := sLenM) lMN MNc kMN
  have FW := fun_mk (st := sWhole) lW Wc kW
  have FR := fun_mk (st := sRow) lR Rc kR
  have FIO := fun_mk (st := sIsO) lIO IOc kIO
  have FPE := fun_mk (st := sPeople) lPE PEc kPE
  have FPP := fun_mk (st := sPlaces) lPP PPc kPP
  have FBI := fun_mk (st := sBarIt) lBI BIc kBI
  have FBR := fun_mk (st := sBarring) lBR BRc kBR
  have FBS := fun_mk (st := sBars) lBS BSc kBS
  have FLP := fun_mk (st := sLeast) lLP LPc kLP
  have FRO := fun_mk (st := sRefus) lRO ROc kRO
  have FRC := fun_mk (st := sRowsC) lRC RCc kRC
  have FA := fun_mk (st := sPat) lA Ac kA
  have FT := fun_mk (st := sTurns) lT Tc kT
  have FI := fun_mk (st := sPiece) lI Ic kI
  have FL := fun_mk (st := sPlan) lL Lc kL
  have FCK := fun_mk (st := sCheck) lCK CKc kCK
  have FG := fun_mk (st := sPieces) lG Gc kG
  have FM := fun_mk (st := sMany) lM Mc kM
  have FV := fun_mk (st := sPieceNo) lV Vc kV
  have Fta := fun_mk (st := sTurnAt) lta tac kta
  have Fpt := fun_mk (st := sPatAt) lpt ptc kpt
  have FN := fun_mk (st := sCkM) lN Nc kN
  have Flp := fun_mk (st := sLet) llp lpc klp
  have Fln := fun_mk (st := sLine) lln lnc kln
  have Flt := fun_mk (st := sListed) llt ltc klt
  have Fqu := fun_mk (st := sQueue) lqu quc kqu
  have FDE := fun_mk (st := sIsDeed) lDE DEc kDE
  have FCO := fun_mk (st := sIsCom) lCO COc kCO
  have FHI := fun_mk (st := sIsHist) lHI HIc kHI
  have FLO := fun_mk (st := sLineOf) lLO LOc kLO
  have FRE := fun_mk (st := sReel) lRE REc kRE
  have FDR := fun_mk (st := sDraw) lDR DRc kDR
  have FLQ := fun_mk (st := sLQ) lLQ LQc kLQ
  have FOR := fun_mk (st := sOR) lOR ORc kOR
  have FLR := fun_mk (st := sLR) lLR LRc kLR
  have FRG := fun_mk (st := sRG) lRG RGc kRG
  have FZ := fun_mk (st := sLaw) lZ Zc kZ
  have bMI := FMI.binds (ps := ["self"]) fun _ _ _ _ _ _ us hl => match us, hl with | [_], _ => rfl
  have bMC := FMC.binds (ps := ["self", "patience"]) fun _ _ _ _ _ _ us hl => match us, hl with | [_, _], _ => rfl
  have bMS := FMS.binds (ps := ["self"]) fun _ _ _ _ _ _ us hl => match us, hl with | [_], _ => rfl
  have bMQ := FMQ.binds (ps := ["self"]) fun _ _ _ _ _ _ us hl => match us, hl with | [_], _ => rfl
  have bML := FML.binds (ps := ["self"]) fun _ _ _ _ _ _ us hl => match us, hl with | [_], _ => rfl
  have bMH := FMH.binds (ps := ["self"]) fun _ _ _ _ _ _ us hl => match us, hl with | [_], _ => rfl
  have bMN := FMN.binds (ps := ["self"]) fun _ _ _ _ _ _ us hl => match us, hl with | [_], _ => rfl
  have bW := FW.binds (ps := ["thing"]) fun _ _ _ _ _ _ us hl => match us, hl with | [_], _ => rfl
  have bR := FR.binds (ps := ["thing"]) fun _ _ _ _ _ _ us hl => match us, hl with | [_], _ => rfl
  have bIO := FIO.binds (ps := ["thing"]) fun _ _ _ _ _ _ us hl => match us, hl with | [_], _ => rfl
  have bPE := FPE.binds (ps := ["order"]) fun _ _ _ _ _ _ us hl => match us, hl with | [_], _ => rfl
  have bPP := FPP.binds (ps := ["people"]) fun _ _ _ _ _ _ us hl => match us, hl with | [_], _ => rfl
  have bBI := FBI.binds (ps := ["places", "youngest", "oldest", "between"]) fun _ _ _ _ _ _ us hl => match us, hl with | [_, _, _, _], _ => rfl
  have bBR := FBR.binds (ps := ["order"]) fun _ _ _ _ _ _ us hl => match us, hl with | [_], _ => rfl
  have bBS := FBS.binds (ps := ["order", "thing"]) fun _ _ _ _ _ _ us hl => match us, hl with | [_, _], _ => rfl
  have bLP := FLP.binds (ps := ["order"]) fun _ _ _ _ _ _ us hl => match us, hl with | [_], _ => rfl
  have bRO := FRO.binds (ps := ["people", "newcomer"]) fun _ _ _ _ _ _ us hl => match us, hl with | [_, _], _ => rfl
  have bRC := FRC.binds (ps := ["order", "most"]) fun _ _ _ _ _ _ us hl => match us, hl with | [_, _], _ => rfl
  have bA := FA.binds (ps := ["thing"]) fun _ _ _ _ _ _ us hl => match us, hl with | [_], _ => rfl
  have bT := FT.binds (ps := ["thing"]) fun _ _ _ _ _ _ us hl => match us, hl with | [_], _ => rfl
  have bI := FI.binds (ps := ["thing"]) fun _ _ _ _ _ _ us hl => match us, hl with | [_], _ => rfl
  have bL := FL.binds (ps := ["thing"]) fun _ _ _ _ _ _ us hl => match us, hl with | [_], _ => rfl
  have bCK := FCK.binds (ps := ["thing"]) fun _ _ _ _ _ _ us hl => match us, hl with | [_], _ => rfl
  have bG := FG.binds (ps := ["plan"]) fun _ _ _ _ _ _ us hl => match us, hl with | [_], _ => rfl
  have bM := FM.binds (ps := ["pieces"]) fun _ _ _ _ _ _ us hl => match us, hl with | [_], _ => rfl
  have bV := FV.binds (ps := ["pieces", "person"]) fun _ _ _ _ _ _ us hl => match us, hl with | [_, _], _ => rfl
  have bta := Fta.binds (ps := ["pieces", "person"]) fun _ _ _ _ _ _ us hl => match us, hl with | [_, _], _ => rfl
  have bpt := Fpt.binds (ps := ["pieces", "person"]) fun _ _ _ _ _ _ us hl => match us, hl with | [_, _], _ => rfl
  have bN := FN.binds (ps := ["pieces", "moment"]) fun _ _ _ _ _ _ us hl => match us, hl with | [_, _], _ => rfl
  have blp := Flp.binds (ps := ["left"]) fun _ _ _ _ _ _ us hl => match us, hl with | [_], _ => rfl
  have bln := Fln.binds (ps := ["pieces", "moment"]) fun _ _ _ _ _ _ us hl => match us, hl with | [_, _], _ => rfl
  have blt := Flt.binds (ps := ["plan", "moment"]) fun _ _ _ _ _ _ us hl => match us, hl with | [_, _], _ => rfl
  have bqu := Fqu.binds (ps := ["plan", "moment"]) fun _ _ _ _ _ _ us hl => match us, hl with | [_, _], _ => rfl
  have bDE := FDE.binds (ps := ["thing", "word", "many"]) fun _ _ _ _ _ _ us hl => match us, hl with | [_, _, _], _ => rfl
  have bCO := FCO.binds (ps := ["thing"]) fun _ _ _ _ _ _ us hl => match us, hl with | [_], _ => rfl
  have bHI := FHI.binds (ps := ["thing"]) fun _ _ _ _ _ _ us hl => match us, hl with | [_], _ => rfl
  have bLO := FLO.binds (ps := ["history"]) fun _ _ _ _ _ _ us hl => match us, hl with | [_], _ => rfl
  have bRE := FRE.binds (ps := ["cell", "k"]) fun _ _ _ _ _ _ us hl => match us, hl with | [_, _], _ => rfl
  have bDR := FDR.binds (ps := ["reel", "many"]) fun _ _ _ _ _ _ us hl => match us, hl with | [_, _], _ => rfl
  have bLQ := FLQ.binds (ps := ["patiences"]) fun _ _ _ _ _ _ us hl => match us, hl with | [_], _ => rfl
  have bOR := FOR.binds (ps := ["order"]) fun _ _ _ _ _ _ us hl => match us, hl with | [_], _ => rfl
  have bLR := FLR.binds (ps := ["reel", "patiences"]) fun _ _ _ _ _ _ us hl => match us, hl with | [_, _], _ => rfl
  have bRG := FRG.binds (ps := ["reel"]) fun _ _ _ _ _ _ us hl => match us, hl with | [_], _ => rfl
  have bZ := FZ.binds (ps := ["script"]) fun _ _ _ _ _ _ us hl => match us, hl with | [_], _ => rfl
  have CT : FunC K "is_turns" "is_turns" sTurns fT _ cT := ⟨⟨ocT, odT, kVT, dcT, pmT, anT, ctT, slT, rfl, lT, Tc⟩, kT⟩
  have CL : FunC K "is_plan" "is_plan" sPlan fL _ cL := ⟨⟨ocL, odL, kVL, dcL, pmL, anL, ctL, slL, rfl, lL, Lc⟩, kL⟩
  have CIO : FunC K "is_order" "is_order" sIsO fIO _ cIO := ⟨⟨ocIO, odIO, kVIO, dcIO, pmIO, anIO, ctIO, slIO, rfl, lIO, IOc⟩, kIO⟩
  have CBS : FunC K "bars" "bars" sBars fBS _ cBS := ⟨⟨ocBS, odBS, kVBS, dcBS, pmBS, anBS, ctBS, slBS, rfl, lBS, BSc⟩, kBS⟩
  have m := fun {n : Str} (e : PySem.W.nsIn K mainGlobals n = some none) => PySem.W.mg_none_of X G.g e
  have g := fun {n : Str} {v : Value} (e : PySem.W.nsIn K mainGlobals n = some (some v)) => PySem.W.mg_of X G.g e
  have T : Nm mg := ⟨m z_isinstance, m z_len, m z_all, m z_any, m z_sum, m z_int, m z_bool, m z_list, m z_tuple, ⟨_, g gM⟩, ⟨_, g gLo⟩⟩
  have TO : NmO mg := ⟨m z_isinstance, m z_len, m z_all, m z_int, m z_bool, m z_list, m z_tuple, m z_range, m z_sorted, m z_enumerate, m z_min, ⟨_, g gMP⟩⟩
  have TL : LnT K mg cLN := ⟨⟨pgC, hdC, poC, saC⟩, nF0, nF1, nF2, nF3, nF4, g aCLS⟩
  have XC1 : ExcC K mg "NoPlan" X1 := ⟨g xg1, xx1, xk1, xb1, xt1⟩
  have XC3 : ExcC K mg "NoMoment" X3 := ⟨g xg3, xx3, xk3, xb3, xt3⟩
  have XC7 : ExcC K mg "TooMany" X7 := ⟨g xg7, xx7, xk7, xb7, xt7⟩
  refine ⟨PySem.W.fnOf "law" "law" (defArgs sLaw) (defBody sLaw) (defScope sLaw) .none kVZ dcZ pmZ anZ cdZ ctZ, PT, PL, PIO, PBS, fun b hb => ?_, fun b hb => ?_, fun b hb => ?_, fun s v => .of_eq rfl, fun base _ _ hsys hB => ?_⟩
  · simp only [List.mem_cons, List.not_mem_nil, or_false] at hb
    rcases hb with rfl | rfl | rfl | rfl
    · exact tab_of G X rT (PySem.W.mg_of X G.g aT) lT rfl rfl qT
    · exact tab_of G X rL (PySem.W.mg_of X G.g aL) lL rfl rfl qL
    · exact tab_of G X rIO (PySem.W.mg_of X G.g aIO) lIO rfl rfl qIO
    · exact tab_of G X rBS (PySem.W.mg_of X G.g aBS) lBS rfl rfl qBS
  · simp only [List.mem_cons, List.not_mem_nil, or_false] at hb
    rcases hb with rfl | rfl | rfl | rfl
    · exact ⟨_, qT⟩
    · exact ⟨_, qL⟩
    · exact ⟨_, qIO⟩
    · exact ⟨_, qBS⟩
  · simp only [List.mem_cons, List.not_mem_nil, or_false] at hb
    rcases hb with rfl | rfl | rfl | rfl
    · exact Option.isNone_iff_eq_none.mp nT
    · exact Option.isNone_iff_eq_none.mp nL
    · exact Option.isNone_iff_eq_none.mp nIO
    · exact Option.isNone_iff_eq_none.mp nBS
  · have XB : K.In base := ‹K.In base›
    have TBT : GxR.TabB base mg cT PT := ⟨PySem.W.codeHd_of_K XB qT, (hB PT (by simp)).1, (hB PT (by simp)).2⟩
    have TBL : GxR.TabB base mg cL PL := ⟨PySem.W.codeHd_of_K XB qL, (hB PL (by simp)).1, (hB PL (by simp)).2⟩
    have TBIO : GxR.TabB base mg cIO PIO := ⟨PySem.W.codeHd_of_K XB qIO, (hB PIO (by simp)).1, (hB PIO (by simp)).2⟩
    have TBBS : GxR.TabB base mg cBS PBS := ⟨PySem.W.codeHd_of_K XB qBS, (hB PBS (by simp)).1, (hB PBS (by simp)).2⟩
    have KW : Cal l.prog w K mg base 1 "is_whole" ["thing"] (spOne isWhole) := ⟨fW, _, g aW, kW, bW, ok_whole FW T⟩
    have KR : Cal l.prog w K mg base 1 "is_row" ["thing"] (spOne isRow) := ⟨fR, _, g aR, kR, bR, ok_row FR T⟩
    have KA : Cal l.prog w K mg base 2 "is_patience" ["thing"] (spOne isPatience) := ⟨fA, _, g aA, kA, bA, ok_pat FA T KW⟩
    have KT : Cal l.prog w K mg base 4 "is_turns" ["thing"] (spTab PT PL isTurns) := ⟨fT, _, g aT, kT, bT, ok_turns CT T TBT KR KA⟩
    have KI : Cal l.prog w K mg base 5 "is_piece" ["thing"] (spTab PT PL isPiece) := ⟨fI, _, g aI, kI, bI, ok_piece FI T KW KR KT⟩
    have KP : Cal l.prog w K mg base 7 "is_plan" ["thing"] (spTab PT PL isPlan) := ⟨fL, _, g aL, kL, bL, ok_plan CL T TBL KR KI⟩
    have KCX : CalX l.prog w K mg base 8 "check_plan" ["thing"] (spCheck PT PL X1) := ⟨fCK, _, g aCK, kCK, bCK, ok_check FCK XC1 KP⟩
    have KG : CalX l.prog w K mg base 9 "pieces_of" ["plan"] (spPieces PT PL X1) := ⟨fG, _, g aG, kG, bG, ok_pieces FG T KCX⟩
    have KM : Cal l.prog w K mg base 1 "many_in" ["pieces"] (spMany) := ⟨fM, _, g aM, kM, bM, ok_many FM⟩
    have KV : Cal l.prog w K mg base 1 "piece_number" ["pieces", "person"] (spPieceNo) := ⟨fV, _, g aV, kV, bV, ok_pieceNo FV⟩
    have Kta : Cal l.prog w K mg base 2 "turn_at" ["pieces", "person"] (spTurnAt) := ⟨fta, _, g ata, kta, bta, ok_turnAt Fta T KV⟩
    have Kpt : Cal l.prog w K mg base 3 "patience_at" ["pieces", "person"] (spPatAt) := ⟨fpt, _, g apt, kpt, bpt, ok_patAt Fpt Kta⟩
    have KN : CalX l.prog w K mg base 2 "check_moment" ["pieces", "moment"] (spCkM X3) := ⟨fN, _, g aN, kN, bN, ok_ckm FN T XC3 KM KW⟩
    have KLe : Cal l.prog w K mg base 1 "let_past" ["left"] (spLet) := ⟨flp, _, g alp, klp, blp, ok_let Flp T⟩
    have Kln : Cal l.prog w K mg base 4 "line_up" ["pieces", "moment"] (spLine) := ⟨fln, _, g aln, kln, bln, ok_line Fln T (m z_range) Kpt (KLe.mono (by decide))⟩
    have Klt : CalX l.prog w K mg base 10 "listed_at" ["plan", "moment"] (spListed PT PL X1 X3 X7) := ⟨flt, _, g alt, klt, blt, ok_listed Flt ⟨_, g gMost⟩ XC7 KG (KN.mono (by decide)) (Kln.mono (by decide))⟩
    have Kqu : CalX l.prog w K mg base 11 "queue_at" ["plan", "moment"] (spQueue PT PL X1 X3 X7) := ⟨fqu, _, g aqu, kqu, bqu, ok_queue Fqu Klt⟩
    have KIO : Cal l.prog w K mg base 4 "is_order" ["thing"] (spIsO PIO) := ⟨fIO, _, g aIO, kIO, bIO, ok_isO CIO TO TBIO KR KW⟩
    have KPE : Cal l.prog w K mg base 5 "people_of" ["order"] (spPeople PIO) := ⟨fPE, _, g aPE, kPE, bPE, ok_people FPE TO KIO⟩
    have KPP : Cal l.prog w K mg base 1 "places_of" ["people"] (spPlaces) := ⟨fPP, _, g aPP, kPP, bPP, ok_places FPP TO⟩
    have KBI : Cal l.prog w K mg base 1 "bar_it" ["places", "youngest", "oldest", "between"] (spBarIt) := ⟨fBI, _, g aBI, kBI, bBI, ok_barIt FBI⟩
    have KBR : Cal l.prog w K mg base 6 "barring" ["order"] (spBarring PIO) := ⟨fBR, _, g aBR, kBR, bBR, ok_barring FBR TO KPE KPP KBI⟩
    have KBS : Cal l.prog w K mg base 6 "bars" ["order", "thing"] (spBars PIO PBS) := ⟨fBS, _, g aBS, kBS, bBS, ok_bars CBS TO TBBS KR KW KPE KPP KBI⟩
    have KLP : Cal l.prog w K mg base 7 "least_patiences" ["order"] (spLeast PIO) := ⟨fLP, _, g aLP, kLP, bLP, ok_least FLP TO KPE KPP KBR⟩
    have KRO : Cal l.prog w K mg base 1 "refuser_of" ["people", "newcomer"] (spRefus) := ⟨fRO, _, g aRO, kRO, bRO, ok_refus FRO TO⟩
    have KRC : Cal l.prog w K mg base 8 "rows_counted" ["order", "most"] (spRowsC PIO) := ⟨fRC, _, g aRC, kRC, bRC, ok_rowsC FRC TO (m z_max) ⟨_, g gGM⟩ KW KPE KLP KRO⟩
    have KDE : Cal l.prog w K mg base 2 "is_deed" ["thing", "word", "many"] (spIsDeed) := ⟨fDE, _, g aDE, kDE, bDE, ok_isDeed FDE T (m z_str) KR⟩
    have KCO : Cal l.prog w K mg base 3 "is_coming" ["thing"] (spOne isComD) := ⟨fCO, _, g aCO, kCO, bCO, ok_isCom FCO KDE KA⟩
    have KHI : Cal l.prog w K mg base 4 "is_history" ["thing"] (spOne isHistD) := ⟨fHI, _, g aHI, kHI, bHI, ok_isHist FHI KR KDE KCO⟩
    have GMI := ok_initL (P := l.prog) (w := w) (base := base) FMI TL
    have GMC := ok_comeM (P := l.prog) (w := w) (base := base) FMC T TL KA KLe
    have GMS := ok_serveM (P := l.prog) (w := w) (mg := mg) (base := base) FMS TL
    have GMQ := ok_queM (P := l.prog) (w := w) (base := base) FMQ T TL
    have GML := ok_leftM (P := l.prog) (w := w) (base := base) FML T TL
    have GMH := ok_histM (P := l.prog) (w := w) (base := base) FMH T TL
    have GMN := ok_lenM (P := l.prog) (w := w) (base := base) FMN T TL
    have KLO : Cal l.prog w K mg base 5 "line_of" ["history"] (spLineOf cLN) := ⟨fLO, _, g aLO, kLO, bLO, ok_lineOf FLO TL ⟨mkC, aMI, iMI, kcC⟩ GMI bMI ⟨aMC, iMC, kMC⟩ GMC bMC ⟨aMS, iMS, kMS⟩ GMS bMS KHI KCO⟩
    have KRE : Cal l.prog w K mg base 1 "_law_reel" ["cell", "k"] (spReel) := ⟨fRE, _, g aRE, kRE, bRE, ok_reel FRE (m z_abs)⟩
    have KDR : ∀ r, Cal l.prog w K mg base 1 "_law_draw" ["reel", "many"] (spDraw r) := fun r => ⟨fDR, _, g aDR, kDR, bDR, ok_draw FDR⟩
    have KLQ : Cal l.prog w K mg base 1 "_law_queue" ["patiences"] (spLQ) := ⟨fLQ, _, g aLQ, kLQ, bLQ, ok_lq FLQ T (m z_enumerate)⟩
    have KOR : Cal l.prog w K mg base 12 "_law_order_right" ["order"] (spOR PT PL PIO PBS) := ⟨fOR, _, g aOR, kOR, bOR, ok_or FOR TO (m z_max) KLQ KLP KBR KBS KRC Kqu⟩
    have KLR : ∀ r, Cal l.prog w K mg base 6 "_law_line_right" ["reel", "patiences"] (spLR r) := fun r => ⟨fLR, _, g aLR, kLR, bLR, ok_lr FLR T (m z_enumerate) TL ⟨mkC, aMI, iMI, kcC⟩ GMI bMI ⟨aMC, iMC, kMC⟩ GMC bMC ⟨aMS, iMS, kMS⟩ GMS bMS ⟨aMQ, iMQ, kMQ⟩ GMQ bMQ ⟨aML, iML, kML⟩ GML bML ⟨aMH, iMH, kMH⟩ GMH bMH aMN iMN GMN bMN (KDR r) KLO⟩
    have KRG : Cal l.prog w K mg base 13 "_law_right" ["reel"] (spE (spRG PT PL PIO PBS)) := ⟨fRG, _, g aRG, kRG, bRG, fnE fun r => ok_rg FRG TO (m z_zip) (KDR r) KLQ KLP KOR (KLR r)⟩
    exact (let GL := ok_law FZ T (m z_min) (m z_max) (m z_enumerate) KRE KRG; ⟨fun A outer s H args us vs Q E _ hr he hb hv hs => GL.run A outer s H args us vs Q E hr he hb hv hs⟩)
end CL
open PySem PySem.W PyProof.Rows
set_option maxRecDepth 100000 in
set_option maxHeartbeats 0 in
theorem PySem.Challenge.cw_comersline_k64_whole_orders_and_lines_holds : PySem.Challenge.rw_comersline_k64_whole_orders_and_lines.Holds := by
  w_on; o_law; k_head; (case hw => w_witness2)
  k_fill
  refine CL.walk (l := PySem.Challenge.rw_comersline_k64_whole_orders_and_lines) rfl rfl (by decide +kernel) (fun w h Y => PySem.W.kIn_of Y) ?F
  case F =>
    intro w mg mb mean lo fa h KX G hmg
    refine' CL.all_mk KX G hmg ?aMI ?lMI ?MIc ?kMI ?iMI ?aMC ?lMC ?MCc ?kMC ?iMC ?aMS ?lMS ?MSc ?kMS ?iMS ?aMQ ?lMQ ?MQc ?kMQ ?iMQ ?aML ?lML ?MLc ?kML ?iML ?aMH ?lMH ?MHc ?kMH ?iMH ?aMN ?lMN ?MNc ?kMN ?iMN ?aW ?lW ?Wc ?kW ?aR ?lR ?Rc ?kR ?aIO ?lIO ?IOc ?kIO ?aPE ?lPE ?PEc ?kPE ?aPP ?lPP ?PPc ?kPP ?aBI ?lBI ?BIc ?kBI ?aBR ?lBR ?BRc ?kBR ?aBS ?lBS ?BSc ?kBS ?aLP ?lLP ?LPc ?kLP ?aRO ?lRO ?ROc ?kRO ?aRC ?lRC ?RCc ?kRC ?aA ?lA ?Ac ?kA ?aT ?lT ?Tc ?kT ?aI ?lI ?Ic ?kI ?aL ?lL ?Lc ?kL ?aCK ?lCK ?CKc ?kCK ?aG ?lG ?Gc ?kG ?aM ?lM ?Mc ?kM ?aV ?lV ?Vc ?kV ?ata ?lta ?tac ?kta ?apt ?lpt ?ptc ?kpt ?aN ?lN ?Nc ?kN ?alp ?llp ?lpc ?klp ?aln ?lln ?lnc ?kln ?alt ?llt ?ltc ?klt ?aqu ?lqu ?quc ?kqu ?aDE ?lDE ?DEc ?kDE ?aCO ?lCO ?COc ?kCO ?aHI ?lHI ?HIc ?kHI ?aLO ?lLO ?LOc ?kLO ?aRE ?lRE ?REc ?kRE ?aDR ?lDR ?DRc ?kDR ?aLQ ?lLQ ?LQc ?kLQ ?aOR ?lOR ?ORc ?kOR ?aLR ?lLR ?LRc ?kLR ?aRG ?lRG ?RGc ?kRG ?aZ ?lZ ?Zc ?kZ ?z_isinstance ?z_len ?z_all ?z_any ?z_sum ?z_int ?z_bool ?z_list ?z_tuple ?z_str ?z_range ?z_min ?z_max ?z_sorted ?z_enumerate ?z_zip ?z_abs ?mT ?pT ?qT ?nT ?rT ?mL ?pL ?qL ?nL ?rL ?mIO ?pIO ?qIO ?nIO ?rIO ?mBS ?pBS ?qBS ?nBS ?rBS ?aCLS ?pgC ?hdC ?poC ?saC ?mkC ?kcC ?nF0 ?nF1 ?nF2 ?nF3 ?nF4 ?xg1 ?xx1 ?xk1 ?xb1 ?xt1 ?xg3 ?xx3 ?xk3 ?xb3 ?xt3 ?xg7 ?xx7 ?xk7 ?xb7 ?xt7 ?gM ?gLo ?gMP ?gGM ?gMost
    (case aCLS => k_is)
    (case xg1 => k_is)
    (case xg3 => k_is)
    (case xg7 => k_is)
    (case aMI => k_is)
    (case lMI => k_is)
    (case MIc => k_is)
    (case kMI => k_is)
    (case iMI => k_is)
    (case aMC => k_is)
    (case lMC => k_is)
    (case MCc => k_is)
    (case kMC => k_is)
    (case iMC => k_is)
    (case aMS => k_is)
    (case lMS => k_is)
    (case MSc => k_is)
    (case kMS => k_is)
    (case iMS => k_is)
    (case aMQ => k_is)
    (case lMQ => k_is)
    (case MQc => k_is)
    (case kMQ => k_is)
    (case iMQ => k_is)
    (case aML => k_is)
    (case lML => k_is)
    (case MLc => k_is)
    (case kML => k_is)
    (case iML => k_is)
    (case aMH => k_is)
    (case lMH => k_is)
    (case MHc => k_is)
    (case kMH => k_is)
    (case iMH => k_is)
    (case aMN => k_is)
    (case lMN => k_is)
    (case MNc => k_is)
    (case kMN => k_is)
    (case iMN => k_is)
    (case aW => k_is)
    (case lW => k_is)
    (case Wc => k_is)
    (case kW => k_is)
    (case aR => k_is)
    (case lR => k_is)
    (case Rc => k_is)
    (case kR => k_is)
    (case aIO => k_is)
    (case lIO => k_is)
    (case IOc => k_is)
    (case kIO => k_is)
    (case aPE => k_is)
    (case lPE => k_is)
    (case PEc => k_is)
    (case kPE => k_is)
    (case aPP => k_is)
    (case lPP => k_is)
    (case PPc => k_is)
    (case kPP => k_is)
    (case aBI => k_is)
    (case lBI => k_is)
    (case BIc => k_is)
    (case kBI => k_is)
    (case aBR => k_is)
    (case lBR => k_is)
    (case BRc => k_is)
    (case kBR => k_is)
    (case aBS => k_is)
    (case lBS => k_is)
    (case BSc => k_is)
    (case kBS => k_is)
    (case aLP => k_is)
    (case lLP => k_is)
    (case LPc => k_is)
    (case kLP => k_is)
    (case aRO => k_is)
    (case lRO => k_is)
    (case ROc => k_is)
    (case kRO => k_is)
    (case aRC => k_is)
    (case lRC => k_is)
    (case RCc => k_is)
    (case kRC => k_is)
    (case aA => k_is)
    (case lA => k_is)
    (case Ac => k_is)
    (case kA => k_is)
    (case aT => k_is)
    (case lT => k_is)
    (case Tc => k_is)
    (case kT => k_is)
    (case aI => k_is)
    (case lI => k_is)
    (case Ic => k_is)
    (case kI => k_is)
    (case aL => k_is)
    (case lL => k_is)
    (case Lc => k_is)
    (case kL => k_is)
    (case aCK => k_is)
    (case lCK => k_is)
    (case CKc => k_is)
    (case kCK => k_is)
    (case aG => k_is)
    (case lG => k_is)
    (case Gc => k_is)
    (case kG => k_is)
    (case aM => k_is)
    (case lM => k_is)
    (case Mc => k_is)
    (case kM => k_is)
    (case aV => k_is)
    (case lV => k_is)
    (case Vc => k_is)
    (case kV => k_is)
    (case ata => k_is)
    (case lta => k_is)
    (case tac => k_is)
    (case kta => k_is)
    (case apt => k_is)
    (case lpt => k_is)
    (case ptc => k_is)
    (case kpt => k_is)
    (case aN => k_is)
    (case lN => k_is)
    (case Nc => k_is)
    (case kN => k_is)
    (case alp => k_is)
    (case llp => k_is)
    (case lpc => k_is)
    (case klp => k_is)
    (case aln => k_is)
    (case lln => k_is)
    (case lnc => k_is)
    (case kln => k_is)
    (case alt => k_is)
    (case llt => k_is)
    (case ltc => k_is)
    (case klt => k_is)
    (case aqu => k_is)
    (case lqu => k_is)
    (case quc => k_is)
    (case kqu => k_is)
    (case aDE => k_is)
    (case lDE => k_is)
    (case DEc => k_is)
    (case kDE => k_is)
    (case aCO => k_is)
    (case lCO => k_is)
    (case COc => k_is)
    (case kCO => k_is)
    (case aHI => k_is)
    (case lHI => k_is)
    (case HIc => k_is)
    (case kHI => k_is)
    (case aLO => k_is)
    (case lLO => k_is)
    (case LOc => k_is)
    (case kLO => k_is)
    (case aRE => k_is)
    (case lRE => k_is)
    (case REc => k_is)
    (case kRE => k_is)
    (case aDR => k_is)
    (case lDR => k_is)
    (case DRc => k_is)
    (case kDR => k_is)
    (case aLQ => k_is)
    (case lLQ => k_is)
    (case LQc => k_is)
    (case kLQ => k_is)
    (case aOR => k_is)
    (case lOR => k_is)
    (case ORc => k_is)
    (case kOR => k_is)
    (case aLR => k_is)
    (case lLR => k_is)
    (case LRc => k_is)
    (case kLR => k_is)
    (case aRG => k_is)
    (case lRG => k_is)
    (case RGc => k_is)
    (case kRG => k_is)
    (case aZ => k_is)
    (case lZ => k_is)
    (case Zc => k_is)
    (case kZ => k_is)
    (case z_isinstance => k_is)
    (case z_len => k_is)
    (case z_all => k_is)
    (case z_any => k_is)
    (case z_sum => k_is)
    (case z_int => k_is)
    (case z_bool => k_is)
    (case z_list => k_is)
    (case z_tuple => k_is)
    (case z_str => k_is)
    (case z_range => k_is)
    (case z_min => k_is)
    (case z_max => k_is)
    (case z_sorted => k_is)
    (case z_enumerate => k_is)
    (case z_zip => k_is)
    (case z_abs => k_is)
    (case mT => k_is)
    (case pT => rfl)
    (case qT => kernel_rfl)
    (case nT => kernel_rfl)
    (case rT => kernel_rfl)
    (case mL => k_is)
    (case pL => rfl)
    (case qL => kernel_rfl)
    (case nL => kernel_rfl)
    (case rL => kernel_rfl)
    (case mIO => k_is)
    (case pIO => rfl)
    (case qIO => kernel_rfl)
    (case nIO => kernel_rfl)
    (case rIO => kernel_rfl)
    (case mBS => k_is)
    (case pBS => rfl)
    (case qBS => kernel_rfl)
    (case nBS => kernel_rfl)
    (case rBS => kernel_rfl)
    (case pgC => k_is)
    (case hdC => k_is)
    (case poC => k_is)
    (case saC => k_is)
    (case mkC => k_is)
    (case kcC => k_is)
    (case nF0 => k_is)
    (case nF1 => k_is)
    (case nF2 => k_is)
    (case nF3 => k_is)
    (case nF4 => k_is)
    (case xx1 => k_exc)
    (case xk1 => k_is)
    (case xb1 => k_is)
    (case xt1 => k_is)
    (case xx3 => k_exc)
    (case xk3 => k_is)
    (case xb3 => k_is)
    (case xt3 => k_is)
    (case xx7 => k_exc)
    (case xk7 => k_is)
    (case xb7 => k_is)
    (case xt7 => k_is)
    (case gM => k_is)
    (case gLo => k_is)
    (case gMP => k_is)
    (case gGM => k_is)
    (case gMost => k_is)
