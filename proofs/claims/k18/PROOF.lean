import PyProof.Rows.All
import Wide.All
import OpenK.AllK
import Wide.FinOn
import HandS.ForMost
import HandS.ForExc
import HandS.AnyAll
import HandS.GenBody
import HandS.IsInst
import HandS.TupAny
import HandS.Wide
import HandS.Codes
import HandS.More
import HandS.Walk
import PyProof.Rows.ReprOcc
import HandS.WideBits
import PyProof.Rows.FactsN_abs
import HandS.Text
import KE.IntTextLaws
import HandS.EndTab
import HandS.NestedK
import PySem.Challenge.RW_comersline_k18_windows_judged
set_option Elab.async false
set_option linter.all false
set_option maxRecDepth 100000
set_option maxHeartbeats 1000000
namespace GE
open PySem PySem.Spec PyProof.Rows L2 GenW
open Sem (wp)

/-- what a consumer holds between two turns of a generator -/
structure Con (α : Type) where
  fp : List Addr
  at_ : α → Heap → Prop
structure ConOk {α : Type} (C : Con α) : Prop where
  obj : ∀ a h, C.at_ a h → ∀ b ∈ C.fp, ∃ o, h.get? b = some o ∧ ∀ v, o.data ≠ .cell v
  keep : ∀ a h h', C.at_ a h → (∀ b ∈ C.fp, ∀ o, h.get? b = some o → h'.get? b = some o) → C.at_ a h'
  inj : ∀ a b h, C.at_ a h → C.at_ b h → a = b
def conU : Con Unit := ⟨[], fun _ _ => True⟩
theorem conU_ok : ConOk conU := ⟨(fun _ _ _ b hb => nomatch hb), (fun _ _ _ _ _ => trivial), (fun _ _ _ _ _ => rfl)⟩

abbrev nones (n : Nat) : L2.St := List.replicate n none
theorem nones_some {n i : Nat} {v : V} (h : (nones n)[i]? = some (some v)) : False := by
  rw [List.getElem?_replicate] at h
  split at h <;> cases h

section
variable {α : Type}
def GI (Y : Cx) (C : Con α) (fpI : List Addr) (tn : Nat → Heap → Prop) (a : α) (i : Nat) (H : Hp) (s : Shared) : Prop :=
  Inv Y (pinsAt C.fp s.heap) (nones Y.N.length) H s ∧ C.at_ a s.heap ∧ tn i s.heap ∧ ∀ b ∈ fpI, H b = none
def GP (Y : Cx) (C : Con α) (fpI : List Addr) (tn : Nat → Heap → Prop) (Out : α → V → Hp → (α → Hp → Prop) → Prop) : Protocol := fun _ s₀ v s kap =>
  ∃ a i H y Nx, RelV y v ∧ GI Y C fpI tn a i H s ∧ Out a y H Nx ∧ (∀ b ∈ C.fp, ∀ o, s₀.heap.get? b = some o → s.heap.get? b = some o) ∧ ∀ a' s'', GI Y C fpI tn a' i H s'' → Nx a' H → kap (.send .none) s''
def GF (Y : Cx) (C : Con α) (Fin : α → Hp → Prop) : Nat → Shared → Shared → Prop := fun _ s₀ s₁ =>
  ∃ a H, Inv Y (pinsAt C.fp s₁.heap) (nones Y.N.length) H s₁ ∧ C.at_ a s₁.heap ∧ (∀ b ∈ C.fp, ∀ o, s₀.heap.get? b = some o → s₁.heap.get? b = some o) ∧ Fin a H
abbrev GRr (Y : Cx) (C : Con α) (Fin : α → Hp → Prop) : GenEnd := fun n s₀ r s₁ => r = .ok .next ∧ GF Y C Fin n s₀ s₁
def TurnOf (J : It) (n0 : Nat) (g : TG) (tt : TT) (te : TE) (Out : α → V → Hp → (α → Hp → Prop) → Prop) (Fin : α → Hp → Prop) (W : α → Nat → Nat → Hp → Prop) : Prop :=
  ∀ a i m H, W a i m H → (J.stop i H ∧ Fin a H) ∨ (J.go i H ∧ ∃ Nx : α → Hp → Prop, (∀ a' H', Nx a' H' → ∃ m', m' < m ∧ W a' (i + 1) m' H') ∧
    ∀ x H', J.yld i H x H' → g x (nones n0) H' fun σ2 H2 => tt σ2 H2 fun b H3 => if b = true then te σ2 H3 fun y H4 => Out a y H4 Nx else Nx a H3)

def GoOn (M : Model) (A : Around) (R : GenEnd) (P : Protocol) (gi : α → Shared → Prop) (nx : α → Prop) (gs1 : GenState) : Nat → Prop
  | 0 => ∀ a' s'', gi a' s'' → nx a' → False
  | n1 + 1 => ∀ a' s'', gi a' s'' → nx a' → gs1.Goes M A R P n1 (.send .none) s''
theorem over_loopG {A : Around} {elt tg iter : Expr} {ifs : List Expr} {scope : Scope} {pos : Pos} {it acc : Value} {env : Env} :
    A.over (.compLoop (.GeneratorExp elt [⟨tg, iter, ifs, 0⟩] scope pos) 0 it acc env) [] = A.deeper env := by
  first
    | rfl
    | (obtain ⟨hd, d, fr, gs, u⟩ := A; simp [Around.over, Around.deeper, marksOver, frameCount, unitsOf, envsOf, guardsOf, pushEnvs, pushGuards, Code.envs, Code.env?, Code.isFrame, Code.guards, Code.isGuard, Code.weight, Code.frames, Code.isCreation, Code.isCaller, Code.cUnits])
theorem over_startG {A : Around} {elt tg iter : Expr} {ifs : List Expr} {scope : Scope} {pos : Pos} {it acc : Value} {env : Env} :
    A.over (.compStart (.GeneratorExp elt [⟨tg, iter, ifs, 0⟩] scope pos) 0 it acc env) [] = A.deeper env := by
  first
    | rfl
    | (obtain ⟨hd, d, fr, gs, u⟩ := A; simp [Around.over, Around.deeper, marksOver, frameCount, unitsOf, envsOf, guardsOf, pushEnvs, pushGuards, Code.envs, Code.env?, Code.isFrame, Code.guards, Code.isGuard, Code.weight, Code.frames, Code.isCreation, Code.isCaller, Code.cUnits])

theorem Inv.gensG {X : Cx} {pins : List (Addr × Obj)} {σ : L2.St} {H : Hp} {s : Shared} (I : Inv X pins σ H s) {G : Array GenState} (h : AllBare G) : Inv X pins σ H { s with gens := G } :=
  ⟨I.ok, I.os, h, I.base, I.loc, I.cell, I.free, I.freeC, I.pin, I.hok, I.len⟩
theorem bare_setGen {s : Shared} {g : Nat} {x : GenState} (h : AllBare s.gens) (hx : x.bare = true) : AllBare (s.setGen g x).gens := by
  intro y hy
  show y.bare = true
  have hy : y ∈ s.gens.setIfInBounds g x := hy
  rcases Array.mem_or_eq_of_mem_setIfInBounds hy with h1 | h1
  · exact h y h1
  · rw [h1]; exact hx

section
variable {Y : Cx} {C : Con α} {tg elt iter : Expr} {ifs : List Expr} {scope : Scope} {pos : Pos} {J : It} {fpI : List Addr} {it : Addr} {tn : Nat → Heap → Prop} {g : TG} {tt : TT} {te : TE}
  {Out : α → V → Hp → (α → Hp → Prop) → Prop} {Fin : α → Hp → Prop} {W : α → Nat → Nat → Hp → Prop} {A : Around}
/-- the loop of a generator expression -/
theorem seg_loop (CO : ConOk C) (hcalm : Y.calm = true) (T : Turn Y.prog Y.w Y.K tg J fpI it tn) (hg : PG Y tg g) (ht : PTs Y ifs tt) (he : PE Y elt te) (hA : A.deeper Y.env = Y.A)
    (hex : ∀ b ∈ fpI, b ∈ Y.ex) (hdis : ∀ b ∈ C.fp, b ∉ fpI) (hpn : ∀ p ∈ Y.pn, p.1 ∉ fpI) (hxe : Y.xe = fun _ _ => False) (hco : Y.env.scope.isCoroutine = false) (turn : TurnOf J Y.N.length g tt te Out Fin W) :
    ∀ (m : Nat) (a : α) (i n : Nat) (H : Hp) (s₀ s : Shared), m < n → W a i m H → GI Y C fpI tn a i H s → (∀ b ∈ C.fp, ∀ o, s₀.heap.get? b = some o → s.heap.get? b = some o) →
      Seg (model Y.prog Y.w) A (GRr Y C Fin) (GP Y C fpI tn Out) n s₀ (.compLoop (.GeneratorExp elt [⟨tg, iter, ifs, 0⟩] scope pos) 0 (.ref it) .none Y.env)
        ((model Y.prog Y.w).den (.compLoop (.GeneratorExp elt [⟨tg, iter, ifs, 0⟩] scope pos) 0 (.ref it) .none Y.env)) [] s := by
  have ov : A.over (.compLoop (.GeneratorExp elt [⟨tg, iter, ifs, 0⟩] scope pos) 0 (.ref it) .none Y.env) [] = Y.A := over_loopG.trans hA
  have stat : ∀ {pins : List (Addr × Obj)} {σ' : L2.St} {H' : Hp} {s' : Shared}, Inv Y pins σ' H' s' → (∀ p ∈ pins, p.1 ∉ fpI) → (∀ b ∈ fpI, H' b = none) → ∀ b ∈ fpI, FpOk Y pins H' b := fun {pins σ' H' s'} I' hp hn b hb =>
    ⟨hn b hb, (I'.ok.exf b (hex b hb)).1, I'.ok.exfs b (hex b hb), .inl (hex b hb), fun x c e => (I'.ok.exf b (hex b hb)).2 x c e, fun p hp' z => (List.mem_append.mp hp').elim (fun q => hpn p q (z ▸ hb)) fun q => hp p q (z ▸ hb)⟩
  have pinN : ∀ h : Heap, ∀ p ∈ pinsAt C.fp h, p.1 ∉ fpI := fun h p hp => hdis p.1 (of_pinsAt hp).1
  intro m
  induction m using Nat.strongRecOn with
  | ind m ih =>
    intro a i n H s₀ s hmn hw hGI since
    obtain ⟨I, hat, st, hn0⟩ := hGI
    show Seg _ A _ _ n s₀ _ ((compTurn (.GeneratorExp elt [⟨tg, iter, ifs, 0⟩] scope pos) 0 (.ref it) .none Y.env).onRaise (leaving Y.env)) [] s
    rw [compTurn_gen, Sem.onRaise_eq_wrap]
    refine seg_bind_wrap (wpAny_standAt ?_)
    have sf := stat I (pinN s.heap) hn0
    rcases turn a i m H hw with ⟨stop, fin⟩ | ⟨go, Nx, hNx, step⟩
    · refine seg_bind_wrap ?_
      rw [ov]
      refine thnF (T.done Y rfl rfl rfl hcalm i _ s _ H (fun _ _ => False) I sf st stop) fun r s1 ⟨hr, I1⟩ => ?_
      subst hr
      have hk : ∀ b ∈ C.fp, ∀ o, s.heap.get? b = some o → s1.heap.get? b = some o := fun b hb o e => (I1.pin (b, o) (List.mem_append_right _ (mem_pinsAt hb e))).1
      refine seg_end (.ok .next) ⟨rfl, a, H, I1.pins_of fun p hp => ?_, CO.keep _ _ _ hat hk, fun b hb o e => hk b hb o (since b hb o e), fin⟩
      obtain ⟨hb, e⟩ := of_pinsAt hp
      obtain ⟨o, e2, _⟩ := CO.obj _ _ hat p.1 hb
      have e3 := hk p.1 hb o e2
      rw [e] at e3
      cases e3
      exact I1.pin (p.1, p.2) (List.mem_append_right _ (mem_pinsAt hb e2))
    · refine seg_bind_wrap ?_
      rw [ov]
      refine thnF (T.item Y rfl rfl rfl hcalm i _ s _ H (fun _ _ => False) I sf st go) fun r s1 ⟨u, hr, h1⟩ => ?_
      subst hr
      refine seg_bind_wrap ?_
      rw [ov]
      refine thnF h1 fun _ s2 ⟨x, H2, I2, r2, y2, st2, n2⟩ => ?_
      have I2' := I2.pinned (stat I2 (pinN s.heap) n2) (T.obj _ _ st2)
      refine seg_bind_wrap ?_
      rw [ov]
      have xf : ∀ {β : Type} {t : Sem β} {P P' : β → Shared → Prop} {E' : Value → Shared → Prop} {z : Shared}, wpAny (model Y.prog Y.w) Y.A t P Y.xe z → (∀ a s, P a s → P' a s) → wpAny (model Y.prog Y.w) Y.A t P' E' z := fun {β t P P' E' z} q hq => by
        rw [hxe] at q
        exact thnF q hq
      refine xf (hg.run _ s2 _ H2 x u _ I2' r2 (step x H2 y2)) fun _ s3 ⟨σ3, H3, I3, q3⟩ => ?_
      refine seg_bind_wrap ?_
      rw [ov]
      refine xf (ht.run _ s3 σ3 H3 _ I3 q3) fun ok s4 ⟨H4, I4, q4⟩ => ?_
      -- what stands at a turn's end
      have fin : ∀ {s' : Shared} {H' : Hp} {σ' : L2.St}, Inv Y (pinsAt C.fp s.heap ++ pinsAt fpI s2.heap) σ' H' s' →
          GI Y C fpI tn a (i + 1) H' s' ∧ ∀ b ∈ C.fp, ∀ o, s₀.heap.get? b = some o → s'.heap.get? b = some o := fun {s' H' σ'} I' => by
        have hk : ∀ b ∈ C.fp, ∀ o, s.heap.get? b = some o → s'.heap.get? b = some o := fun b hb o e => (I'.pin (b, o) (List.mem_append_right _ (List.mem_append_left _ (mem_pinsAt hb e)))).1
        have pin' : ∀ b ∈ fpI, ∀ o, s2.heap.get? b = some o → s'.heap.get? b = some o ∧ H' b = none := fun b hb o e =>
          let z := I'.pin (b, o) (List.mem_append_right _ (List.mem_append_right _ (mem_pinsAt hb e)))
          ⟨z.1, z.2.1⟩
        have I1 : Inv Y (pinsAt C.fp s'.heap) σ' H' s' := I'.pins_of fun p hp => by
          obtain ⟨hb, e⟩ := of_pinsAt hp
          obtain ⟨o, e2, _⟩ := CO.obj _ _ hat p.1 hb
          have e3 := hk p.1 hb o e2
          rw [e] at e3
          cases e3
          exact I'.pin (p.1, p.2) (List.mem_append_right _ (List.mem_append_left _ (mem_pinsAt hb e2)))
        refine ⟨⟨I1.weak (by rw [I1.len, List.length_replicate]) fun j v e => (nones_some e).elim, CO.keep _ _ _ hat hk, T.keep _ _ _ st2 fun b hb o e => (pin' b hb o e).1, fun b hb => ?_⟩, fun b hb o e => hk b hb o (since b hb o e)⟩
        obtain ⟨o, e, _⟩ := T.obj _ _ st2 b hb
        exact (pin' b hb o e).2
      cases ok with
      | false =>
        simp only [Bool.false_eq_true, if_false] at q4 ⊢
        obtain ⟨f1, f2⟩ := fin I4
        obtain ⟨m', hm', w'⟩ := hNx a H4 q4
        exact seg_again rfl (ih m' hm' a (i + 1) n H4 s₀ s4 (by omega) w' f1 f2)
      | true =>
        simp only [if_true] at q4 ⊢
        obtain ⟨n', rfl⟩ : ∃ n', n = n' + 1 := ⟨n - 1, by omega⟩
        have hy : ∀ v, yieldOut Y.env v = yieldValue v := fun v => by simp only [yieldOut, hco, Bool.false_eq_true, if_false]
        simp only [hy]
        rw [Sem.bind_eq_wrap', Sem.bind_eq_wrap', Sem.wrap_wrap, Sem.wrap_wrap]
        refine seg_wrap ?_
        rw [ov]
        refine xf (he.run _ s4 σ3 H4 _ I4 q4) fun y s5 ⟨yv, H5, I5, r5, o5⟩ => ?_
        obtain ⟨f1, f2⟩ := fin I5
        refine seg_at (seg_yield rfl rfl rfl ⟨a, i + 1, H5, yv, Nx, r5, f1, o5, f2, fun a' s'' hGI' hN' => ?_⟩)
        obtain ⟨m', hm', w'⟩ := hNx a' H5 hN'
        exact seg_again rfl (ih m' hm' a' (i + 1) n' H5 s'' s'' (by omega) w' hGI' fun _ _ _ e => e)

/-- .. and its start -/
theorem seg_start (CO : ConOk C) (hcalm : Y.calm = true) (T : Turn Y.prog Y.w Y.K tg J fpI it tn) (hg : PG Y tg g) (ht : PTs Y ifs tt) (he : PE Y elt te) (hA : A.deeper Y.env = Y.A)
    (hex : ∀ b ∈ fpI, b ∈ Y.ex) (hdis : ∀ b ∈ C.fp, b ∉ fpI) (hpn : ∀ p ∈ Y.pn, p.1 ∉ fpI) (hxe : Y.xe = fun _ _ => False) (hco : Y.env.scope.isCoroutine = false) (turn : TurnOf J Y.N.length g tt te Out Fin W)
    (m : Nat) (a : α) (n : Nat) (H : Hp) (s : Shared) (hm : m < n) (hw : W a 0 m H) (hGI : GI Y C fpI tn a 0 H s) :
      Seg (model Y.prog Y.w) A (GRr Y C Fin) (GP Y C fpI tn Out) n s (.compStart (.GeneratorExp elt [⟨tg, iter, ifs, 0⟩] scope pos) 0 (.ref it) .none Y.env)
        ((model Y.prog Y.w).den (.compStart (.GeneratorExp elt [⟨tg, iter, ifs, 0⟩] scope pos) 0 (.ref it) .none Y.env)) [] s := by
  have loop := seg_loop (iter := iter) (scope := scope) (pos := pos) CO hcalm T hg ht he hA hex hdis hpn hxe hco turn m a 0 n H s s hm hw hGI fun _ _ _ e => e
  show Seg _ A _ _ _ s _ ((compStart (.GeneratorExp elt [⟨tg, iter, ifs, 0⟩] scope pos) 0 (.ref it) .none Y.env).onRaise (leaving Y.env)) [] s
  unfold compStart
  rw [Sem.onRaise_eq_wrap]
  show Seg _ A _ _ _ s _ ((ask >>= _).wrap _ _ _ _) [] s
  refine seg_bind_wrap (wpAny_askSetting ?_)
  split
  · exact seg_again rfl loop
  · first
      | exact seg_bind_wrap (wpAny_rule (seg_bind_wrap (wpAny_standAt (seg_bind_wrap (T.self _ 0 s _ _ hGI.2.2.1 (seg_again rfl loop))))))
      | (refine seg_bind_wrap (wpAny_rule ?_); show Seg _ A _ _ _ s _ ((standAt iter.pos >>= _).wrap _ _ _ _) [] s; exact seg_bind_wrap (wpAny_standAt (seg_bind_wrap (T.self _ 0 s _ _ hGI.2.2.1 (seg_again rfl loop)))))

theorem repin {a : α} {h : Heap} {σ : L2.St} {H : Hp} {s' : Shared} (CO : ConOk C) (hat : C.at_ a h) (I : Inv Y (pinsAt C.fp h) σ H s') (hk : ∀ b ∈ C.fp, ∀ o, h.get? b = some o → s'.heap.get? b = some o) :
    Inv Y (pinsAt C.fp s'.heap) σ H s' := I.pins_of fun p hp => by
  obtain ⟨hb, e⟩ := of_pinsAt hp
  obtain ⟨o, e2, _⟩ := CO.obj _ _ hat p.1 hb
  have e3 := hk p.1 hb o e2
  rw [e] at e3
  cases e3
  exact I.pin (p.1, p.2) (List.mem_append_right _ (mem_pinsAt hb e2))

/-- one item of such a generator -/
theorem next_ge {A : Around} {ga : Addr} {go : Obj} {g i n : Nat} {gs : GenState} {a : α} {H : Hp} {Nx : α → Hp → Prop} {s : Shared} {Q : Option Value → Shared → Prop} {E : Value → Shared → Prop}
    (CO : ConOk C) (hh : A.handled = none) (hd : A.depth < recursionLimit) (hpn : (ga, go) ∈ Y.pn) (hgo : ∀ h : Heap, h.get? ga = some go → h.IsGen ga g) (hgs : s.gens[g]? = some gs)
    (gi : GI Y C fpI tn a i H s) (hN : Nx a H)
    (goes : ∀ a' s'', GI Y C fpI tn a' i H s'' → Nx a' H → gs.Goes (model Y.prog Y.w) A.in1 (GRr Y C Fin) (GP Y C fpI tn Out) n (.send .none) s'')
    (hsome : ∀ i1 H1 y v Nx1 s1 gs1, RelV y v → GI Y C fpI tn a i1 H1 s1 → Out a y H1 Nx1 → s1.gens[g]? = some gs1 →
      GoOn (model Y.prog Y.w) A.in1 (GRr Y C Fin) (GP Y C fpI tn Out) (fun a' s'' => GI Y C fpI tn a' i1 H1 s'') (fun a' => Nx1 a' H1) gs1 n → Q (some v) s1)
    (hnone : ∀ H1 s1, Inv Y (pinsAt C.fp s1.heap) (nones Y.N.length) H1 s1 → C.at_ a s1.heap → Fin a H1 → Q none s1) :
    wpAny (model Y.prog Y.w) A (pyNext (.ref ga)) Q E s := by
  obtain ⟨I, hat, st, hn0⟩ := id gi
  have hlt : g < s.gens.size := by
    rcases Nat.lt_or_ge g s.gens.size with h' | h'
    · exact h'
    · rw [Array.getElem?_eq_none h'] at hgs; cases hgs
  refine wpAny_gsz (n := g + 1) hlt ?_
  have gi' : GI Y C fpI tn a i H (s.setGen g .running) := ⟨Inv.gensG I (bare_setGen I.bare rfl), hat, st, hn0⟩
  have hig : s.heap.IsGen ga g := hgo _ (I.pin (ga, go) (List.mem_append_left _ hpn)).1
  refine wpAny_pyNext_genexpQ (P := GF Y C Fin) (Y := GP Y C fpI tn Out) hh I.nolimit hd hig hgs (goes a _ gi' hN) (fun v s1 gs1 hb hv => ?_) (fun s1 hp h' hk => ?_)
  · obtain ⟨a1, i1, H1, y, Nx1, rv, gi1, o1, since, kap⟩ := hv
    have hat1 : C.at_ a s1.heap := CO.keep _ _ _ hat since
    have ea : a1 = a := CO.inj _ _ _ gi1.2.1 hat1
    subst ea
    intro hsz
    have hlt1 : g < s1.gens.size := by
      rw [setGen_size] at hsz
      exact hsz
    have gi2 : GI Y C fpI tn a1 i1 H1 (s1.setGen g gs1) := ⟨Inv.gensG gi1.1 (bare_setGen gi1.1.bare hb), gi1.2.1, gi1.2.2.1, gi1.2.2.2⟩
    refine hsome i1 H1 y v Nx1 _ gs1 rv gi2 o1 (by simp [Shared.setGen, hlt1]) ?_
    cases n with
    | zero => exact fun a' s'' q1 q2 => kap a' s'' q1 q2
    | succ n1 => exact fun a' s'' q1 q2 => kap a' s'' q1 q2
  · obtain ⟨a1, H1, I1, hat1, since, fin⟩ := hp
    have ea : a1 = a := CO.inj _ _ _ hat1 (CO.keep _ _ _ hat since)
    subst ea
    intro _
    have I2 : Inv Y (pinsAt C.fp s1.heap) (nones Y.N.length) H1 { s1.setGen g .finished with heap := h' } := (Inv.gensG I1 (bare_setGen (x := .finished) (g := g) I1.bare rfl)).kept (t' := s1.toks) hk
    exact hnone H1 _ (repin CO hat1 I2 fun b _ o e => hk b o e) (CO.keep _ _ _ hat1 fun b _ o e => hk b o e) fin
end
end

section
variable {Y : Cx} {fpI : List Addr} {tn : Nat → Heap → Prop}
def outAll (QB : Bool → Hp → Prop) : Unit → V → Hp → (Unit → Hp → Prop) → Prop := fun _ y H Nx => ∃ c, y = .bl c ∧ if c = true then Nx () H else QB false H
def outAny (QB : Bool → Hp → Prop) : Unit → V → Hp → (Unit → Hp → Prop) → Prop := fun _ y H Nx => ∃ c, y = .bl c ∧ if c = true then QB true H else Nx () H
theorem all_loop {A : Around} {ga : Addr} {go : Obj} {g : Nat} {QB : Bool → Hp → Prop} {R : Result → Shared → Prop} (hh : A.handled = none) (hd : A.depth < recursionLimit) (hpn : (ga, go) ∈ Y.pn) (hgo : ∀ h : Heap, h.get? ga = some go → h.IsGen ga g)
    (hR : ∀ b s' H', Inv Y [] (nones Y.N.length) H' s' → QB b H' → R (.ok (.ret (.bool b))) s') :
    ∀ (n i : Nat) (H : Hp) (Nx : Unit → Hp → Prop) (s : Shared) (gs : GenState), s.gens[g]? = some gs → GI Y conU fpI tn () i H s → Nx () H →
      (∀ a' s'', GI Y conU fpI tn a' i H s'' → Nx a' H → gs.Goes (model Y.prog Y.w) A.in1.in1 (GRr Y conU fun _ H => QB true H) (GP Y conU fpI tn (outAll QB)) n (.send .none) s'') →
      codeAny (model Y.prog Y.w) A (.builtin "all.loop" ⟨[.ref ga], []⟩) R s := by
  intro n
  induction n with
  | zero =>
    intro i H Nx s gs hgs gi hN goes
    refine codeAny_builtin F.entry_all_loop ?_
    rw [Around.under_plainId F.plain_all_loop _]
    show wpAny _ A.in1 (pyNext (.ref ga) >>= _) _ _ s
    refine wpAny_bind (next_ge (A := A.in1) conU_ok hh hd hpn hgo hgs gi hN goes (fun i1 H1 y v Nx1 s1 gs1 rv gi1 o1 hg1 go1 => ?_) (fun H1 s1 I1 _ fin => ?_))
    · obtain ⟨c, rfl, hc⟩ := o1
      cases (show v = Value.bool c from rv)
      refine wpAny_bind (wpAny_holding (wpAny_truthy_bool ?_))
      refine wpAny_bind (wpAny_letGo ?_)
      cases c with
      | true => exact (go1 () s1 gi1 hc).elim
      | false =>
        simp only [Bool.false_eq_true, if_false]
        exact wpAny_bind (wpAny_rule (wpAny_pure (hR false s1 H1 gi1.1 hc)))
    · exact wpAny_bind (wpAny_rule (wpAny_pure (hR true s1 H1 I1 fin)))
  | succ n ih =>
    intro i H Nx s gs hgs gi hN goes
    refine codeAny_builtin F.entry_all_loop ?_
    rw [Around.under_plainId F.plain_all_loop _]
    show wpAny _ A.in1 (pyNext (.ref ga) >>= _) _ _ s
    refine wpAny_bind (next_ge (A := A.in1) conU_ok hh hd hpn hgo hgs gi hN goes (fun i1 H1 y v Nx1 s1 gs1 rv gi1 o1 hg1 go1 => ?_) (fun H1 s1 I1 _ fin => ?_))
    · obtain ⟨c, rfl, hc⟩ := o1
      cases (show v = Value.bool c from rv)
      refine wpAny_bind (wpAny_holding (wpAny_truthy_bool ?_))
      refine wpAny_bind (wpAny_letGo ?_)
      cases c with
      | true =>
        simp only [if_true]
        exact wpAny_pure ⟨plainId_quiet F.plain_all_loop _, ih i1 H1 Nx1 s1 gs1 hg1 gi1 hc go1⟩
      | false =>
        simp only [Bool.false_eq_true, if_false]
        exact wpAny_bind (wpAny_rule (wpAny_pure (hR false s1 H1 gi1.1 hc)))
    · exact wpAny_bind (wpAny_rule (wpAny_pure (hR true s1 H1 I1 fin)))
theorem any_loop {A : Around} {ga : Addr} {go : Obj} {g : Nat} {QB : Bool → Hp → Prop} {R : Result → Shared → Prop} (hh : A.handled = none) (hd : A.depth < recursionLimit) (hpn : (ga, go) ∈ Y.pn) (hgo : ∀ h : Heap, h.get? ga = some go → h.IsGen ga g)
    (hR : ∀ b s' H', Inv Y [] (nones Y.N.length) H' s' → QB b H' → R (.ok (.ret (.bool b))) s') :
    ∀ (n i : Nat) (H : Hp) (Nx : Unit → Hp → Prop) (s : Shared) (gs : GenState), s.gens[g]? = some gs → GI Y conU fpI tn () i H s → Nx () H →
      (∀ a' s'', GI Y conU fpI tn a' i H s'' → Nx a' H → gs.Goes (model Y.prog Y.w) A.in1.in1 (GRr Y conU fun _ H => QB false H) (GP Y conU fpI tn (outAny QB)) n (.send .none) s'') →
      codeAny (model Y.prog Y.w) A (.builtin "any.loop" ⟨[.ref ga], []⟩) R s := by
  intro n
  induction n with
  | zero =>
    intro i H Nx s gs hgs gi hN goes
    refine codeAny_builtin F.entry_any_loop ?_
    rw [Around.under_plainId F.plain_any_loop _]
    show wpAny _ A.in1 (pyNext (.ref ga) >>= _) _ _ s
    refine wpAny_bind (next_ge (A := A.in1) conU_ok hh hd hpn hgo hgs gi hN goes (fun i1 H1 y v Nx1 s1 gs1 rv gi1 o1 hg1 go1 => ?_) (fun H1 s1 I1 _ fin => ?_))
    · obtain ⟨c, rfl, hc⟩ := o1
      cases (show v = Value.bool c from rv)
      refine wpAny_bind (wpAny_holding (wpAny_truthy_bool ?_))
      refine wpAny_bind (wpAny_letGo ?_)
      cases c with
      | false => exact (go1 () s1 gi1 hc).elim
      | true =>
        simp only [if_true]
        exact wpAny_bind (wpAny_rule (wpAny_pure (hR true s1 H1 gi1.1 hc)))
    · exact wpAny_bind (wpAny_rule (wpAny_pure (hR false s1 H1 I1 fin)))
  | succ n ih =>
    intro i H Nx s gs hgs gi hN goes
    refine codeAny_builtin F.entry_any_loop ?_
    rw [Around.under_plainId F.plain_any_loop _]
    show wpAny _ A.in1 (pyNext (.ref ga) >>= _) _ _ s
    refine wpAny_bind (next_ge (A := A.in1) conU_ok hh hd hpn hgo hgs gi hN goes (fun i1 H1 y v Nx1 s1 gs1 rv gi1 o1 hg1 go1 => ?_) (fun H1 s1 I1 _ fin => ?_))
    · obtain ⟨c, rfl, hc⟩ := o1
      cases (show v = Value.bool c from rv)
      refine wpAny_bind (wpAny_holding (wpAny_truthy_bool ?_))
      refine wpAny_bind (wpAny_letGo ?_)
      cases c with
      | false =>
        simp only [Bool.false_eq_true, if_false]
        exact wpAny_pure ⟨plainId_quiet F.plain_any_loop _, ih i1 H1 Nx1 s1 gs1 hg1 gi1 hc go1⟩
      | true =>
        simp only [if_true]
        exact wpAny_bind (wpAny_rule (wpAny_pure (hR true s1 H1 gi1.1 hc)))
    · exact wpAny_bind (wpAny_rule (wpAny_pure (hR false s1 H1 I1 fin)))
end

/-! ### a generator expression is made -/
abbrev ce (X : Cx) (scope : Scope) (C : Addr) (code : Value) : Env := genEnv scope [] C code builtinsNs X.env
abbrev gx (X : Cx) (A : Around) (N : List Str) (s : Shared) (H : Hp) (cenv : Env) (fp : List Addr) (pn : List (Addr × Obj)) : Cx :=
  { X with A := A.deeper cenv, N := N, s_0 := s, H_0 := H, env := cenv, outer := X.stack, stack := cenv :: X.stack, ex := fp, fn := fun _ => false, calm := true, pn := pn, xe := fun _ _ => False }
structure GSc (scope : Scope) : Prop where
  kind : scope.kind = .function
  co : scope.isCoroutine = false
  own : ∀ y ∈ scope.names, y.2 ≠ .cell ∧ y.2 ≠ .free
  dot : scope.names.lookup (".0" : Str) = some NameKind.local
theorem cloFrom_nil {cells : List (Str × Addr)} : ∀ {names : List (Str × NameKind)} {acc : List (Str × Addr)}, (∀ y ∈ names, y.2 ≠ .free) → cloFrom cells names acc = acc
  | [], _, _ => rfl
  | (n, k) :: r, acc, h => by
    unfold cloFrom
    rw [if_neg (by simpa using h (n, k) List.mem_cons_self)]
    exact cloFrom_nil fun y hy => h y (List.mem_cons_of_mem _ hy)
theorem GSc.nocell {scope : Scope} (S : GSc scope) {x : Str} (h : scope.names.lookup x = some .cell ∨ scope.names.lookup x = some .free) : False := by
  rcases h with h | h
  · exact (S.own _ (PySem.mem_of_lookup h)).1 rfl
  · exact (S.own _ (PySem.mem_of_lookup h)).2 rfl
section
variable {X : Cx} {pins : List (Addr × Obj)} {σ : L2.St} {H : Hp} {s : Shared}
theorem ge_start {A : Around} {N : List Str} {scope : Scope} {code : Value} {fp : List Addr} {go : Obj} {G : Array GenState} {tk : Nat} {h5 : Heap} {m0 : Str → Option Value} (I : Inv X pins σ H s) (S : GSc scope) (hA : A.handled = none) (hf : A.frames = some X.stack)
    (hfp : ∀ b ∈ fp, FpOk X pins H b ∧ b < s.heap.objs.size) (hG : AllBare G) (hns : h5.Ns s.heap.objs.size m0) (hk : ∀ b o, s.heap.get? b = some o → h5.get? b = some o) (hgo : h5.get? (s.heap.objs.size + 1) = some go) (hgd : ∀ v, go.data ≠ .cell v) :
    Inv (gx X A N s H (ce X scope s.heap.objs.size code) fp [(s.heap.objs.size + 1, go)]) [] (nones N.length) H { s with gens := G, toks := tk, heap := h5 } := by
  have noc : ∀ x c, (ce X scope s.heap.objs.size code).cells.lookup x = some c → False := fun x c e => by simp [genEnv] at e
  have stkne : ∀ b, s.heap.objs.size ≤ b → b ∉ frs X.stack := fun b hb z => by
    rcases List.mem_cons.mp (I.stkSub b z) with e | e
    · exact absurd (Nat.lt_of_lt_of_le I.lt (by rw [← e]; exact hb)) (Nat.lt_irrefl _)
    · exact I.nofs hb e
  refine ⟨⟨I.ok.mod, S.kind, I.ok.glob, rfl, Nat.le_refl _, fun x y c h1 _ => (noc x c h1).elim, fun x hx => (S.nocell hx).elim, fun x c h _ => (by cases h), fun _ => hA, Around.frames_deeper hf, .inr ⟨rfl, rfl⟩, fun b hb => ⟨Nat.ne_of_lt (hfp b hb).2, fun x c e => (noc x c e).elim⟩,
    I.bs, Nat.le_trans I.ok.bsz I.sz, fun b o e hb => ?_, fun b hb z => ?_, I.stack, I.stkFree⟩, rfl, hG, Un.kept hk, ⟨m0, hns, fun i x v _ h2 _ => (nones_some h2).elim⟩, fun x c e => (noc x c e).elim, I.hok.fresh (Nat.le_refl _), fun x c e => (noc x c e).elim, fun p hp => ?_, I.hok.kept hk, List.length_replicate⟩
  · rcases (hfp b hb).1.2.2.2.1 with z | z
    · exact I.ok.noex b o e z
    · exact absurd (Nat.lt_of_lt_of_le (Heap.lt_size e) (Nat.le_trans I.ok.bsz z)) (Nat.lt_irrefl _)
  · rcases List.mem_cons.mp (I.stkSub b z) with e | e
    · exact (hfp b hb).1.2.1 e
    · exact (hfp b hb).1.2.2.1 e
  · have hp' : p ∈ [(s.heap.objs.size + 1, go)] := by simpa using hp
    rw [List.mem_singleton.mp hp']
    exact ⟨hgo, I.hok.fresh (Nat.le_succ _), Nat.succ_ne_self _, stkne _ (Nat.le_succ _), hgd⟩
/-- back in the def that asked -/
theorem ge_back {A : Around} {N : List Str} {cenv : Env} {fp : List Addr} {pn pins' : List (Addr × Obj)} {σ' : L2.St} {H' : Hp} {s' : Shared} (I : Inv X pins σ H s) (hfp : ∀ b ∈ fp, FpOk X pins H b ∧ b < s.heap.objs.size)
    (J : Inv (gx X A N s H cenv fp pn) pins' σ' H' s') : Inv X pins σ H' s' :=
  I.call' (ch := fp) J.os J.base J.hok J.bare fun b hb => ⟨(hfp b hb).1.2.2.2.1, (hfp b hb).1.2.1, (hfp b hb).1.2.2.2.2.1, (hfp b hb).1.2.2.2.2.2⟩
theorem room3 {k : Nat} {A : Around} (r : Room (k + 1) A) (env : Env) : Room k (A.in1.in1.deeper env) :=
  ⟨r.hd, by have := r.dp; show A.depth + 1 + 3 * k + 5 < _; omega, by have := r.un; show A.units + 1 + 1 + 3 + 16 * k + 200 < _; omega⟩

theorem gen_make {c P : Addr} {elt tg iter : Expr} {ifs : List Expr} {gpos : Pos} {scope : Scope} {wi : TI} {k : Nat} {Q' : Value → Shared → Prop} {R : It → Hp → Prop}
    (hr : Room k X.A) (TB : GxR.TabB X.base X.mg c P) (hcode : X.env.code = .ref c) (S : GSc scope) (hi : PI X tg iter wi) (hs : ∀ v, genFold iter X.env v = pure v) (I : Inv X pins σ H s) (h : wi σ H fun J H1 => GxR.TabG H1 P ∧ R J H1)
    (hQ : ∀ J H1 H2 s4 s5 code fp it tn go g, R J H1 → GxR.Tabbed P H1 H2 → Inv X pins σ H2 s4 → (∀ b ∈ fp, FpOk X pins H2 b ∧ b < s4.heap.objs.size) → Turn X.prog X.w X.K tg J fp it tn → tn 0 s5.heap →
      (∀ A N, A.handled = none → A.frames = some X.stack → Inv (gx X A N s4 H2 (ce X scope s4.heap.objs.size code) fp [(s4.heap.objs.size + 1, go)]) [] (nones N.length) H2 s5) →
      (∀ h : Heap, h.get? (s4.heap.objs.size + 1) = some go → h.IsGen (s4.heap.objs.size + 1) g) →
      s5.gens[g]? = some (.fresh (.compStart (.GeneratorExp elt [⟨tg, iter, ifs, 0⟩] scope gpos) 0 (.ref it) .none (ce X scope s4.heap.objs.size code))) → Q' (.ref (s4.heap.objs.size + 1)) s5) :
    wpAny (model X.prog X.w) X.A (eval (.GeneratorExp elt [⟨tg, iter, ifs, 0⟩] scope gpos) X.env) Q' X.xe s := by
  have hcl : closureFor scope X.env = pure [] := by
    rw [closure_ok fun y hy e => absurd e (S.own y hy).2, cloFrom_nil fun y hy => (S.own y hy).2]
  refine wpAny_GeneratorExp_make S.co hcl (fun y hy => (S.own y hy).1) S.dot S.kind (by have := hr.dp; omega) (thn (hi.run pins s σ H _ I h) fun xv s1 hx => thn hx fun itv s2 h2 => ?_) hs
  obtain ⟨it, fp, tn, J, H1, e, I2, T, st2, f2, ⟨ps, hP, ht⟩, q1⟩ := h2
  subst e
  have hPs : s2.heap.get? P = some { cls := .none, data := .fields ps } := I2.hok P _ hP
  have cd : PySem.W.CodeHd s2.heap c P := TB.code.keeps fun b u e => I2.bk b u e
  have nfp : ∀ b ∈ fp, b ≠ P := fun b hb z => by
    have := (f2 b hb).1
    rw [z, hP] at this
    cases this
  have szf : ∀ b ∈ fp, b < s2.heap.objs.size := fun b hb => by
    obtain ⟨o, e, _⟩ := T.obj _ _ st2 b hb
    exact Heap.lt_size e
  have cont : ∀ (code : Value) (h3 : Heap) (tk : Nat) (ps' : Array Value), Heap.ExtBut P s2.heap h3 → s2.heap.objs.size ≤ h3.objs.size → h3.get? P = some { cls := .none, data := .fields ps' } → (∃ more, ps' = ps ++ more) → TriplesOk ps'.toList →
      wpAny (model X.prog X.w) X.A (builtinsFor X.env.globals X.env.builtins) (fun bi s4 =>
        ∀ h', h'.Ns s4.heap.objs.size (fun y => if y = ".0" then some (.ref it) else none) → Heap.SameBut s4.heap.objs.size (s4.heap.push { cls := .type "frame", data := .dict #[] }) h' →
          Q' (.ref h'.objs.size) { s4 with
            gens := s4.gens.push (.fresh (.compStart (.GeneratorExp elt [⟨tg, iter, ifs, 0⟩] scope gpos) 0 (.ref it) .none (genEnv scope [] s4.heap.objs.size code bi X.env))),
            toks := s4.toks + 1 + 1 + 1,
            heap := h'.push { cls := .type "generator", data := .fields #[.int s4.gens.size 0, .str "<genexpr>" (s4.toks + 1), .str (X.env.qual ++ "<genexpr>") (s4.toks + 1 + 1)] } }) X.xe { s2 with heap := h3, toks := tk } := by
    intro code h3 tk ps' hx hsz hP3 hmore ht3
    obtain ⟨bm, ob, e1, e2, e3, e4, e5, e6, e7, e8⟩ := TB.bm
    obtain ⟨more, rfl⟩ := hmore
    have I3 : Inv X pins σ (upd H1 P (.tbl (ps ++ more))) { s2 with heap := h3, toks := tk } := GxR.inv_tab (more := more) (g' := s2.gens) (d' := s2.drawn) I2 hP (fun b u hb e => hx b u hb e) hP3 I2.bare
    have tab : GxR.Tabbed P H1 (upd H1 P (.tbl (ps ++ more))) := ⟨⟨_, upd_same, ht3⟩, fun b hb => upd_ne hb⟩
    have st3 : tn 0 h3 := T.keep _ _ _ st2 fun b hb o e => hx b o (nfp b hb) e
    have f3 : ∀ b ∈ fp, FpOk X pins (upd H1 P (.tbl (ps ++ more))) b ∧ b < h3.objs.size := fun b hb =>
      ⟨⟨by rw [upd_ne (nfp b hb)]; exact (f2 b hb).1, (f2 b hb).2⟩, Nat.lt_of_lt_of_le (szf b hb) hsz⟩
    refine wpAny_builtinsFor (m := X.mg) (by rw [I3.ok.glob]; exact I3.mod.glob.keeps I3.bk) e1 e2 (I3.bk _ _ e5) e6 e7 e8 ?_
    intro h' hns hsb
    have hsz' : h'.objs.size = h3.objs.size + 1 := by rw [hsb.1, Heap.size_push]
    have keep' : ∀ b o, h3.get? b = some o → h'.get? b = some o := fun b o e => hsb.extBut b o (Nat.ne_of_lt (Heap.lt_size e)) (Heap.get?_push_of_some _ e)
    have main : ∀ (go : Obj), go.cls = .type "generator" → (∃ nm qn, go.data = .fields #[.int s2.gens.size 0, nm, qn]) → go.slots = #[] → (∀ h : Heap, (h.push go).get? h.objs.size = some go) → ∀ t',
        Q' (.ref h'.objs.size) { s2 with heap := h'.push go, toks := t', gens := s2.gens.push (.fresh (.compStart (.GeneratorExp elt [⟨tg, iter, ifs, 0⟩] scope gpos) 0 (.ref it) .none (genEnv scope [] h3.objs.size code builtinsNs X.env))) } := by
      intro go gc ⟨nm, qn, gd⟩ gsl gp t'
      have hgp := gp h'
      rw [hsz'] at hgp ⊢
      have keep5 : ∀ b o, h3.get? b = some o → (h'.push go).get? b = some o := fun b o e => Heap.get?_push_of_some _ (keep' b o e)
      refine hQ J H1 (upd H1 P (.tbl (ps ++ more))) { s2 with heap := h3, toks := tk } _ code fp it tn go s2.gens.size q1 tab I3 f3 T (T.keep _ _ _ st3 fun b _ o e => keep5 b o e) (fun A N hA hf => ?_) (fun h e => ⟨go, nm, qn, e, gc, gd, gsl⟩) (Array.getElem?_push_size ..)
      exact ge_start (s := { s2 with heap := h3, toks := tk }) I3 S hA hf f3 (I2.bare.push rfl) (hns.push _) keep5 hgp (fun v z => by rw [gd] at z; cases z)
    exact main _ rfl ⟨_, _, rfl⟩ rfl (fun h => Heap.get?_push_size _ rfl) _
  refine ⟨I2.nolimit, ?_⟩
  cases hf : codeAmong gpos ps.toList with
  | none =>
    refine wpAny_genexprCodeX hcode (cd.code hPs ht) (cd.tab hPs) hf fun c' h' tk hx hge hlt hco' _ htab' _ => ?_
    obtain ⟨o1, vs, f1, tf, fl, tg', inF, tx, tt, op, _, _, _, _, _, _, _, _, _, htr, _⟩ := hco'
    exact cont _ h' tk _ hx (Nat.le_trans hge (Nat.le_of_lt hlt)) htab'.2 ⟨_, rfl⟩ htr
  | some cv =>
    refine wpAny_genexprCode_hit hcode (cd.code hPs ht) hf ?_
    exact cont cv s2.heap s2.toks ps (Heap.ExtBut.refl _ _) (Nat.le_refl _) hPs ⟨#[], by simp⟩ ht

/-! ### all and any of one -/
def tGen (P : Addr) (n0 : Nat) (wi : TI) (g : TG) (tt : TT) (te : TE) (Out : (Bool → Hp → Prop) → Unit → V → Hp → (Unit → Hp → Prop) → Prop) (fin : Bool) : TE := fun σ H Q => wi σ H fun J H1 => GxR.TabG H1 P ∧ ∀ H2, GxR.Tabbed P H1 H2 →
  ∃ W : Unit → Nat → Nat → Hp → Prop, (∃ m, W () 0 m H2) ∧ TurnOf J n0 g tt te (Out fun b H => Q (.bl b) H) (fun _ H => Q (.bl fin) H) W
theorem pe_allG {N : List Str} {c P : Addr} {elt tg iter : Expr} {ifs : List Expr} {p pos gpos : Pos} {scope : Scope} {wi : TI} {g : TG} {tt : TT} {te : TE} {k : Nat}
    (hr : Room (k + 1) X.A) (hgl : Gl X "all") (hm : X.mg "all" = none) (TB : GxR.TabB X.base X.mg c P) (hcode : X.env.code = .ref c) (S : GSc scope) (hi : PI X tg iter wi)
    (hg : ∀ (A : Around) (s : Shared) (H : Hp) (C : Addr) (code : Value) (fp : List Addr) (pn : List (Addr × Obj)), Room k (A.deeper (ce X scope C code)) → PG (gx X A N s H (ce X scope C code) fp pn) tg g)
    (ht : ∀ (A : Around) (s : Shared) (H : Hp) (C : Addr) (code : Value) (fp : List Addr) (pn : List (Addr × Obj)), Room k (A.deeper (ce X scope C code)) → PTs (gx X A N s H (ce X scope C code) fp pn) ifs tt)
    (he : ∀ (A : Around) (s : Shared) (H : Hp) (C : Addr) (code : Value) (fp : List Addr) (pn : List (Addr × Obj)), Room k (A.deeper (ce X scope C code)) → PE (gx X A N s H (ce X scope C code) fp pn) elt te)
    (hs : ∀ v, genFold iter X.env v = pure v := by intro _; rfl)
    (hb : bootBuiltins "all" = some (.builtin "all") := by decide +kernel)
    (hst : starEach [.GeneratorExp elt [⟨tg, iter, ifs, 0⟩] scope gpos] X.env = (false, eval (.GeneratorExp elt [⟨tg, iter, ifs, 0⟩] scope gpos) X.env) :: starEach [] X.env := by rfl) :
    PE X (.Call (.Name "all" p) [.GeneratorExp elt [⟨tg, iter, ifs, 0⟩] scope gpos] [] pos) (tGen P N.length wi g tt te outAll true) := by
  refine ⟨fun pins s σ H Q I h => ?_⟩
  refine wpAny_Call_Name_kw (ld_blt I hgl hm hb ?_)
  refine PyProof.Rows.callWith_builtin1 ?_ hst (by rfl)
  rw [hst]
  show wpAny _ _ (spliced ((false, eval (.GeneratorExp elt [⟨tg, iter, ifs, 0⟩] scope gpos) X.env) :: backTo pos (starEach [] X.env))) _ _ s
  refine Calls.spliced_cons (gen_make hr TB hcode S hi hs I h fun J H1 H2 s4 s5 code fp it tn go gn hR tab I4 f4 T st5 mk hgo hgs => ?_)
  refine Calls.spliced_nil ?_
  obtain ⟨W, ⟨m0, w0⟩, turn⟩ := hR H2 tab
  have rY := room3 hr (ce X scope s4.heap.objs.size code)
  have I5 := mk X.A.in1.in1 N hr.hd I.ok.frames
  generalize hpn : [(s4.heap.objs.size + 1, go)] = pn at I5
  have hpm : (s4.heap.objs.size + 1, go) ∈ pn := by rw [← hpn]; exact List.mem_singleton.mpr rfl
  have hpf : ∀ p ∈ pn, p.1 ∉ fp := fun p hp z => by
    rw [← hpn] at hp
    rw [List.mem_singleton.mp hp] at z
    exact absurd (f4 _ z).2 (Nat.not_lt.mpr (Nat.le_succ _))
  have gi0 : GI (gx X X.A.in1.in1 N s4 H2 (ce X scope s4.heap.objs.size code) fp pn) conU fp tn () 0 H2 s5 := ⟨I5, trivial, st5, fun b hb => (f4 b hb).1.1⟩
  have isg := hgo _ (I5.pin _ (List.mem_append_left _ hpm)).1
  refine call_function_tree F.kind_all F.plain_all F.entry_all (F.args_all1 _) ?_
  unfold Builtin.«all»
  refine wpAny_bind (m := oneArg "all" _) (wpAny_pure ?_)
  refine wpAny_bind (wpAny_pyIter_gen isg ?_)
  refine wpAny_pure ⟨plainId_quiet F.plain_all_loop _, ?_⟩
  refine all_loop (Y := gx X X.A.in1.in1 N s4 H2 (ce X scope s4.heap.objs.size code) fp pn) (A := X.A) (g := gn) (QB := fun b H => Q (.bl b) H) hr.hd hr.depth hpm hgo (fun b s' H' I' q => ?_) (m0 + 1) 0 H2 (fun a H => W a 0 m0 H) s5 _ hgs gi0 w0 (fun a' s'' gi' w' => ?_)
  · exact ⟨.bl b, H', ge_back I4 f4 I', rfl, q⟩
  · exact ⟨rfl, seg_start (Y := gx X X.A.in1.in1 N s4 H2 (ce X scope s4.heap.objs.size code) fp pn) conU_ok rfl T (hg _ _ _ _ _ _ _ rY) (ht _ _ _ _ _ _ _ rY) (he _ _ _ _ _ _ _ rY) rfl (fun b hb => hb) (fun b hb => nomatch hb) hpf rfl S.co turn m0 a' (m0 + 1) H2 s'' (Nat.lt_succ_self _) w' gi'⟩
theorem pe_anyG {N : List Str} {c P : Addr} {elt tg iter : Expr} {ifs : List Expr} {p pos gpos : Pos} {scope : Scope} {wi : TI} {g : TG} {tt : TT} {te : TE} {k : Nat}
    (hr : Room (k + 1) X.A) (hgl : Gl X "any") (hm : X.mg "any" = none) (TB : GxR.TabB X.base X.mg c P) (hcode : X.env.code = .ref c) (S : GSc scope) (hi : PI X tg iter wi)
    (hg : ∀ (A : Around) (s : Shared) (H : Hp) (C : Addr) (code : Value) (fp : List Addr) (pn : List (Addr × Obj)), Room k (A.deeper (ce X scope C code)) → PG (gx X A N s H (ce X scope C code) fp pn) tg g)
    (ht : ∀ (A : Around) (s : Shared) (H : Hp) (C : Addr) (code : Value) (fp : List Addr) (pn : List (Addr × Obj)), Room k (A.deeper (ce X scope C code)) → PTs (gx X A N s H (ce X scope C code) fp pn) ifs tt)
    (he : ∀ (A : Around) (s : Shared) (H : Hp) (C : Addr) (code : Value) (fp : List Addr) (pn : List (Addr × Obj)), Room k (A.deeper (ce X scope C code)) → PE (gx X A N s H (ce X scope C code) fp pn) elt te)
    (hs : ∀ v, genFold iter X.env v = pure v := by intro _; rfl)
    (hst : starEach [.GeneratorExp elt [⟨tg, iter, ifs, 0⟩] scope gpos] X.env = (false, eval (.GeneratorExp elt [⟨tg, iter, ifs, 0⟩] scope gpos) X.env) :: starEach [] X.env := by rfl) :
    PE X (.Call (.Name "any" p) [.GeneratorExp elt [⟨tg, iter, ifs, 0⟩] scope gpos] [] pos) (tGen P N.length wi g tt te outAny false) := by
  refine ⟨fun pins s σ H Q I h => ?_⟩
  refine wpAny_Call_Name_kw (ld_blt I hgl hm boot_any ?_)
  refine PyProof.Rows.callWith_builtin1 ?_ hst (by rfl)
  rw [hst]
  show wpAny _ _ (spliced ((false, eval (.GeneratorExp elt [⟨tg, iter, ifs, 0⟩] scope gpos) X.env) :: backTo pos (starEach [] X.env))) _ _ s
  refine Calls.spliced_cons (gen_make hr TB hcode S hi hs I h fun J H1 H2 s4 s5 code fp it tn go gn hR tab I4 f4 T st5 mk hgo hgs => ?_)
  refine Calls.spliced_nil ?_
  obtain ⟨W, ⟨m0, w0⟩, turn⟩ := hR H2 tab
  have rY := room3 hr (ce X scope s4.heap.objs.size code)
  have I5 := mk X.A.in1.in1 N hr.hd I.ok.frames
  generalize hpn : [(s4.heap.objs.size + 1, go)] = pn at I5
  have hpm : (s4.heap.objs.size + 1, go) ∈ pn := by rw [← hpn]; exact List.mem_singleton.mpr rfl
  have hpf : ∀ p ∈ pn, p.1 ∉ fp := fun p hp z => by
    rw [← hpn] at hp
    rw [List.mem_singleton.mp hp] at z
    exact absurd (f4 _ z).2 (Nat.not_lt.mpr (Nat.le_succ _))
  have gi0 : GI (gx X X.A.in1.in1 N s4 H2 (ce X scope s4.heap.objs.size code) fp pn) conU fp tn () 0 H2 s5 := ⟨I5, trivial, st5, fun b hb => (f4 b hb).1.1⟩
  have isg := hgo _ (I5.pin _ (List.mem_append_left _ hpm)).1
  refine call_function_tree F.kind_any F.plain_any F.entry_any (F.args_any1 _) ?_
  unfold Builtin.«any»
  refine wpAny_bind (m := oneArg "any" _) (wpAny_pure ?_)
  refine wpAny_bind (wpAny_pyIter_gen isg ?_)
  refine wpAny_pure ⟨plainId_quiet F.plain_any_loop _, ?_⟩
  refine any_loop (Y := gx X X.A.in1.in1 N s4 H2 (ce X scope s4.heap.objs.size code) fp pn) (A := X.A) (g := gn) (QB := fun b H => Q (.bl b) H) hr.hd hr.depth hpm hgo (fun b s' H' I' q => ?_) (m0 + 1) 0 H2 (fun a H => W a 0 m0 H) s5 _ hgs gi0 w0 (fun a' s'' gi' w' => ?_)
  · exact ⟨.bl b, H', ge_back I4 f4 I', rfl, q⟩
  · exact ⟨rfl, seg_start (Y := gx X X.A.in1.in1 N s4 H2 (ce X scope s4.heap.objs.size code) fp pn) conU_ok rfl T (hg _ _ _ _ _ _ _ rY) (ht _ _ _ _ _ _ _ rY) (he _ _ _ _ _ _ _ rY) rfl (fun b hb => hb) (fun b hb => nomatch hb) hpf rfl S.co turn m0 a' (m0 + 1) H2 s'' (Nat.lt_succ_self _) w' gi'⟩

/-! ### sum of one -/
def sumObj (a : Int) (t : Tok) (c : Nat) : Obj := { cls := .type "list", dict := none, data := .seq #[.int a t] c, slots := #[] }
def conS (S : Addr) : Con Int := ⟨[S], fun a h => ∃ t c, h.get? S = some (sumObj a t c)⟩
theorem conS_ok (S : Addr) : ConOk (conS S) :=
  ⟨(fun a h ⟨t, c, e⟩ b hb => by
      rw [List.mem_singleton.mp hb]
      exact ⟨_, e, fun v z => by cases z⟩),
   (fun a h h' ⟨t, c, e⟩ k => ⟨t, c, k S (List.mem_singleton.mpr rfl) _ e⟩),
   (fun a b h ⟨t, c, e⟩ ⟨t', c', e'⟩ => by
      rw [e] at e'
      have z : Data.seq #[Value.int a t] c = Data.seq #[Value.int b t'] c' := congrArg Obj.data (Option.some.inj e')
      injection z with z1 _
      have z2 : [Value.int a t] = [Value.int b t'] := congrArg Array.toList z1
      injection z2 with z3 _
      injection z3)⟩
def outSum : Int → V → Hp → (Int → Hp → Prop) → Prop := fun a y H Nx => ∃ v, y = .int v ∧ Nx (a + v) H
structure ApS (Y : Cx) (S : Addr) : Prop where
  young : Y.s_0.heap.objs.size ≤ S
  loc : S ≠ Y.env.locals
  cell : ∀ x c, Y.env.cells.lookup x = some c → c ≠ S
  pn : ∀ p ∈ Y.pn, p.1 ≠ S
theorem gi_upd {Y : Cx} {fpI : List Addr} {tn : Nat → Heap → Prop} {S : Addr} {a v : Int} {i : Nat} {H : Hp} {s : Shared} {tk : Nat} {h' : Heap} {t : Tok} {c : Nat} (hSf : S ∉ fpI) (ap : ApS Y S) (keepT : ∀ i h h', tn i h → (∀ b ∈ fpI, ∀ o, h.get? b = some o → h'.get? b = some o) → tn i h')
    (gi : GI Y (conS S) fpI tn a i H s) (hk : ∀ b o, b ≠ S → s.heap.get? b = some o → h'.get? b = some o) (hS : h'.get? S = some (sumObj v t c)) : GI Y (conS S) fpI tn v i H { s with heap := h', toks := tk } := by
  obtain ⟨I, ⟨t0, c0, e0⟩, st, hn⟩ := gi
  obtain ⟨_, p2, p3, p4, _⟩ := I.pin (S, sumObj a t0 c0) (List.mem_append_right _ (mem_pinsAt (List.mem_singleton.mpr rfl) e0))
  have I0 : Inv Y [] (nones Y.N.length) H s := I.pins_of fun p hp => by cases hp
  have I1 : Inv Y [] (nones Y.N.length) H { s with heap := h', toks := tk } := I0.turned (it := S) (fun b o hb e => hk b o hb e) p2 p3 (.inr ap.young) ap.cell fun p hp => (List.mem_append.mp hp).elim (fun z => ap.pn p z) fun z => by cases z
  refine ⟨I1.pins_of fun p hp => ?_, ⟨t, c, hS⟩, keepT _ _ _ st fun b hb o e => hk b o (fun z => hSf (z ▸ hb)) e, hn⟩
  obtain ⟨hb, e⟩ := of_pinsAt hp
  have eS : p.1 = S := List.mem_singleton.mp hb
  rw [eS] at e ⊢
  have e' : h'.get? S = some p.2 := e
  rw [hS] at e'
  refine ⟨e, p2, p3, p4, fun v z => ?_⟩
  rw [← Option.some.inj e'] at z
  cases z
theorem sum_loop {Y : Cx} {fpI : List Addr} {tn : Nat → Heap → Prop} {A : Around} {ga : Addr} {go : Obj} {g : Nat} {S : Addr} {QI : Int → Hp → Prop} {R : Result → Shared → Prop} (hSf : S ∉ fpI) (ap : ApS Y S) (keepT : ∀ i h h', tn i h → (∀ b ∈ fpI, ∀ o, h.get? b = some o → h'.get? b = some o) → tn i h')
    (hh : A.handled = none) (hd : A.depth < recursionLimit) (hpn : (ga, go) ∈ Y.pn) (hgo : ∀ h : Heap, h.get? ga = some go → h.IsGen ga g)
    (hR : ∀ a t' s' H', Inv Y [] (nones Y.N.length) H' s' → QI a H' → R (.ok (.ret (.int a t'))) s') :
    ∀ (n i : Nat) (H : Hp) (Nx : Int → Hp → Prop) (s : Shared) (gs : GenState) (a : Int) (t : Tok) (c : Nat) (st : Int), (st = 0 ∨ st = 2) → s.gens[g]? = some gs → GI Y (conS S) fpI tn a i H s → s.heap.get? S = some (sumObj a t c) → Nx a H →
      (∀ a' s'', GI Y (conS S) fpI tn a' i H s'' → Nx a' H → gs.Goes (model Y.prog Y.w) A.in1.in1 (GRr Y (conS S) QI) (GP Y (conS S) fpI tn outSum) n (.send .none) s'') →
      codeAny (model Y.prog Y.w) A (.builtin "sum.loop" ⟨[.ref ga, .ref S, rawInt st, rawInt 0], []⟩) R s := by
  -- what a turn comes to, the loop going on or not
  have turn : ∀ (n i : Nat) (H : Hp) (Nx : Int → Hp → Prop) (s : Shared) (gs : GenState) (a : Int) (t : Tok) (c : Nat) (st : Int), (st = 0 ∨ st = 2) → s.gens[g]? = some gs → GI Y (conS S) fpI tn a i H s → s.heap.get? S = some (sumObj a t c) → Nx a H →
      (∀ a' s'', GI Y (conS S) fpI tn a' i H s'' → Nx a' H → gs.Goes (model Y.prog Y.w) A.in1.in1 (GRr Y (conS S) QI) (GP Y (conS S) fpI tn outSum) n (.send .none) s'') →
      (∀ (i1 : Nat) (H1 : Hp) (Nx1 : Int → Hp → Prop) (s1 : Shared) (gs1 : GenState) (b : Int) (t1 : Tok) (c1 : Nat) (st1 : Int), (st1 = 0 ∨ st1 = 2) → s1.gens[g]? = some gs1 → GI Y (conS S) fpI tn b i1 H1 s1 → s1.heap.get? S = some (sumObj b t1 c1) → Nx1 b H1 →
        GoOn (model Y.prog Y.w) A.in1.in1 (GRr Y (conS S) QI) (GP Y (conS S) fpI tn outSum) (fun a' s'' => GI Y (conS S) fpI tn a' i1 H1 s'') (fun a' => Nx1 a' H1) gs1 n →
        codeAny (model Y.prog Y.w) A (.builtin "sum.loop" ⟨[.ref ga, .ref S, rawInt st1, rawInt 0], []⟩) R s1) →
      codeAny (model Y.prog Y.w) A (.builtin "sum.loop" ⟨[.ref ga, .ref S, rawInt st, rawInt 0], []⟩) R s := by
    intro n i H Nx s gs a t c st hst2 hgs gi hS hN goes again
    refine codeAny_builtin F.entry_sum_loop ?_
    rw [Around.under_plainId F.plain_sum_loop _]
    show wpAny _ A.in1 (seqItems? (.ref S) >>= _) _ _ s
    refine wpAny_bind (wpAny_seqItems hS rfl ?_)
    show wpAny _ A.in1 (tryCatch (pyNext (.ref ga)) _ >>= _) _ _ s
    refine wpAny_bind (wpAny_tryCatch (next_ge (A := A.in1) (conS_ok S) hh hd hpn hgo hgs gi hN goes (fun i1 H1 y v Nx1 s1 gs1 rv gi1 o1 hg1 go1 => ?_) (fun H1 s1 I1 _ fin => ?_)))
    · obtain ⟨v', rfl, hc⟩ := o1
      obtain ⟨t', rfl⟩ := (show ∃ t', v = Value.int v' t' from rv)
      obtain ⟨tS, cS, hS'⟩ := gi1.2.1
      rcases hst2 with rfl | rfl
      · show wpAny _ A.in1 (if (_ : Bool) = true then (mkInt (a + v') >>= _) else _) _ _ _
        split
        · refine wpAny_bind (wpAny_mkInt ?_)
          show wpAny _ A.in1 (updateSeq S (fun _ => #[.int (a + v') s1.toks]) >>= _) _ _ _
          refine wpAny_bind ?_
          refine wpAny_updateSeq hS' rfl (wpAny_pure ⟨plainId_quiet F.plain_sum_loop _, ?_⟩)
          refine again i1 H1 Nx1 _ gs1 (a + v') s1.toks _ 0 (.inl rfl) hg1 (gi_upd (t := s1.toks) (s := s1) hSf ap keepT gi1 (fun b o hb e => (Heap.get?_update_other _ _ (Ne.symm hb)).trans e) (Heap.get?_update_self _ hS' rfl)) (Heap.get?_update_self _ hS' rfl) hc go1
        · refine wpAny_bind (wpAny_rule ?_)
          refine wpAny_bind (wpAny_attempt (wpAny_holding (wpAny_add_int ?_)))
          show wpAny _ A.in1 (updateSeq S (fun _ => #[.int (a + v') s1.toks]) >>= _) _ _ _
          refine wpAny_bind (wpAny_updateSeq hS' rfl ?_)
          have hS₂ := Heap.get?_update_self (Obj.mapSeq fun _ => #[Value.int (a + v') s1.toks]) hS' rfl
          refine wpAny_bind (wpAny_letGo ?_)
          refine wpAny_bind (wpAny_updateSeq hS₂ rfl (wpAny_pure ⟨plainId_quiet F.plain_sum_loop _, ?_⟩))
          refine again i1 H1 Nx1 _ gs1 (a + v') s1.toks _ 2 (.inr rfl) hg1 (gi_upd (t := s1.toks) (s := s1) hSf ap keepT gi1 (fun b o hb e => (Heap.get?_update_other _ _ (Ne.symm hb)).trans ((Heap.get?_update_other _ _ (Ne.symm hb)).trans e)) (Heap.get?_update_self _ hS₂ rfl)) (Heap.get?_update_self _ hS₂ rfl) hc go1
      · show wpAny _ A.in1 ((holding [Value.int v' t'] (binaryOp .Add (.int a t) (.int v' t'))).attempt >>= _) _ _ _
        refine wpAny_bind (wpAny_attempt (wpAny_holding (wpAny_add_int ?_)))
        show wpAny _ A.in1 (updateSeq S (fun _ => #[.int (a + v') s1.toks]) >>= _) _ _ _
        refine wpAny_bind (wpAny_updateSeq hS' rfl ?_)
        have hS₂ := Heap.get?_update_self (Obj.mapSeq fun _ => #[Value.int (a + v') s1.toks]) hS' rfl
        refine wpAny_bind (wpAny_letGo ?_)
        refine wpAny_bind (wpAny_updateSeq hS₂ rfl (wpAny_pure ⟨plainId_quiet F.plain_sum_loop _, ?_⟩))
        refine again i1 H1 Nx1 _ gs1 (a + v') s1.toks _ 2 (.inr rfl) hg1 (gi_upd (t := s1.toks) (s := s1) hSf ap keepT gi1 (fun b o hb e => (Heap.get?_update_other _ _ (Ne.symm hb)).trans ((Heap.get?_update_other _ _ (Ne.symm hb)).trans e)) (Heap.get?_update_self _ hS₂ rfl)) (Heap.get?_update_self _ hS₂ rfl) hc go1
    · exact wpAny_pure (hR a t s1 H1 (I1.pins_of fun p hp => by cases hp) fin)
  intro n
  induction n with
  | zero => exact fun i H Nx s gs a t c st h1 h2 h3 h4 h5 h6 => turn 0 i H Nx s gs a t c st h1 h2 h3 h4 h5 h6 fun i1 H1 Nx1 s1 gs1 b t1 c1 st1 _ _ g1 _ g3 g4 => (g4 b s1 g1 g3).elim
  | succ n ih => exact fun i H Nx s gs a t c st h1 h2 h3 h4 h5 h6 => turn (n + 1) i H Nx s gs a t c st h1 h2 h3 h4 h5 h6 fun i1 H1 Nx1 s1 gs1 b t1 c1 st1 g0 g1 g2 g3 g4 g5 => ih i1 H1 Nx1 s1 gs1 b t1 c1 st1 g0 g1 g2 g3 g4 g5
def tSumG (P : Addr) (n0 : Nat) (wi : TI) (g : TG) (tt : TT) (te : TE) : TE := fun σ H Q => wi σ H fun J H1 => GxR.TabG H1 P ∧ ∀ H2, GxR.Tabbed P H1 H2 →
  ∃ W : Int → Nat → Nat → Hp → Prop, (∃ m, W 0 0 m H2) ∧ TurnOf J n0 g tt te outSum (fun a H => Q (.int a) H) W
theorem pe_sumG {N : List Str} {c P : Addr} {elt tg iter : Expr} {ifs : List Expr} {p pos gpos : Pos} {scope : Scope} {wi : TI} {g : TG} {tt : TT} {te : TE} {k : Nat}
    (hr : Room (k + 1) X.A) (hgl : Gl X "sum") (hm : X.mg "sum" = none) (TB : GxR.TabB X.base X.mg c P) (hcode : X.env.code = .ref c) (S : GSc scope) (hi : PI X tg iter wi)
    (hg : ∀ (A : Around) (s : Shared) (H : Hp) (C : Addr) (code : Value) (fp : List Addr) (pn : List (Addr × Obj)), Room k (A.deeper (ce X scope C code)) → PG (gx X A N s H (ce X scope C code) fp pn) tg g)
    (ht : ∀ (A : Around) (s : Shared) (H : Hp) (C : Addr) (code : Value) (fp : List Addr) (pn : List (Addr × Obj)), Room k (A.deeper (ce X scope C code)) → PTs (gx X A N s H (ce X scope C code) fp pn) ifs tt)
    (he : ∀ (A : Around) (s : Shared) (H : Hp) (C : Addr) (code : Value) (fp : List Addr) (pn : List (Addr × Obj)), Room k (A.deeper (ce X scope C code)) → PE (gx X A N s H (ce X scope C code) fp pn) elt te)
    (hs : ∀ v, genFold iter X.env v = pure v := by intro _; rfl)
    (hb : bootBuiltins "sum" = some (.builtin "sum") := by decide +kernel)
    (hst : starEach [.GeneratorExp elt [⟨tg, iter, ifs, 0⟩] scope gpos] X.env = (false, eval (.GeneratorExp elt [⟨tg, iter, ifs, 0⟩] scope gpos) X.env) :: starEach [] X.env := by rfl) :
    PE X (.Call (.Name "sum" p) [.GeneratorExp elt [⟨tg, iter, ifs, 0⟩] scope gpos] [] pos) (tSumG P N.length wi g tt te) := by
  refine ⟨fun pins s σ H Q I h => ?_⟩
  refine wpAny_Call_Name_kw (ld_blt I hgl hm hb ?_)
  refine PyProof.Rows.callWith_builtin1 ?_ hst (by rfl)
  rw [hst]
  show wpAny _ _ (spliced ((false, eval (.GeneratorExp elt [⟨tg, iter, ifs, 0⟩] scope gpos) X.env) :: backTo pos (starEach [] X.env))) _ _ s
  refine Calls.spliced_cons (gen_make hr TB hcode S hi hs I h fun J H1 H2 s4 s5 code fp it tn go gn hR tab I4 f4 T st5 mk hgo hgs => ?_)
  refine Calls.spliced_nil ?_
  obtain ⟨W, ⟨m0, w0⟩, turn⟩ := hR H2 tab
  have rY := room3 hr (ce X scope s4.heap.objs.size code)
  have I5 := mk X.A.in1.in1 N hr.hd I.ok.frames
  generalize hpn : [(s4.heap.objs.size + 1, go)] = pn at I5
  have hpm : (s4.heap.objs.size + 1, go) ∈ pn := by rw [← hpn]; exact List.mem_singleton.mpr rfl
  have hpf : ∀ p ∈ pn, p.1 ∉ fp := fun p hp z => by
    rw [← hpn] at hp
    rw [List.mem_singleton.mp hp] at z
    exact absurd (f4 _ z).2 (Nat.not_lt.mpr (Nat.le_succ _))
  have isg := hgo _ (I5.pin _ (List.mem_append_left _ hpm)).1
  have fpl : ∀ b ∈ fp, b < s5.heap.objs.size := fun b hb => Nat.lt_of_lt_of_le (f4 b hb).2 I5.sz
  refine call_function_tree F.kind_sum F.plain_sum F.entry_sum (F.args_sum1 _) ?_
  unfold Builtin.«sum»
  simp only [List.length_cons, List.length_nil]
  rw [if_neg (by decide)]
  refine wpAny_bind (wpAny_of_eq (show Builtin.Builtins.bindParams "sum" ["start"] 0 { } = pure [none] from rfl) ?_)
  refine wpAny_bind (wpAny_pyIter_gen isg ?_)
  refine wpAny_bind (wpAny_mkInt ?_)
  refine wpAny_bind (wpAny_pure ?_)
  simp only [List.forIn_cons, List.forIn_nil]
  refine wpAny_bind (wpAny_bind (wpAny_bind (wpAny_isInstance (T := "int") (b := false) (typeIs_int _ _ _) PySem.sub_int_str ?_)))
  simp only [Bool.false_eq_true, if_false]
  refine wpAny_pure (wpAny_bind (wpAny_bind (wpAny_isInstance (T := "int") (b := false) (typeIs_int _ _ _) PySem.sub_int_bytes ?_)))
  simp only [Bool.false_eq_true, if_false]
  refine wpAny_pure (wpAny_bind (wpAny_bind (wpAny_isInstance (T := "int") (b := false) (typeIs_int _ _ _) PySem.sub_int_bytearray ?_)))
  simp only [Bool.false_eq_true, if_false]
  refine wpAny_pure (wpAny_pure ?_)
  refine wpAny_bind (wpAny_newObj_type ?_)
  refine wpAny_pure ⟨plainId_quiet F.plain_sum_loop _, ?_⟩
  have hSf : s5.heap.objs.size ∉ fp := fun hm => Nat.lt_irrefl _ (fpl _ hm)
  have hget : (s5.heap.push (sumObj 0 s5.toks 0)).get? s5.heap.objs.size = some (sumObj 0 s5.toks 0) := Heap.get?_push_size _ rfl
  have I6 : Inv (gx X X.A.in1.in1 N s4 H2 (ce X scope s4.heap.objs.size code) fp pn) [] (nones N.length) H2 { s5 with heap := s5.heap.push (sumObj 0 s5.toks 0), toks := s5.toks + 1 } := I5.kept fun b o e => Heap.get?_push_of_some _ e
  have gi0 : GI (gx X X.A.in1.in1 N s4 H2 (ce X scope s4.heap.objs.size code) fp pn) (conS s5.heap.objs.size) fp tn 0 0 H2 { s5 with heap := s5.heap.push (sumObj 0 s5.toks 0), toks := s5.toks + 1 } := by
    refine ⟨I6.pins_of fun p hp => ?_, ⟨s5.toks, 0, hget⟩, T.keep _ _ _ st5 fun b _ o e => Heap.get?_push_of_some _ e, fun b hb => (f4 b hb).1.1⟩
    obtain ⟨hb, e⟩ := of_pinsAt hp
    have eS : p.1 = s5.heap.objs.size := List.mem_singleton.mp hb
    rw [eS] at e ⊢
    have e' : (s5.heap.push (sumObj 0 s5.toks 0)).get? s5.heap.objs.size = some p.2 := e
    rw [hget] at e'
    refine ⟨e, I5.hok.fresh (Nat.le_refl _), Nat.ne_of_gt I5.lt, I5.nofs (Nat.le_refl _), fun v z => ?_⟩
    rw [← Option.some.inj e'] at z
    cases z
  have ap : ApS (gx X X.A.in1.in1 N s4 H2 (ce X scope s4.heap.objs.size code) fp pn) s5.heap.objs.size := ⟨I5.sz, Nat.ne_of_gt I5.lt, fun x c e => by simp [genEnv] at e, fun p hp z => by
    have := Heap.lt_size (I5.pin p (List.mem_append_left _ hp)).1
    rw [z] at this
    exact Nat.lt_irrefl _ this⟩
  refine sum_loop (Y := gx X X.A.in1.in1 N s4 H2 (ce X scope s4.heap.objs.size code) fp pn) (A := X.A) (g := gn) (QI := fun a H => Q (.int a) H) hSf ap T.keep hr.hd hr.depth hpm hgo (fun a t' s' H' I' q => ?_) (m0 + 1) 0 H2 (fun a H => W a 0 m0 H) _ _ 0 s5.toks 0 0 (.inl rfl) hgs gi0 hget w0 (fun a' s'' gi' w' => ?_)
  · exact ⟨.int a, H', ge_back I4 f4 I', ⟨_, rfl⟩, q⟩
  · exact ⟨rfl, seg_start (Y := gx X X.A.in1.in1 N s4 H2 (ce X scope s4.heap.objs.size code) fp pn) (conS_ok _) rfl T (hg _ _ _ _ _ _ _ rY) (ht _ _ _ _ _ _ _ rY) (he _ _ _ _ _ _ _ rY) rfl (fun b hb => hb) (fun b hb => by rw [List.mem_singleton.mp hb]; exact hSf) hpf rfl S.co turn m0 a' (m0 + 1) H2 s'' (Nat.lt_succ_self _) w' gi'⟩
end
end GE
set_option Elab.async false
set_option linter.all false
set_option maxRecDepth 100000
set_option maxHeartbeats 1000000
namespace CL
open PySem PySem.Spec PyProof.Rows L2 GE
/-! ### what a value is worth, as data -/
mutual
inductive Rp (H : Hp) : V → PyData → Prop
  | non : Rp H .non .none
  | bl (b : Bool) : Rp H (.bl b) (.bool b)
  | int (i : Int) : Rp H (.int i) (.int i)
  | str (x : Str) : Rp H (.str x) (.str x)
  | lst {a : Addr} {xs : List V} {ds : List PyData} : H a = some (.lst xs) → RpAll H xs ds → Rp H (.ref a) (.list ds)
  | tup {a : Addr} {xs : List V} {ds : List PyData} : H a = some (.tup xs) → RpAll H xs ds → Rp H (.ref a) (.tuple ds)
  | dct {a : Addr} : H a = some (.dK []) → Rp H (.ref a) (.dict [])
inductive RpAll (H : Hp) : List V → List PyData → Prop
  | nil : RpAll H [] []
  | cons {v : V} {vs : List V} {d : PyData} {ds : List PyData} : Rp H v d → RpAll H vs ds → RpAll H (v :: vs) (d :: ds)
end
/-- all stays but tables, which may grow -/
def Ex (H H' : Hp) : Prop := ∀ b o, H b = some o → H' b = some o ∨ ∃ ps qs, o = .tbl ps ∧ H' b = some (.tbl qs) ∧ TriplesOk qs.toList
theorem Ex.refl (H : Hp) : Ex H H := fun _ _ h => .inl h
theorem Ex.of {H H' : Hp} (s : Same H H') : Ex H H' := fun b o h => .inl (s b o h)
theorem Ex.trans {H H1 H2 : Hp} (a : Ex H H1) (b : Ex H1 H2) : Ex H H2 := fun c o h => by
  rcases a c o h with q | ⟨ps, qs, e, q⟩
  · exact b c o q
  · rcases b c _ q.1 with r | ⟨ps', qs', _, r⟩
    · exact .inr ⟨ps, qs, e, r, q.2⟩
    · exact .inr ⟨ps, qs', e, r⟩
theorem Ex.keep {H H' : Hp} (e : Ex H H') {b : Addr} {o : HO} (h : H b = some o) (n : ∀ ps, o ≠ .tbl ps) : H' b = some o := by
  rcases e b o h with q | ⟨ps, _, z, _⟩
  · exact q
  · exact absurd z (n ps)
theorem Ex.lst {H H' : Hp} (e : Ex H H') {b : Addr} {xs : List V} (h : H b = some (.lst xs)) : H' b = some (.lst xs) := e.keep h fun _ => nofun
theorem Ex.tup {H H' : Hp} (e : Ex H H') {b : Addr} {xs : List V} (h : H b = some (.tup xs)) : H' b = some (.tup xs) := e.keep h fun _ => nofun
theorem Ex.free {H H' : Hp} (e : Ex H H') {l : Addr} (h : H' l = none) : H l = none := by
  cases q : H l with
  | none => rfl
  | some o =>
    rcases e l o q with r | ⟨_, _, _, r, _⟩
    · rw [h] at r; cases r
    · rw [h] at r; cases r
theorem Ex.new {H : Hp} {p : Addr} {o : HO} (h : H p = none) : Ex H (upd H p o) := fun b x e => .inl (by rw [upd_ne (ne_of_none e h)]; exact e)
theorem same_upd {H : Hp} {p : Addr} {o : HO} (h : H p = none) : Same H (upd H p o) := fun b x e => by
  rw [upd_ne (ne_of_none e h)]
  exact e
mutual
theorem Rp.ex {H H' : Hp} (e : Ex H H') : ∀ (d : PyData) (v : V), Rp H v d → Rp H' v d
  | .none, _, h => by cases h; exact .non
  | .bool b, _, h => by cases h; exact .bl b
  | .int i, _, h => by cases h; exact .int i
  | .str x, _, h => by cases h; exact .str x
  | .list ds, _, h => by
    cases h with
    | lst h1 h2 => exact .lst (e.lst h1) (RpAll.ex e ds _ h2)
  | .tuple ds, _, h => by
    cases h with
    | tup h1 h2 => exact .tup (e.tup h1) (RpAll.ex e ds _ h2)
  | .dict _, _, h => by
    cases h with
    | dct h1 => exact .dct (e.keep h1 fun _ => nofun)
theorem RpAll.ex {H H' : Hp} (e : Ex H H') : ∀ (ds : List PyData) (vs : List V), RpAll H vs ds → RpAll H' vs ds
  | [], _, h => by cases h; exact .nil
  | d :: ds, _, h => by
    cases h with
    | cons h1 h2 => exact .cons (Rp.ex e d _ h1) (RpAll.ex e ds _ h2)
end
theorem RpAll.length {H : Hp} : ∀ {vs : List V} {ds : List PyData}, RpAll H vs ds → vs.length = ds.length
  | _, _, .nil => rfl
  | _, _, .cons _ t => congrArg (· + 1) (RpAll.length t)
theorem RpAll.get {H : Hp} : ∀ {vs : List V} {ds : List PyData} {i : Nat} {v : V}, RpAll H vs ds → vs[i]? = some v → ∃ d, ds[i]? = some d ∧ Rp H v d
  | _, _, _, _, .nil, e => by simp at e
  | _, _, 0, _, .cons r _, e => by simp at e; subst e; exact ⟨_, rfl, r⟩
  | _, _, i + 1, _, .cons _ t, e => by
    obtain ⟨d, h1, h2⟩ := RpAll.get (i := i) t (by simpa using e)
    exact ⟨d, by simpa using h1, h2⟩
theorem RpAll.take {H : Hp} : ∀ {vs : List V} {ds : List PyData} (n : Nat), RpAll H vs ds → RpAll H (vs.take n) (ds.take n)
  | _, _, 0, _ => .nil
  | _, _, _ + 1, .nil => .nil
  | _, _, n + 1, .cons r t => .cons r (RpAll.take n t)
theorem RpAll.append {H : Hp} : ∀ {vs ws : List V} {ds es : List PyData}, RpAll H vs ds → RpAll H ws es → RpAll H (vs ++ ws) (ds ++ es)
  | _, _, _, _, .nil, s => s
  | _, _, _, _, .cons r t, s => .cons r (RpAll.append t s)
/-! ### plans, as the document tells -/
def tyName : PyData → String
  | .none => "NoneType" | .bool _ => "bool" | .int _ => "int" | .str _ => "str" | .list _ => "list" | .tuple _ => "tuple" | .dict _ => "dict"
def rowsD : PyData → Option (List PyData)
  | .list xs => some xs
  | .tuple xs => some xs
  | _ => none
def isRow (d : PyData) : Bool := (rowsD d).isSome
def isWhole : PyData → Bool
  | .int _ => true
  | _ => false
def isIntB : PyData → Bool
  | .int _ => true
  | .bool _ => true
  | _ => false
def isBoolB : PyData → Bool
  | .bool _ => true
  | _ => false
def isNone : PyData → Bool
  | .none => true
  | _ => false
abbrev GREAT : Int := 1000000000000000000000000000000
def isPatience : PyData → Bool
  | .none => true
  | .int i => decide (0 ≤ i) && decide (i ≤ GREAT)
  | _ => false
def isTurns (d : PyData) : Bool := match rowsD d with
  | some ds => decide (1 ≤ ds.length) && decide (ds.length ≤ 8) && ds.all isPatience
  | none => false
def isMany : PyData → Bool
  | .none => true
  | .int i => decide (0 ≤ i)
  | _ => false
def isPiece (d : PyData) : Bool := match rowsD d with
  | some [t, m] => isTurns t && isMany m
  | _ => false
def sndD (d : PyData) : PyData := match rowsD d with
  | some [_, m] => m
  | _ => .none
def worth : PyData → Int
  | .int i => i
  | _ => 0
def sumSnd (ds : List PyData) : Int := (ds.map fun d => worth (sndD d)).sum
def isPlanL (ds : List PyData) : Bool := decide (1 ≤ ds.length) && decide (ds.length ≤ 8) && ds.all isPiece && !((ds.take (ds.length - 1)).any fun d => isNone (sndD d)) && decide (sumSnd ds ≤ GREAT)
def isPlan (d : PyData) : Bool := match rowsD d with
  | some ds => isPlanL ds
  | none => false
theorem Rp.ty {K : PySem.W.Frag} {H : Hp} {v : V} {d : PyData} (h : Rp H v d) : TyX K H v (.type (tyName d)) := by
  cases h with
  | non => exact .base .non
  | bl b => exact .base (.bl b)
  | int i => exact .base (.int i)
  | str x => exact .base (.str x)
  | lst h _ => exact .base (.lst h)
  | tup h _ => exact .base (.tup h)
  | dct h => exact .base (.dK h)
theorem kit_int {K : PySem.W.Frag} (d : PyData) : PySem.W.kitOne K (.type (tyName d)) (.type "int") = some (isIntB d) := by cases d <;> (refine kit_ty ?_; dsimp only [tyName, isIntB]; decide +kernel)
theorem kit_bool {K : PySem.W.Frag} (d : PyData) : PySem.W.kitOne K (.type (tyName d)) (.type "bool") = some (isBoolB d) := by cases d <;> (refine kit_ty ?_; dsimp only [tyName, isBoolB]; decide +kernel)
theorem kit_list {K : PySem.W.Frag} (d : PyData) : PySem.W.kitOne K (.type (tyName d)) (.type "list") = some (match d with | .list _ => true | _ => false) := by cases d <;> (refine kit_ty ?_; dsimp only [tyName]; decide +kernel)
theorem kit_tuple {K : PySem.W.Frag} (d : PyData) : PySem.W.kitOne K (.type (tyName d)) (.type "tuple") = some (match d with | .tuple _ => true | _ => false) := by cases d <;> (refine kit_ty ?_; dsimp only [tyName]; decide +kernel)
theorem kit_rows {K : PySem.W.Frag} (d : PyData) : PySem.W.kitAny K (.type (tyName d)) [.type "list", .type "tuple"] = some (isRow d) := by
  refine kitAny_cons (kit_list d) (fun h => kitAny_cons (kit_tuple d) (fun h2 => ?_) fun h2 => ?_) fun h => ?_
  · cases d <;> first | exact kitAny_nil | (simp at h; done) | (simp at h2; done)
  · cases d <;> first | rfl | (simp at h; done) | (simp at h2; done)
  · cases d <;> first | rfl | (simp at h; done)
/-- a row's things -/
theorem Rp.rows {H : Hp} {v : V} {d : PyData} {ds : List PyData} (h : Rp H v d) (e : rowsD d = some ds) : ∃ a xs, v = .ref a ∧ RpAll H xs ds ∧ (H a = some (.lst xs) ∨ H a = some (.tup xs)) := by
  cases h with
  | lst h1 h2 => cases e; exact ⟨_, _, rfl, h2, .inl h1⟩
  | tup h1 h2 => cases e; exact ⟨_, _, rfl, h2, .inr h1⟩
  | _ => cases e
/-! ### for x in a list or a tuple -/
structure StSeq (H : Hp) (a : Addr) (xs : List V) : Prop where
  or : H a = some (.lst xs) ∨ H a = some (.tup xs)
theorem StSeq.ex {H H' : Hp} {a : Addr} {xs : List V} (s : StSeq H a xs) (e : Ex H H') : StSeq H' a xs := ⟨s.or.elim (fun h => .inl (e.lst h)) fun h => .inr (e.tup h)⟩
theorem StSeq.sq {K : PySem.W.Frag} {H : Hp} {a : Addr} {xs : List V} (s : StSeq H a xs) : SqL K H a xs ∨ SqT K H a xs := s.or.elim (fun h => .inl (SqL.of h)) fun h => .inr (SqT.of h)
/-- the thing that is walked stands -/
def StandsAs (K : PySem.W.Frag) (a : Addr) (xs : List V) (J : It) (H : Hp) : Prop := (J = Itl K a ∧ SqL K H a xs) ∨ (J = Itt K a ∧ SqT K H a xs)
section
variable {X : Cx} {tg : Expr}
def iSeq (K : PySem.W.Frag) (tl : TE) : TI := fun σ H R => tl σ H fun x H1 => ∃ a xs, x = .ref a ∧ StSeq H1 a xs ∧ ∀ J, (∀ H2, Ex H1 H2 → StandsAs K a xs J H2) → R J H1
theorem pi_seq {l : Expr} {tl : TE} (hl : PE X l tl) : PI X tg l (iSeq X.K tl) := by
  refine ⟨fun pins s σ H R I h => ?_⟩
  refine thn (hl.run pins s σ H _ I h) fun v s1 ⟨x, H1, I1, r1, q1⟩ => ?_
  obtain ⟨a, xs, e, st, q⟩ := q1
  subst e
  cases r1
  have new : ∀ b ∈ [s1.heap.objs.size], FpOk X pins H1 b := fun b hb => by
    rw [List.mem_singleton.mp hb]
    exact I1.fpOk (Nat.le_refl _) (I1.hok.fresh (Nat.le_refl _))
  rcases st.or with hq | hq
  · obtain ⟨its, rv, p, hz⟩ := I1.list (SqL.of hq)
    exact wpAny_pyIter_list p.isList ⟨s1.heap.objs.size, [s1.heap.objs.size], _, _, H1, rfl, I1.kept (t' := s1.toks) fun b o e => Heap.get?_push_of_some _ e, turn_list a _, ⟨_, Heap.get?_push_size _ rfl, rfl, rfl⟩, new, q _ fun H2 e => .inl ⟨rfl, SqL.of (e.lst hq)⟩⟩
  · obtain ⟨its, rv, p, hz⟩ := I1.tuple (SqT.of hq)
    exact wpAny_pyIter_tuple (show s1.heap.IsTuple a its.toArray from p) ⟨s1.heap.objs.size, [s1.heap.objs.size], _, _, H1, rfl, I1.kept (t' := s1.toks) fun b o e => Heap.get?_push_of_some _ e, turn_tuple a _, ⟨_, Heap.get?_push_size _ rfl, rfl, rfl⟩, new, q _ fun H2 e => .inr ⟨rfl, SqT.of (e.tup hq)⟩⟩
end
theorem StandsAs.go {K : PySem.W.Frag} {a : Addr} {xs : List V} {J : It} {H : Hp} {i : Nat} {x : V} (s : StandsAs K a xs J H) (h : xs[i]? = some x) : J.go i H := by
  rcases s with ⟨rfl, q⟩ | ⟨rfl, q⟩ <;> exact ⟨xs, x, q, h⟩
theorem StandsAs.stop {K : PySem.W.Frag} {a : Addr} {xs : List V} {J : It} {H : Hp} {i : Nat} (s : StandsAs K a xs J H) (h : xs.length ≤ i) : J.stop i H := by
  rcases s with ⟨rfl, q⟩ | ⟨rfl, q⟩ <;> exact ⟨xs, q, h⟩
theorem StandsAs.yld {K : PySem.W.Frag} {a : Addr} {xs : List V} {J : It} {H H' : Hp} {i : Nat} {x : V} (s : StandsAs K a xs J H) (h : J.yld i H x H') : H' = H ∧ xs[i]? = some x := by
  rcases s with ⟨rfl, q⟩ | ⟨rfl, q⟩ <;> exact ⟨h.1, h.2 xs q⟩
theorem turn_by {α : Type} {K : PySem.W.Frag} {ad : Addr} {xs : List V} {J : It} {n0 : Nat} {g : TG} {tt : TT} {te : TE} {Out : α → V → Hp → (α → Hp → Prop) → Prop} {Fin : α → Hp → Prop} (Pv : α → Nat → Hp → Prop)
    (stands : ∀ a i H, Pv a i H → StandsAs K ad xs J H)
    (step : ∀ a i x H, xs[i]? = some x → Pv a i H → g x (nones n0) H fun σ2 H2 => tt σ2 H2 fun b H3 => if b = true then te σ2 H3 fun y H4 => Out a y H4 (fun a' H' => Pv a' (i + 1) H') else Pv a (i + 1) H3)
    (done : ∀ a H, Pv a xs.length H → Fin a H) : TurnOf J n0 g tt te Out Fin (fun a i m H => m = xs.length - i ∧ i ≤ xs.length ∧ Pv a i H) := by
  rintro a i m H ⟨rfl, hi, p⟩
  have s := stands a i H p
  by_cases hlt : i < xs.length
  · refine .inr ⟨s.go (List.getElem?_eq_getElem hlt), fun a' H' => Pv a' (i + 1) H', fun a' H' p' => ⟨xs.length - (i + 1), by omega, rfl, hlt, p'⟩, fun x H' y => ?_⟩
    obtain ⟨rfl, hx⟩ := s.yld y
    exact step a i x _ hx p
  · have e : i = xs.length := by omega
    subst e
    exact .inl ⟨s.stop (Nat.le_refl _), done a H p⟩
end CL
set_option Elab.async false
set_option linter.all false
set_option maxRecDepth 100000
set_option maxHeartbeats 1000000
namespace CL
open PySem PySem.Spec PyProof.Rows L2 GE
def topS (i : Nat) : Stmt := PySem.Challenge.pw_comersline_k18_windows_judged.main.body.getD i (.Pass ⟨0, 0, 0, 0⟩)
abbrev sWhole : Stmt := topS 1
abbrev sRow : Stmt := topS 2
abbrev sPat : Stmt := topS 10
abbrev sTurns : Stmt := topS 11
abbrev sPiece : Stmt := topS 12
abbrev sPlan : Stmt := topS 13
theorem scWhole : FnScope ["thing"] ["thing"] (defScope sWhole) := ⟨rfl, rfl, rfl, by decide +kernel, rfl, by decide +kernel, by decide +kernel⟩
theorem scRow : FnScope ["thing"] ["thing"] (defScope sRow) := ⟨rfl, rfl, rfl, by decide +kernel, rfl, by decide +kernel, by decide +kernel⟩
theorem scPat : FnScope ["thing"] ["thing"] (defScope sPat) := ⟨rfl, rfl, rfl, by decide +kernel, rfl, by decide +kernel, by decide +kernel⟩
theorem scTurns : FnScope ["thing"] ["thing"] (defScope sTurns) := ⟨rfl, rfl, rfl, by decide +kernel, rfl, by decide +kernel, by decide +kernel⟩
theorem scPiece : FnScope ["thing"] ["thing"] (defScope sPiece) := ⟨rfl, rfl, rfl, by decide +kernel, rfl, by decide +kernel, by decide +kernel⟩
theorem scPlan : FnScope ["thing"] ["thing"] (defScope sPlan) := ⟨rfl, rfl, rfl, by decide +kernel, rfl, by decide +kernel, by decide +kernel⟩

/-- a def whose code object is known -/
structure FunC (K : PySem.W.Frag) (x qual : Str) (st : Stmt) (f : Addr) (fd : FuncData) (c : Addr) : Prop where
  ex : ∃ (oc : Value) (od : Option Addr) (kV doc pm : Value) (an : Option Addr) (ct : Value) (osl : Array (Option Value)),
    fd = PySem.W.fnOf x qual (defArgs st) (defBody st) (defScope st) .none kV doc pm an (.ref c) ct ∧ K.lookup f = some ⟨oc, od, .func fd, osl⟩ ∧ PySem.W.codeIn K (.ref c) qual = true
  kp : PySem.W.keepIn K (.ref f) = true
theorem FunC.ok {P : Program} {w : World} {K : PySem.W.Frag} {mg : Str → Option Value} {base : Heap} {x qual : Str} {st : Stmt} {f c : Addr} {fd : FuncData} {N ps : List Str} {k : Nat} {sp : Sp} (F : FunC K x qual st f fd c) (S : FnScope N ps (defScope st)) (len : ∀ vs H Q E, sp vs H Q E → vs.length = ps.length)
    (hbody : ∀ (A : Around) (outer : List Env) (s : Shared) (H : Hp) (vs : List V) (Q : VK) (E : XK), Room k (A.deeper (envOfC qual (defScope st) s.heap.objs.size f (.ref c))) → sp vs H Q E →
      ∃ t, PSs (cxOf CX0 P w K mg base N qual (defScope st) f (.ref c) A outer s H E).nox (defBody st) t ∧ t { nx := fun _ H' => Q .non H', rt := Q } (start N vs) H) : FnOk P w K mg base CX0 (k + 1) f fd ps sp := by
  obtain ⟨oc, od, kV, doc, pm, an, ct, osl, rfl, lk, hcd⟩ := F.ex
  refine fn_of lk hcd S len fun A outer s H vs Q E hr hsp => ?_
  obtain ⟨t, h, q⟩ := hbody A outer s H vs Q E hr hsp
  exact ⟨t, h.nox, q⟩
/-- a def that may be called by its name -/
structure Cal (P : Program) (w : World) (K : PySem.W.Frag) (mg : Str → Option Value) (base : Heap) (k : Nat) (x : Str) (ps : List Str) (sp : Sp) : Prop where
  ex : ∃ f fd, mg x = some (.ref f) ∧ PySem.W.keepIn K (.ref f) = true ∧ Binds K fd ps [] ∧ FnOk P w K mg base CX0 k f fd ps sp
theorem pe_cal {X : Cx} {k : Nat} {x : Str} {ps : List Str} {sp : Sp} {p pos : Pos} {e : Expr} {es : List Expr} {t : TA} (C : Cal X.prog X.w X.K X.mg X.base k x ps sp) (hr : Room k X.A) (hg : Gl X x) (ha : PA X (e :: es) t) (hdb : (x == ("__debug__" : Str)) = false := by decide)
    (he : starEach (e :: es) X.env = (false, eval e X.env) :: starEach es X.env := by rfl) (hpl : (backTo pos (starEach es X.env)).any (·.1) = false := by rfl) : PE X (.Call (.Name x p) (e :: es) [] pos) (tCall sp [] E0 t) := by
  obtain ⟨f, fd, h1, h2, h3, h4⟩ := C.ex
  exact pe_call h4 hr hg h1 h2 h3 .nil pass0 ha hdb he hpl
theorem Cal.mono {P : Program} {w : World} {K : PySem.W.Frag} {mg : Str → Option Value} {base : Heap} {j k : Nat} {x : Str} {ps : List Str} {sp : Sp} (C : Cal P w K mg base j x ps sp) (h : j ≤ k) : Cal P w K mg base k x ps sp := by
  obtain ⟨f, fd, h1, h2, h3, h4⟩ := C.ex
  exact ⟨f, fd, h1, h2, h3, h4.mono h⟩
/-- names that are still the built-in ones, and constants -/
structure Nm (mg : Str → Option Value) : Prop where
  isi : mg "isinstance" = none
  len : mg "len" = none
  all : mg "all" = none
  any : mg "any" = none
  sum : mg "sum" = none
  int : mg "int" = none
  bool : mg "bool" = none
  list : mg "list" = none
  tuple : mg "tuple" = none
  great : ∃ t, mg "GREATEST" = some (.int GREAT t)
  longest : ∃ t, mg "LONGEST" = some (.int 8 t)
/-- the tables of the two defs that hold generator expressions -/
def Tb (P1 P2 : Addr) (H : Hp) : Prop := GxR.TabG H P1 ∧ GxR.TabG H P2
theorem tabG_same {P : Addr} {H H' : Hp} (s : Same H H') (h : GxR.TabG H P) : GxR.TabG H' P := by
  obtain ⟨ps, e, t⟩ := h
  exact ⟨ps, s _ _ e, t⟩
theorem Tb.same {P1 P2 : Addr} {H H' : Hp} (s : Same H H') (h : Tb P1 P2 H) : Tb P1 P2 H' := ⟨tabG_same s h.1, tabG_same s h.2⟩
theorem ex_tabbed {P : Addr} {H H' : Hp} (g : GxR.TabG H P) (t : GxR.Tabbed P H H') : Ex H H' := fun b o e => by
  by_cases hb : b = P
  · subst hb
    obtain ⟨ps, h1, _⟩ := g
    obtain ⟨⟨qs, h2, hq⟩, _⟩ := t
    rw [h1] at e
    cases e
    exact .inr ⟨ps, qs, rfl, h2, hq⟩
  · exact .inl (by rw [t.2 b hb]; exact e)
theorem tabG_ex {P : Addr} {H H' : Hp} (h : GxR.TabG H P) (e : Ex H H') : GxR.TabG H' P := by
  obtain ⟨ps, h1, h2⟩ := h
  rcases e P _ h1 with q | ⟨_, qs, _, q, t⟩
  · exact ⟨ps, q, h2⟩
  · exact ⟨qs, q, t⟩
theorem Tb.tab1 {P1 P2 : Addr} {H H' : Hp} (h : Tb P1 P2 H) (t : GxR.Tabbed P1 H H') : Tb P1 P2 H' := ⟨t.1, by
  by_cases hb : P2 = P1
  · rw [hb]; exact t.1
  · obtain ⟨ps, e, q⟩ := h.2
    exact ⟨ps, by rw [t.2 P2 hb]; exact e, q⟩⟩
theorem Tb.tab2 {P1 P2 : Addr} {H H' : Hp} (h : Tb P1 P2 H) (t : GxR.Tabbed P2 H H') : Tb P1 P2 H' := ⟨by
  by_cases hb : P1 = P2
  · rw [hb]; exact t.1
  · obtain ⟨ps, e, q⟩ := h.1
    exact ⟨ps, by rw [t.2 P1 hb]; exact e, q⟩, t.1⟩
def spOne (g : PyData → Bool) : Sp := fun vs H Q _ => ∃ v d, vs = [v] ∧ Rp H v d ∧ ∀ H', Same H H' → Q (.bl (g d)) H'
def spTab (P1 P2 : Addr) (g : PyData → Bool) : Sp := fun vs H Q _ => ∃ v d, vs = [v] ∧ Rp H v d ∧ Tb P1 P2 H ∧ ∀ H', Ex H H' → Tb P1 P2 H' → Q (.bl (g d)) H'
theorem spOne_len {g : PyData → Bool} : ∀ vs H Q E, spOne g vs H Q E → vs.length = 1 := fun vs H Q E ⟨v, d, e, _⟩ => by rw [e]; rfl
theorem spTab_len {P1 P2 : Addr} {g : PyData → Bool} : ∀ vs H Q E, spTab P1 P2 g vs H Q E → vs.length = 1 := fun vs H Q E ⟨v, d, e, _⟩ => by rw [e]; rfl
section
variable {P : Program} {w : World} {K : PySem.W.Frag} {mg : Str → Option Value} {base : Heap}
theorem ok_whole {f : Addr} {fd : FuncData} (F : Fun K "is_whole" "is_whole" sWhole f fd) (T : Nm mg) : FnOk P w K mg base CX0 1 f fd ["thing"] (spOne isWhole) := by
  refine F.ok scWhole spOne_len (fun cdv A outer s H vs Q E hr h => ?_)
  obtain ⟨v, d, rfl, hR, q⟩ := h
  refine ⟨_, pss_one (ps_ret (pe_and (pe_callB call_isi (by rfl) T.isi (by decide +kernel) (pa_cons (pv 0) (pa_cons (pe_bltn (v := .ty "int") (by rfl) T.int PyProof.Rows.boot_int rfl) pa_nil)))
    (pe_one (pe_not (pe_callB call_isi (by rfl) T.isi (by decide +kernel) (pa_cons (pv 0) (pa_cons (pe_bltn (v := .ty "bool") (by rfl) T.bool PyProof.Rows.boot_bool rfl) pa_nil))))))), ?_⟩
  refine ⟨v, rfl, v, .ty "int", _, _, isIntB d, rfl, .ty _, hR.ty, kit_int d, isIntB d, rfl, ite2 (fun e => ?_) (fun e => ?_)⟩
  · refine ⟨v, rfl, v, .ty "bool", _, _, isBoolB d, rfl, .ty _, hR.ty, kit_bool d, isBoolB d, rfl, ?_⟩
    have z : (!isBoolB d) = isWhole d := by cases d <;> first | rfl | (exact absurd e Bool.false_ne_true)
    rw [z]
    exact q H (Same.refl H)
  · have z : isWhole d = false := by cases d <;> first | rfl | (exact absurd rfl e)
    have q' := q H (Same.refl H)
    rw [z] at q'
    exact q'
theorem ok_row {f : Addr} {fd : FuncData} (F : Fun K "is_row" "is_row" sRow f fd) (T : Nm mg) : FnOk P w K mg base CX0 1 f fd ["thing"] (spOne isRow) := by
  refine F.ok scRow spOne_len (fun cdv A outer s H vs Q E hr h => ?_)
  obtain ⟨v, d, rfl, hR, q⟩ := h
  refine ⟨_, pss_one (ps_ret (pe_callB call_isiT (by rfl) T.isi (by decide +kernel) (pa_cons (pv 0) (pa_cons (pe_tup (pa_cons (pe_bltn (v := .ty "list") (by rfl) T.list PyProof.Rows.boot_list rfl) (pa_cons (pe_bltn (v := .ty "tuple") (by rfl) T.tuple PyProof.Rows.boot_tuple rfl) pa_nil))) pa_nil)))), ?_⟩
  refine ⟨v, rfl, by show 2 ≤ sizeLine; decide, fun p np => ⟨v, p, [.ty "list", .ty "tuple"], _, _, isRow d, rfl, upd_same, .cons (.ty _) (.cons (.ty _) .nil), (Rp.ex (Ex.new np) d v hR).ty, kit_rows d, q _ (same_upd np)⟩⟩
theorem ok_pat {f : Addr} {fd : FuncData} (F : Fun K "is_patience" "is_patience" sPat f fd) (T : Nm mg) (CW : Cal P w K mg base 1 "is_whole" ["thing"] (spOne isWhole)) : FnOk P w K mg base CX0 2 f fd ["thing"] (spOne isPatience) := by
  refine F.ok scPat spOne_len (fun cdv A outer s H vs Q E hr h => ?_)
  obtain ⟨v, d, rfl, hR, q⟩ := h
  obtain ⟨tg, hgr⟩ := T.great
  refine ⟨_, pss_one (ps_ret (pe_or (pe_cmp (pc_isN (pv 0)) rfl) (pe_one (pe_and (pe_cal CW hr (by rfl) (pa_cons (pv 0) pa_nil))
    (pe_one (pe_chain op_le op_le pe_int (pv 0) (pe_glob (v := .int GREAT) (by rfl) hgr ⟨_, rfl⟩))))))), ?_⟩
  refine ⟨v, rfl, decide (v = .non), rfl, ite2 (fun e => ?_) (fun e => ?_)⟩
  · have ev : v = .non := of_decide_eq_true e
    subst ev
    cases hR
    exact q H (Same.refl H)
  · have nv : v ≠ .non := fun z => e (decide_eq_true z)
    refine ⟨v, rfl, v, d, rfl, hR, fun H1 s1 => ⟨isWhole d, rfl, ite2 (fun e2 => ?_) (fun e2 => ?_)⟩⟩
    · cases hR with
      | int i =>
        refine ⟨.int i, rfl, 0, i, rfl, rfl, decide (0 ≤ i), rfl, ite2 (fun e3 => ?_) (fun e3 => ?_)⟩
        · refine ⟨i, GREAT, rfl, rfl, ?_⟩
          have q' := q H1 s1
          have z : isPatience (.int i) = decide (i ≤ GREAT) := by
            show (decide (0 ≤ i) && decide (i ≤ GREAT)) = _
            rw [e3, Bool.true_and]
          rw [z] at q'
          exact q'
        · have q' := q H1 s1
          have z : isPatience (.int i) = false := by
            show (decide (0 ≤ i) && decide (i ≤ GREAT)) = _
            rw [Bool.eq_false_iff.mpr e3, Bool.false_and]
          rw [z] at q'
          exact q'
      | _ => exact absurd e2 Bool.false_ne_true
    · have q' := q H1 s1
      have z : isPatience d = false := by
        cases hR with
        | non => exact absurd rfl nv
        | int i => exact absurd rfl e2
        | _ => rfl
      rw [z] at q'
      exact q'
end
end CL
set_option Elab.async false
set_option linter.all false
set_option maxRecDepth 100000
set_option maxHeartbeats 1000000
namespace CL
open PySem PySem.Spec PyProof.Rows L2 GE
theorem all_take {p : PyData → Bool} {ds : List PyData} {i : Nat} {d : PyData} (h : ds[i]? = some d) : (ds.take (i + 1)).all p = ((ds.take i).all p && p d) := by
  rw [List.take_add_one, h, List.all_append]
  simp
theorem any_take {p : PyData → Bool} {ds : List PyData} {i : Nat} {d : PyData} (h : ds[i]? = some d) : (ds.take (i + 1)).any p = ((ds.take i).any p || p d) := by
  rw [List.take_add_one, h, List.any_append]
  simp
theorem all_false {p : PyData → Bool} {ds : List PyData} {i : Nat} {d : PyData} (h : ds[i]? = some d) (e : p d = false) : ds.all p = false := by
  rw [List.all_eq_false]
  exact ⟨d, List.mem_of_getElem? h, by rw [e]; exact Bool.false_ne_true⟩
theorem any_true {p : PyData → Bool} {ds : List PyData} {i : Nat} {d : PyData} (h : ds[i]? = some d) (e : p d = true) : ds.any p = true := by
  rw [List.any_eq_true]
  exact ⟨d, List.mem_of_getElem? h, e⟩
theorem rix_of {K : PySem.W.Frag} {H : Hp} {a : Addr} {xs : List V} {i : Nat} {v : V} {Q : VK} (s : StSeq H a xs) (e : xs[i]? = some v) (q : Q v H) : rIx K (.ref a) (.int (i : Int)) H Q := by
  rcases s.or with h | h
  · exact .inl ⟨a, xs, (i : Int), v, rfl, rfl, SqL.of h, atI_nat e, q⟩
  · exact .inr (.inl ⟨a, xs, (i : Int), v, rfl, rfl, SqT.of h, atI_nat e, q⟩)
theorem name_yes {i : Nat} {x : V} {σ : L2.St} {H : Hp} {A B : L2.St → Hp → Prop} (h : A (σ.set i (some x)) H) : gName i x σ H (fun σ2 H2 => tYes σ2 H2 fun b H3 => if b = true then A σ2 H3 else B σ2 H3) := by
  show if true = true then A (σ.set i (some x)) H else B (σ.set i (some x)) H
  exact iteT h
theorem nd1 {x : Str} : [x].Nodup := by simp
section
variable {P : Program} {w : World} {K : PySem.W.Frag} {mg : Str → Option Value} {base : Heap}
theorem ok_turns {f c P1 P2 : Addr} {fd : FuncData} (F : FunC K "is_turns" "is_turns" sTurns f fd c) (T : Nm mg) (TB : GxR.TabB base mg c P1) (CR : Cal P w K mg base 1 "is_row" ["thing"] (spOne isRow)) (CP : Cal P w K mg base 2 "is_patience" ["thing"] (spOne isPatience)) :
    FnOk P w K mg base CX0 4 f fd ["thing"] (spTab P1 P2 isTurns) := by
  refine F.ok scTurns spTab_len (fun A outer s H vs Q E hr h => ?_)
  obtain ⟨v, d, rfl, hR, hT, q⟩ := h
  obtain ⟨tl, hlo⟩ := T.longest
  refine ⟨_, pss_one (ps_ret (pe_and (pe_cal (CR.mono (by decide)) hr (by rfl) (pa_cons (pv 0) pa_nil))
    (pe_and (pe_chain op_le op_le pe_int (pe_callB call_len_seq (by rfl) T.len PySem.boot_len (pa_cons (pv 0) pa_nil)) (pe_glob (v := .int 8) (by rfl) hlo ⟨_, rfl⟩))
      (pe_one (pe_allG (N := ["patience"]) hr (by rfl) T.all TB rfl (by exact ⟨rfl, rfl, by decide +kernel, rfl⟩) (pi_seq (pv 0))
        (fun A s H C code fp pn rY => pg_name (i := 0) nd1 rfl (.inl rfl) (.inr rfl)) (fun A s H C code fp pn rY => pts_nil)
        (fun A s H C code fp pn rY => pe_cal CP rY (by rfl) (pa_cons (pv 0) pa_nil))))))), ?_⟩
  refine ⟨v, rfl, v, d, rfl, hR, fun H1 s1 => ⟨isRow d, rfl, ite2 (fun e => ?_) (fun e => ?_)⟩⟩
  · obtain ⟨ds, hds⟩ : ∃ ds, rowsD d = some ds := Option.isSome_iff_exists.mp e
    obtain ⟨a, xs, rfl, hA, hso⟩ := (Rp.ex (Ex.of s1) d v hR).rows hds
    have hst : StSeq H1 a xs := ⟨hso⟩
    have hlen := hA.length
    have val : isTurns d = (decide (1 ≤ ds.length) && decide (ds.length ≤ 8) && ds.all isPatience) := by
      unfold isTurns
      rw [hds]
    have hT1 := hT.same s1
    have no : ∀ {H2 : Hp}, Ex H1 H2 → Tb P1 P2 H2 → isTurns d = false → Q (.bl false) H2 := fun {H2} e2 t2 z => by
      have q' := q H2 ((Ex.of s1).trans e2) t2
      rw [z] at q'
      exact q'
    refine ⟨.ref a, rfl, a, xs, rfl, hst.sq, 1, xs.length, rfl, rfl, decide ((1 : Int) ≤ xs.length), rfl, ite2 (fun e1 => ?_) (fun e1 => ?_)⟩
    · refine ⟨xs.length, 8, rfl, rfl, decide ((xs.length : Int) ≤ 8), rfl, ite2 (fun e2 => ?_) (fun e2 => ?_)⟩
      · have l1 : 1 ≤ ds.length := by have := of_decide_eq_true e1; omega
        have l2 : ds.length ≤ 8 := by have := of_decide_eq_true e2; omega
        refine ⟨.ref a, rfl, a, xs, rfl, hst, fun J hJ => ⟨hT1.1, fun H2 tb => ⟨_, ⟨xs.length, rfl, Nat.zero_le _, ex_tabbed hT1.1 tb, hT1.tab1 tb, rfl⟩, turn_by (xs := xs) (fun _ i H => Ex H1 H ∧ Tb P1 P2 H ∧ (ds.take i).all isPatience = true)
          (fun _ i H ⟨eH, _, _⟩ => hJ H eH) (fun _ i x H hx ⟨eH, tH, aH⟩ => ?_) (fun _ H ⟨eH, tH, aH⟩ => ?_)⟩⟩⟩
        · obtain ⟨dx, hdx, hRx⟩ := hA.get hx
          refine name_yes ?_
          refine ⟨x, rfl, x, dx, rfl, Rp.ex eH dx x hRx, fun H4 s4 => ⟨isPatience dx, rfl, ite2 (fun e4 => ?_) (fun e4 => ?_)⟩⟩
          · exact ⟨eH.trans (Ex.of s4), tH.same s4, by rw [all_take hdx, aH, e4]; rfl⟩
          · refine no (eH.trans (Ex.of s4)) (tH.same s4) ?_
            rw [val, all_false hdx (Bool.eq_false_iff.mpr e4), Bool.and_false]
        · have q' := q H ((Ex.of s1).trans eH) tH
          rw [hlen, List.take_length] at aH
          rw [val, aH, decide_eq_true l1, decide_eq_true l2] at q'
          exact q'
      · refine no (Ex.refl H1) hT1 ?_
        have l2 : ¬ ds.length ≤ 8 := fun z => e2 (decide_eq_true (by omega))
        rw [val, decide_eq_false l2, Bool.and_false, Bool.false_and]
    · refine ⟨false, rfl, iteF (no (Ex.refl H1) hT1 ?_)⟩
      have l1 : ¬ 1 ≤ ds.length := fun z => e1 (decide_eq_true (by omega))
      rw [val, decide_eq_false l1, Bool.false_and, Bool.false_and]
  · have z : isTurns d = false := by
      unfold isTurns
      cases hds : rowsD d with
      | none => rfl
      | some ds => exact absurd (by unfold isRow; rw [hds]; rfl) e
    have q' := q H1 (Ex.of s1) (hT.same s1)
    rw [z] at q'
    exact q'
theorem two_of {α : Type} {xs : List α} (h : xs.length = 2) : ∃ x y, xs = [x, y] := match xs, h with
  | [x, y], _ => ⟨x, y, rfl⟩
theorem isPiece_two {d t m : PyData} (h : rowsD d = some [t, m]) : isPiece d = (isTurns t && isMany m) := by
  unfold isPiece
  rw [h]
theorem isPiece_not {d : PyData} {ds : List PyData} (h : rowsD d = some ds) (n : ds.length ≠ 2) : isPiece d = false := by
  unfold isPiece
  rw [h]
  match ds, n with
  | [], _ => rfl
  | [_], _ => rfl
  | [_, _], n => exact absurd rfl n
  | _ :: _ :: _ :: _, _ => rfl
theorem ok_piece {f P1 P2 : Addr} {fd : FuncData} (F : Fun K "is_piece" "is_piece" sPiece f fd) (T : Nm mg) (CW : Cal P w K mg base 1 "is_whole" ["thing"] (spOne isWhole)) (CR : Cal P w K mg base 1 "is_row" ["thing"] (spOne isRow)) (CT : Cal P w K mg base 4 "is_turns" ["thing"] (spTab P1 P2 isTurns)) :
    FnOk P w K mg base CX0 5 f fd ["thing"] (spTab P1 P2 isPiece) := by
  refine F.ok scPiece spTab_len (fun cdv A outer s H vs Q E hr h => ?_)
  obtain ⟨v, d, rfl, hR, hT, q⟩ := h
  refine ⟨_, pss_cons (ps_if (PW.pt (pw_or (pt_not (pt_val (pe_cal (CR.mono (by decide)) hr (by rfl) (pa_cons (pv 0) pa_nil))))
      (pw_or (pt_cmpR op_ne (pe_callB call_len_seq (by rfl) T.len PySem.boot_len (pa_cons (pv 0) pa_nil)) pe_int (nomark _))
        (pw_or1 (pt_not (pt_val (pe_cal CT hr (by rfl) (pa_cons (pe_ix ix_seq (pv 0) pe_int (fun _ _ => rfl)) pa_nil)))))))) (pss_one (ps_ret pe_bl)) pss_nil)
    (pss_one (ps_ret (pe_or (pe_cmp (pc_isN (pe_ix ix_seq (pv 0) pe_int (fun _ _ => rfl))) rfl)
      (pe_one (pe_and (pe_cal (CW.mono (by decide)) hr (by rfl) (pa_cons (pe_ix ix_seq (pv 0) pe_int (fun _ _ => rfl)) pa_nil)) (pe_one (pe_cmpR op_ge (pe_ix ix_seq (pv 0) pe_int (fun _ _ => rfl)) pe_int (nomark _)))))))), ?_⟩
  refine ⟨v, rfl, v, d, rfl, hR, fun H1 s1 => ⟨isRow d, rfl, ?_⟩⟩
  have hT1 := hT.same s1
  have at_ : ∀ {H2 : Hp} {b : Bool}, Ex H1 H2 → Tb P1 P2 H2 → isPiece d = b → Q (.bl b) H2 := fun {H2 b} e2 t2 z => by
    have q' := q H2 ((Ex.of s1).trans e2) t2
    rw [z] at q'
    exact q'
  cases hds : rowsD d with
  | none =>
    have e0 : isRow d = false := by unfold isRow; rw [hds]; rfl
    rw [e0]
    exact iteT (iteT (at_ (Ex.refl H1) hT1 (by unfold isPiece; rw [hds])))
  | some ds =>
    have e0 : isRow d = true := by unfold isRow; rw [hds]; rfl
    rw [e0]
    obtain ⟨a, xs, rfl, hA, hso⟩ := (Rp.ex (Ex.of s1) d v hR).rows hds
    have hst : StSeq H1 a xs := ⟨hso⟩
    have hlen := hA.length
    refine iteF ⟨.ref a, rfl, a, xs, rfl, hst.sq, rfl, _, rfl, ?_⟩
    by_cases h2 : ds.length = 2
    · have e1 : decide (V.int (xs.length : Int) = V.int 2) = true := decide_eq_true (by rw [hlen, h2]; rfl)
      refine ite2 (fun z => absurd z (by rw [e1]; exact Bool.false_ne_true)) (fun _ => ?_)
      obtain ⟨t, m, rfl⟩ := two_of h2
      obtain ⟨vt, vm, rfl⟩ := two_of (hlen.trans h2)
      cases hA with
      | cons ht hA2 =>
        cases hA2 with
        | cons hm _ =>
          refine ⟨.ref a, rfl, rix_of (i := 0) hst rfl ⟨vt, t, rfl, ht, hT1, fun H2 e2 t2 => ⟨isTurns t, rfl, ?_⟩⟩⟩
          have val := isPiece_two hds
          cases ht2 : isTurns t with
          | false => exact iteT (at_ e2 t2 (by rw [val, ht2]; rfl))
          | true =>
            refine iteF ⟨.ref a, rfl, rix_of (i := 1) (hst.ex e2) rfl ⟨decide (vm = .non), rfl, ite2 (fun e3 => ?_) (fun e3 => ?_)⟩⟩
            · have ev : vm = .non := of_decide_eq_true e3
              subst ev
              cases hm
              exact at_ e2 t2 (by rw [val, ht2]; rfl)
            · have nv : vm ≠ .non := fun z => e3 (decide_eq_true z)
              refine ⟨.ref a, rfl, rix_of (i := 1) (hst.ex e2) rfl ⟨vm, m, rfl, Rp.ex e2 m vm hm, fun H3 s3 => ⟨isWhole m, rfl, ite2 (fun e4 => ?_) (fun e4 => ?_)⟩⟩⟩
              · cases hm with
                | int i =>
                  refine ⟨.ref a, rfl, rix_of (i := 1) ((hst.ex e2).ex (Ex.of s3)) rfl ⟨i, 0, rfl, rfl, at_ (e2.trans (Ex.of s3)) (t2.same s3) ?_⟩⟩
                  rw [val, ht2]
                  rfl
                | _ => exact absurd e4 Bool.false_ne_true
              · refine at_ (e2.trans (Ex.of s3)) (t2.same s3) ?_
                rw [val, ht2]
                cases hm with
                | non => exact absurd rfl nv
                | int i => exact absurd rfl e4
                | _ => rfl
    · have e1 : decide (V.int (xs.length : Int) = V.int 2) = false := decide_eq_false fun z => h2 (by have := V.int.inj z; omega)
      refine ite2 (fun _ => iteT (at_ (Ex.refl H1) hT1 (isPiece_not hds h2))) (fun z => absurd (by rw [e1]; rfl) z)
end
end CL
set_option Elab.async false
set_option linter.all false
set_option maxRecDepth 100000
set_option maxHeartbeats 2000000
namespace CL
open PySem PySem.Spec PyProof.Rows L2 GE
theorem piece_parts {d : PyData} (h : isPiece d = true) : ∃ t m, rowsD d = some [t, m] ∧ isTurns t = true ∧ isMany m = true := by
  unfold isPiece at h
  split at h
  · rename_i t m e
    rw [Bool.and_eq_true] at h
    exact ⟨t, m, e, h.1, h.2⟩
  · cases h
theorem sndD_two {d t m : PyData} (h : rowsD d = some [t, m]) : sndD d = m := by
  unfold sndD
  rw [h]
theorem rp_none {H : Hp} {v : V} {m : PyData} (h : Rp H v m) : decide (v = .non) = isNone m := by
  cases h <;> first | rfl | exact decide_eq_false nofun
theorem all_get {p : PyData → Bool} {ds : List PyData} {i : Nat} {d : PyData} (h : ds.all p = true) (e : ds[i]? = some d) : p d = true := List.all_eq_true.mp h d (List.mem_of_getElem? e)
theorem sum_step {ds : List PyData} {i : Nat} {d : PyData} (h : ds[i]? = some d) : sumSnd (ds.take (i + 1)) = sumSnd (ds.take i) + worth (sndD d) := by
  unfold sumSnd
  rw [List.take_add_one, h, List.map_append, List.sum_append]
  simp
theorem cut_last (xs : List V) : cutV xs none (some (-1)) = xs.take (xs.length - 1) := by
  unfold cutV
  have e0 : HT.sIx xs.length 0 none = 0 := rfl
  have e1 : HT.sIx xs.length xs.length (some (-1)) = xs.length - 1 := by
    show (if (-1 : Int) < 0 then ((-1 : Int) + (xs.length : Int)).toNat else min (-1 : Int).toNat xs.length) = _
    rw [if_pos (by decide)]
    omega
  rw [e0, e1, List.drop_zero, Nat.sub_zero]
theorem ix_gx {X : Cx} {A : Around} {N : List Str} {s : Shared} {H : Hp} {cenv : Env} {fp : List Addr} {pn : List (Addr × Obj)} : IxR (gx X A N s H cenv fp pn) (rIx X.K) := ix_seq
/-- the second of a piece that stands -/
theorem piece_at {H : Hp} {x : V} {d : PyData} (hp : isPiece d = true) (hR : Rp H x d) : ∃ b vt vm m, x = .ref b ∧ StSeq H b [vt, vm] ∧ Rp H vm m ∧ sndD d = m ∧ isMany m = true := by
  obtain ⟨t, m, e, _, hm⟩ := piece_parts hp
  obtain ⟨b, ys, rfl, hA, hso⟩ := hR.rows e
  obtain ⟨vt, vm, rfl⟩ := two_of hA.length
  cases hA with
  | cons h1 h2 =>
    cases h2 with
    | cons h3 _ => exact ⟨b, vt, vm, m, rfl, ⟨hso⟩, h3, sndD_two e, hm⟩
section
variable {P : Program} {w : World} {K : PySem.W.Frag} {mg : Str → Option Value} {base : Heap}
theorem ok_plan {f c P1 P2 : Addr} {fd : FuncData} (F : FunC K "is_plan" "is_plan" sPlan f fd c) (T : Nm mg) (TB : GxR.TabB base mg c P2) (CR : Cal P w K mg base 1 "is_row" ["thing"] (spOne isRow)) (CP : Cal P w K mg base 5 "is_piece" ["thing"] (spTab P1 P2 isPiece)) :
    FnOk P w K mg base CX0 7 f fd ["thing"] (spTab P1 P2 isPlan) := by
  refine F.ok scPlan spTab_len (fun A outer s H vs Q E hr h => ?_)
  obtain ⟨v, d, rfl, hR, hT, q⟩ := h
  obtain ⟨tl, hlo⟩ := T.longest
  obtain ⟨tg, hgr⟩ := T.great
  refine ⟨_, pss_cons (ps_if (PW.pt (pw_or (pt_not (pt_val (pe_cal (CR.mono (by decide)) hr (by rfl) (pa_cons (pv 0) pa_nil))))
      (pw_or1 (pt_not (pt_chain op_le op_le pe_int (pe_callB call_len_seq (by rfl) T.len PySem.boot_len (pa_cons (pv 0) pa_nil)) (pe_glob (v := .int 8) (by rfl) hlo ⟨_, rfl⟩)))))) (pss_one (ps_ret pe_bl)) pss_nil)
    (pss_cons (ps_if (pt_not (pt_val (pe_allG (N := ["piece"]) hr (by rfl) T.all TB rfl (by exact ⟨rfl, rfl, by decide +kernel, rfl⟩) (pi_seq (pv 0))
        (fun A s H C code fp pn rY => pg_name (i := 0) nd1 rfl (.inl rfl) (.inr rfl)) (fun A s H C code fp pn rY => pts_nil)
        (fun A s H C code fp pn rY => pe_cal CP rY (by rfl) (pa_cons (pv 0) pa_nil))))) (pss_one (ps_ret pe_bl)) pss_nil)
    (pss_cons (ps_if (pt_val (pe_anyG (N := ["piece"]) hr (by rfl) T.any TB rfl (by exact ⟨rfl, rfl, by decide +kernel, rfl⟩) (pi_seq (pe_slice (SlR.or sl_list sl_tup) (pv 0) po_none (po_some (pe_un un_neg pe_int))))
        (fun A s H C code fp pn rY => pg_name (i := 0) nd1 rfl (.inl rfl) (.inr rfl)) (fun A s H C code fp pn rY => pts_nil)
        (fun A s H C code fp pn rY => pe_cmp (pc_isN (pe_ix ix_gx (pv 0) pe_int (fun _ _ => rfl))) rfl))) (pss_one (ps_ret pe_bl)) pss_nil)
    (pss_one (ps_ret (pe_cmpR op_le (pe_sumG (N := ["piece"]) hr (by rfl) T.sum TB rfl (by exact ⟨rfl, rfl, by decide +kernel, rfl⟩) (pi_seq (pv 0))
        (fun A s H C code fp pn rY => pg_name (i := 0) nd1 rfl (.inl rfl) (.inr rfl)) (fun A s H C code fp pn rY => pts_one (pt_cmp (pc_notN (pe_ix ix_gx (pv 0) pe_int (fun _ _ => rfl)))))
        (fun A s H C code fp pn rY => pe_ix ix_gx (pv 0) pe_int (fun _ _ => rfl))) (pe_glob (v := .int GREAT) (by rfl) hgr ⟨_, rfl⟩) (nomark _)))))), ?_⟩
  refine ⟨v, rfl, v, d, rfl, hR, fun H1 s1 => ⟨isRow d, rfl, ?_⟩⟩
  have hT1 := hT.same s1
  have at_ : ∀ {H2 : Hp} {b : Bool}, Ex H1 H2 → Tb P1 P2 H2 → isPlan d = b → Q (.bl b) H2 := fun {H2 b} e2 t2 z => by
    have q' := q H2 ((Ex.of s1).trans e2) t2
    rw [z] at q'
    exact q'
  cases hds : rowsD d with
  | none =>
    have e0 : isRow d = false := by unfold isRow; rw [hds]; rfl
    rw [e0]
    exact iteT (iteT (at_ (Ex.refl H1) hT1 (by unfold isPlan; rw [hds])))
  | some ds =>
    have e0 : isRow d = true := by unfold isRow; rw [hds]; rfl
    rw [e0]
    obtain ⟨a, xs, rfl, hA, hso⟩ := (Rp.ex (Ex.of s1) d v hR).rows hds
    have hst : StSeq H1 a xs := ⟨hso⟩
    have hlen := hA.length
    have val : isPlan d = (decide (1 ≤ ds.length) && decide (ds.length ≤ 8) && ds.all isPiece && !((ds.take (ds.length - 1)).any fun d => isNone (sndD d)) && decide (sumSnd ds ≤ GREAT)) := by
      unfold isPlan
      rw [hds]
      rfl
    refine iteF ⟨.ref a, rfl, a, xs, rfl, hst.sq, 1, xs.length, rfl, rfl, decide ((1 : Int) ≤ xs.length), rfl, ite2 (fun e1 => ?_) (fun e1 => ?_)⟩
    · have l1 : 1 ≤ ds.length := by have := of_decide_eq_true e1; omega
      refine ⟨xs.length, 8, rfl, rfl, decide ((xs.length : Int) ≤ 8), rfl, ?_⟩
      by_cases l2 : ds.length ≤ 8
      · have e2 : decide ((xs.length : Int) ≤ 8) = true := decide_eq_true (by omega)
        rw [e2]
        refine iteF ?_
        -- all
        refine ⟨.ref a, rfl, a, xs, rfl, hst, fun J hJ => ⟨hT1.2, fun H2 tb => ⟨_, ⟨xs.length, rfl, Nat.zero_le _, ex_tabbed hT1.2 tb, hT1.tab2 tb, rfl⟩, turn_by (xs := xs) (fun _ i H => Ex H1 H ∧ Tb P1 P2 H ∧ (ds.take i).all isPiece = true)
          (fun _ i H ⟨eH, _, _⟩ => hJ H eH) (fun _ i x H hx ⟨eH, tH, aH⟩ => ?_) (fun _ H ⟨eH, tH, pH⟩ => ?_)⟩⟩⟩
        · obtain ⟨dx, hdx, hRx⟩ := hA.get hx
          refine name_yes ?_
          refine ⟨x, rfl, x, dx, rfl, Rp.ex eH dx x hRx, tH, fun H4 e4 t4 => ⟨isPiece dx, rfl, ite2 (fun e5 => ?_) (fun e5 => ?_)⟩⟩
          · exact ⟨eH.trans e4, t4, by rw [all_take hdx, aH, e5]; rfl⟩
          · refine ⟨false, rfl, iteT (at_ (eH.trans e4) t4 ?_)⟩
            rw [val, all_false hdx (Bool.eq_false_iff.mpr e5), Bool.and_false, Bool.false_and, Bool.false_and]
        · rw [hlen, List.take_length] at pH
          refine ⟨true, rfl, iteF ?_⟩
          have hA' : RpAll H1 (xs.take (xs.length - 1)) (ds.take (ds.length - 1)) := by
            have z := hA.take (xs.length - 1)
            rw [show ds.take (xs.length - 1) = ds.take (ds.length - 1) by rw [hlen]] at z
            exact z
          have hp' : (ds.take (ds.length - 1)).all isPiece = true := by
            rw [List.all_eq_true]
            intro y hy
            exact List.all_eq_true.mp pH y (List.mem_of_mem_take hy)
          have hl' : (xs.take (xs.length - 1)).length = (ds.take (ds.length - 1)).length := hA'.length
          -- the walk, wherever the cut stands
          have walk : ∀ (p : Addr) (H3 : Hp), StSeq H3 p (xs.take (xs.length - 1)) → Ex H1 H3 → Tb P1 P2 H3 → ∀ QB : Bool → Hp → Prop,
              (∀ H', Ex H1 H' → Tb P1 P2 H' → QB ((ds.take (ds.length - 1)).any fun d => isNone (sndD d)) H') →
              ∀ J, (∀ H2, Ex H3 H2 → StandsAs K p (xs.take (xs.length - 1)) J H2) → GxR.TabG H3 P2 ∧ ∀ H2, GxR.Tabbed P2 H3 H2 →
                ∃ W : Unit → Nat → Nat → Hp → Prop, (∃ m, W () 0 m H2) ∧ TurnOf J 1 (gName 0) tYes (tIsN (tOp (rIx K) (tVar 0) (tC (.int 1)))) (outAny QB) (fun _ H => QB false H) W := by
            intro p H3 st3 e3 t3 QB hQB J hJ
            refine ⟨t3.2, fun H2 tb => ⟨_, ⟨(xs.take (xs.length - 1)).length, rfl, Nat.zero_le _, ex_tabbed t3.2 tb, t3.tab2 tb, rfl⟩, turn_by (xs := xs.take (xs.length - 1)) (fun _ i H => Ex H3 H ∧ Tb P1 P2 H ∧ ((ds.take (ds.length - 1)).take i).any (fun d => isNone (sndD d)) = false)
              (fun _ i H ⟨eH, _, _⟩ => hJ H eH) (fun _ i x H hx ⟨eH, tH, aH⟩ => ?_) (fun _ H ⟨eH, tH, aH⟩ => ?_)⟩⟩
            · obtain ⟨dx, hdx, hRx⟩ := hA'.get hx
              obtain ⟨b, vt, vm, m, rfl, stb, hRm, hsn, _⟩ := piece_at (all_get hp' hdx) (Rp.ex (e3.trans eH) dx x hRx)
              refine name_yes ?_
              refine ⟨.ref b, rfl, rix_of (i := 1) stb rfl ⟨decide (vm = .non), rfl, ite2 (fun e5 => ?_) (fun e5 => ?_)⟩⟩
              · have z := hQB H (e3.trans eH) tH
                rw [any_true (p := fun d => isNone (sndD d)) hdx (by rw [hsn, ← rp_none hRm]; exact e5)] at z
                exact z
              · refine ⟨eH, tH, ?_⟩
                rw [any_take hdx, aH, hsn, ← rp_none hRm, Bool.eq_false_iff.mpr e5]
                rfl
            · rw [hl', List.take_length] at aH
              have z := hQB H (e3.trans eH) tH
              rw [aH] at z
              exact z
          -- the sum
          have sums : ∀ (H3 : Hp), Ex H1 H3 → Tb P1 P2 H3 → ∀ QI : Int → Hp → Prop, (∀ H', Ex H1 H' → Tb P1 P2 H' → QI (sumSnd ds) H') →
              ∀ J, (∀ H2, Ex H3 H2 → StandsAs K a xs J H2) → GxR.TabG H3 P2 ∧ ∀ H2, GxR.Tabbed P2 H3 H2 →
                ∃ W : Int → Nat → Nat → Hp → Prop, (∃ m, W 0 0 m H2) ∧ TurnOf J 1 (gName 0) (tB (tNotN (tOp (rIx K) (tVar 0) (tC (.int 1))))) (tOp (rIx K) (tVar 0) (tC (.int 1))) outSum (fun a H => QI a H) W := by
            intro H3 e3 t3 QI hQI J hJ
            refine ⟨t3.2, fun H2 tb => ⟨_, ⟨xs.length, rfl, Nat.zero_le _, ex_tabbed t3.2 tb, t3.tab2 tb, rfl⟩, turn_by (xs := xs) (fun z i H => Ex H3 H ∧ Tb P1 P2 H ∧ z = sumSnd (ds.take i))
              (fun _ i H ⟨eH, _, _⟩ => hJ H eH) (fun z i x H hx ⟨eH, tH, aH⟩ => ?_) (fun z H ⟨eH, tH, zH⟩ => ?_)⟩⟩
            · obtain ⟨dx, hdx, hRx⟩ := hA.get hx
              obtain ⟨b, vt, vm, m, rfl, stb, hRm, hsn, hmm⟩ := piece_at (all_get pH hdx) (Rp.ex (e3.trans eH) dx x hRx)
              refine ⟨.ref b, rfl, rix_of (i := 1) stb rfl ⟨!decide (vm = .non), rfl, ite2 (fun e5 => ?_) (fun e5 => ?_)⟩⟩
              · refine ⟨.ref b, rfl, rix_of (i := 1) stb rfl ?_⟩
                cases hRm with
                | int j => exact ⟨j, rfl, eH, tH, by rw [sum_step hdx, hsn, aH]; rfl⟩
                | non => exact absurd e5 (by decide)
                | _ => cases hmm
              · refine ⟨eH, tH, ?_⟩
                rw [sum_step hdx, hsn, aH]
                cases hRm with
                | non => exact (Int.add_zero _).symm
                | _ => exact absurd rfl e5
            · rw [hlen, List.take_length] at zH
              subst zH
              exact hQI H (e3.trans eH) tH
          have hst2 := hst.ex eH
          have fin : ∀ (H' : Hp), Ex H1 H' → Tb P1 P2 H' → ((ds.take (ds.length - 1)).any fun d => isNone (sndD d)) = false → isPlan d = decide (sumSnd ds ≤ GREAT) := fun H' _ _ z => by
            rw [val, decide_eq_true l1, decide_eq_true l2, pH, z]
            rfl
          have bad : ∀ (H' : Hp), Ex H1 H' → Tb P1 P2 H' → ((ds.take (ds.length - 1)).any fun d => isNone (sndD d)) = true → Q (.bl false) H' := fun H' e' t' z => at_ e' t' (by
            rw [val, z]
            simp)
          refine ⟨.ref a, rfl, 1, rfl, -1, rfl, ?_⟩
          rcases hst2.or with hq | hq
          · refine .inl ⟨a, xs, rfl, SqL.of hq, fun p np => ?_⟩
            have st3 : StSeq (upd H p (.lst (cutV xs none (some (-1))))) p (xs.take (xs.length - 1)) := ⟨.inl (by rw [upd_same, cut_last])⟩
            refine ⟨p, _, rfl, st3, walk p _ st3 (eH.trans (Ex.new np)) (tH.same (same_upd np)) _ fun H' e' t' => ?_⟩
            refine ⟨_, rfl, ite2 (fun e5 => bad H' e' t' e5) (fun e5 => ?_)⟩
            refine ⟨.ref a, rfl, a, xs, rfl, hst.ex e', sums H' e' t' _ fun H'' e'' t'' => ⟨sumSnd ds, GREAT, rfl, rfl, at_ e'' t'' (fin H'' e'' t'' (Bool.eq_false_iff.mpr e5))⟩⟩
          · refine .inr ⟨a, xs, rfl, SqT.of hq, ?_, fun p np => ?_⟩
            · intro z
              have z2 : HT.sIx xs.length xs.length (some (-1)) = xs.length - 1 := by
                show (if (-1 : Int) < 0 then ((-1 : Int) + (xs.length : Int)).toNat else min (-1 : Int).toNat xs.length) = _
                rw [if_pos (by decide)]
                omega
              have z3 := z.2
              rw [z2] at z3
              omega
            have st3 : StSeq (upd H p (.tup (cutV xs none (some (-1))))) p (xs.take (xs.length - 1)) := ⟨.inr (by rw [upd_same, cut_last])⟩
            refine ⟨p, _, rfl, st3, walk p _ st3 (eH.trans (Ex.new np)) (tH.same (same_upd np)) _ fun H' e' t' => ?_⟩
            refine ⟨_, rfl, ite2 (fun e5 => bad H' e' t' e5) (fun e5 => ?_)⟩
            refine ⟨.ref a, rfl, a, xs, rfl, hst.ex e', sums H' e' t' _ fun H'' e'' t'' => ⟨sumSnd ds, GREAT, rfl, rfl, at_ e'' t'' (fin H'' e'' t'' (Bool.eq_false_iff.mpr e5))⟩⟩
      · have e2 : decide ((xs.length : Int) ≤ 8) = false := decide_eq_false (by omega)
        rw [e2]
        refine iteT (at_ (Ex.refl H1) hT1 ?_)
        rw [val, decide_eq_false l2, Bool.and_false, Bool.false_and, Bool.false_and, Bool.false_and]
    · have l1 : ¬ 1 ≤ ds.length := fun z => e1 (decide_eq_true (by omega))
      refine ⟨false, rfl, iteT (at_ (Ex.refl H1) hT1 ?_)⟩
      rw [val, decide_eq_false l1, Bool.false_and, Bool.false_and, Bool.false_and, Bool.false_and]
end
end CL
set_option Elab.async false
set_option linter.all false
set_option maxRecDepth 100000
set_option maxHeartbeats 4000000
namespace CL
open PySem PySem.Spec PyProof.Rows L2 GE
theorem p18 : (10 : Int) ^ (18 : Int).toNat = 1000000000000000000 := by decide +kernel
theorem p30 : (10 : Int) ^ (30 : Int).toNat = GREAT := by decide +kernel
theorem same_ne {H H' : Hp} (s : Same H H') {p b : Addr} (np : H' p = none) (hb : H b ≠ none) : b ≠ p := fun z => by
  rw [z] at hb
  cases q : H p with
  | none => exact hb q
  | some o =>
    rw [s p o q] at np
    cases np
theorem ints_dp {K : PySem.W.Frag} {H : Hp} : ∀ gs : List Int, DpAll K H (gs.map V.int) (gs.map PyData.int)
  | [] => .nil
  | x :: gs => .cons (.int x) (ints_dp gs)
theorem ints_lay : ∀ gs : List Int, PyData.canLayAll0 (gs.map PyData.int) = true
  | [] => by simp [PyData.canLayAll0]
  | x :: gs => by
    have := ints_lay gs
    simp [PyData.canLayAll0, PyData.canLay0, this]
theorem ints_depth : ∀ gs : List Int, PyData.depthAll (gs.map PyData.int) = 0
  | [] => rfl
  | x :: gs => by
    have := ints_depth gs
    show max 0 (PyData.depthAll (gs.map PyData.int)) = 0
    rw [this]
    rfl
theorem ints_shaped (gs : List Int) : SeqAt.shaped (.list (gs.map PyData.int)) = true := by
  unfold SeqAt.shaped
  have h1 : PyData.canLay0 (.list (gs.map PyData.int)) = true := by
    have := ints_lay gs
    simp [PyData.canLay0, this]
  have h2 : PyData.depth (.list (gs.map PyData.int)) = 1 := by
    show PyData.depthAll (gs.map PyData.int) + 1 = 1
    rw [ints_depth]
  rw [h1, h2]
  rfl
theorem ints_take (gs : List Int) (k : Nat) : (gs.map V.int).take k = (gs.take k).map V.int := List.map_take.symm
theorem cut_to (xs : List V) (k : Nat) : cutV xs none (some (k : Int)) = xs.take k := by
  unfold cutV
  have e0 : HT.sIx xs.length 0 none = 0 := rfl
  have e1 : HT.sIx xs.length xs.length (some (k : Int)) = min k xs.length := HT.sIx_nat _ _ _
  rw [e0, e1, List.drop_zero, Nat.sub_zero]
  rcases Nat.le_total k xs.length with h | h
  · rw [Nat.min_eq_left h]
  · rw [Nat.min_eq_right h, List.take_of_length_le h, List.take_of_length_le (Nat.le_refl _)]
theorem cut_from (xs : List V) (k : Nat) : cutV xs (some (k : Int)) none = xs.drop k := by
  unfold cutV
  have e0 : HT.sIx xs.length 0 (some (k : Int)) = min k xs.length := HT.sIx_nat _ _ _
  have e1 : HT.sIx xs.length xs.length none = xs.length := rfl
  rw [e0, e1]
  rcases Nat.le_total k xs.length with h | h
  · rw [Nat.min_eq_left h]
    exact List.take_of_length_le (by rw [List.length_drop]; exact Nat.le_refl _)
  · rw [Nat.min_eq_right h, List.drop_of_length_le (Nat.le_refl _), List.drop_of_length_le h]
    simp
theorem small_add {a b : Nat} (ha : a ≤ 1000) (hb : b ≤ 1000) : a + b ≤ sizeLine := by
  have : 2000 ≤ sizeLine := by decide
  omega
theorem small_le {a : Nat} (ha : a ≤ 1000) : a ≤ sizeLine := by
  have : 1000 ≤ sizeLine := by decide
  omega
theorem yesT {σ : L2.St} {H : Hp} {A B : Hp → Prop} (h : A H) : tYes σ H (fun b H3 => if b = true then A H3 else B H3) := by
  show if true = true then A H else B H
  exact iteT h
open Classical in
noncomputable def Hw (W : Addr → Prop) (H : Hp) : Hp := fun b => if W b then none else H b
theorem Hw.at {W : Addr → Prop} {H : Hp} {b : Addr} (n : ¬ W b) : Hw W H b = H b := by
  unfold Hw
  rw [if_neg n]
theorem Hw.ne {W : Addr → Prop} {H : Hp} {b : Addr} {o : HO} (e : Hw W H b = some o) : ¬ W b := fun z => by
  unfold Hw at e
  rw [if_pos z] at e
  cases e
theorem Hw.sub (W : Addr → Prop) (H : Hp) : Same (Hw W H) H := fun b o e => by rw [Hw.at (Hw.ne e)] at e; exact e
theorem Hw.less {W W' : Addr → Prop} {H : Hp} (h : ∀ b, W b → W' b) : Same (Hw W' H) (Hw W H) := fun b o e => by
  rw [Hw.at fun z => Hw.ne e (h b z)]
  exact Hw.sub W' H b o e
theorem Hw.more {W W' : Addr → Prop} {H : Hp} (h : ∀ b, W' b → W b ∨ H b = none) : Same (Hw W H) (Hw W' H) := fun b o e => by
  have e1 := Hw.sub W H b o e
  rw [Hw.at fun z => (h b z).elim (Hw.ne e) fun q => by rw [q] at e1; cases e1]
  exact e1
theorem hw_upd {W : Addr → Prop} {a : Addr} {H : Hp} {o : HO} (h : W a) : Hw W (upd H a o) = Hw W H := by
  funext b
  by_cases hb : W b
  · unfold Hw
    rw [if_pos hb, if_pos hb]
  · rw [Hw.at hb, Hw.at hb, upd_ne fun z => hb (by rw [z]; exact h)]
theorem Same.hw {W : Addr → Prop} {H H' : Hp} (m : Same H H') : Same (Hw W H) (Hw W H') := fun b o e => by
  rw [Hw.at (Hw.ne e)]
  exact m b o (Hw.sub W H b o e)
theorem Rp.sm {H H' : Hp} (s : Same H H') {v : V} {d : PyData} (h : Rp H v d) : Rp H' v d := Rp.ex (Ex.of s) d v h
theorem RpAll.sm {H H' : Hp} (s : Same H H') {vs : List V} {ds : List PyData} (h : RpAll H vs ds) : RpAll H' vs ds := RpAll.ex (Ex.of s) ds vs h
theorem RpAll.snoc {H : Hp} : ∀ {vs : List V} {ds : List PyData} {v : V} {d : PyData}, RpAll H vs ds → Rp H v d → RpAll H (vs ++ [v]) (ds ++ [d])
  | _, _, _, _, .nil, h => .cons h .nil
  | _, _, _, _, .cons a b, h => .cons a (RpAll.snoc b h)
end CL
set_option Elab.async false
set_option linter.all false
set_option maxRecDepth 100000
set_option maxHeartbeats 4000000
namespace CL
open PySem PySem.Spec PyProof.Rows L2 GE
/-! ### a, b = a list or a tuple -/
def gSeq (K : PySem.W.Frag) (n : Nat) (t : TGs) : TG := fun v σ H Q => ∃ a xs, v = .ref a ∧ StSeq H a xs ∧ xs.length = n ∧ t xs σ H Q
theorem pg_seq {X : Cx} {pos : Pos} {es : List Expr} {k : Nat} {t : TGs} {n : Nat} (hc : X.calm = true) (h : PGs X es t) (hn : (assignEach es X.env).length = n := by rfl) (hst : (assignEach es X.env).findIdx? (·.1) = none := by rfl) :
    PG X (.Tuple es k pos) (gSeq X.K n t) := by
  refine ⟨fun pins s σ H v u Q I r hw => ?_⟩
  obtain ⟨a, xs, e, hs, hl, q⟩ := hw
  rcases hs.or with hq | hq
  · exact (pg_lst hc h hn hst).run pins s σ H v u Q I r ⟨a, xs, e, SqL.of hq, hl, q⟩
  · exact (pg_tup hc h hn hst).run pins s σ H v u Q I r ⟨a, xs, e, SqT.of hq, hl, q⟩
/-! ### for x in a list or a tuple -/
def iSeqW (K : PySem.W.Frag) (tl : TE) : TI := fun σ H R => tl σ H fun x H1 => ∃ a xs, x = .ref a ∧ StSeq H1 a xs ∧ ∀ J, (∀ H2, (∀ o, H1 a = some o → H2 a = some o) → StandsAs K a xs J H2) → R J H1
theorem pi_seqW {X : Cx} {tg l : Expr} {tl : TE} (hl : PE X l tl) : PI X tg l (iSeqW X.K tl) := by
  refine ⟨fun pins s σ H R I h => thn (hl.run pins s σ H _ I h) fun v s1 ⟨x, H1, I1, r1, a, xs, e, st, q⟩ => ?_⟩
  subst e
  cases r1
  have new : ∀ b ∈ [s1.heap.objs.size], FpOk X pins H1 b := fun b hb => by
    rw [List.mem_singleton.mp hb]
    exact I1.fpOk (Nat.le_refl _) (I1.hok.fresh (Nat.le_refl _))
  have kept := fun {o : Obj} => I1.kept (h' := s1.heap.push o) (t' := s1.toks) fun b o' e => Heap.get?_push_of_some _ e
  rcases st.or with hq | hq
  · obtain ⟨its, rv, p, hz⟩ := I1.list (SqL.of hq)
    exact wpAny_pyIter_list p.isList ⟨s1.heap.objs.size, [s1.heap.objs.size], _, _, H1, rfl, kept, turn_list a _, ⟨_, Heap.get?_push_size _ rfl, rfl, rfl⟩, new, q _ fun H2 e => .inl ⟨rfl, SqL.of (e _ hq)⟩⟩
  · obtain ⟨its, rv, p, hz⟩ := I1.tuple (SqT.of hq)
    exact wpAny_pyIter_tuple (show s1.heap.IsTuple a its.toArray from p) ⟨s1.heap.objs.size, [s1.heap.objs.size], _, _, H1, rfl, kept, turn_tuple a _, ⟨_, Heap.get?_push_size _ rfl, rfl, rfl⟩, new, q _ fun H2 e => .inr ⟨rfl, SqT.of (e _ hq)⟩⟩
theorem for_seq {K : PySem.W.Frag} {a : Addr} {xs : List V} {J : It} {g : TG} {tb : TS} {D : Ends} {σ : L2.St} {H : Hp} (Pv : Nat → L2.St → Hp → Prop) (h0 : Pv 0 σ H) (hl : ∀ i σ H, Pv i σ H → StandsAs K a xs J H)
    (hs : ∀ i x σ H, xs[i]? = some x → Pv i σ H → g x σ H fun σ2 H2 => tb { D with nx := Pv (i + 1), ct := Pv (i + 1), bk := D.nx } σ2 H2) (hd : ∀ σ H, Pv xs.length σ H → D.nx σ H) :
    ∃ W : Nat → Nat → L2.St → Hp → Prop, (∃ m, W 0 m σ H) ∧ ∀ i m σ H, W i m σ H →
      (J.stop i H ∧ D.nx σ H) ∨ (J.go i H ∧ ∃ N : L2.St → Hp → Prop, (∀ σ' H', N σ' H' → ∃ m', m' < m ∧ W (i + 1) m' σ' H') ∧ ∀ x H', J.yld i H x H' → g x σ H' fun σ2 H2 => tb { D with nx := N, ct := N, bk := D.nx } σ2 H2) := by
  refine ⟨fun i m σ H => m + i = xs.length ∧ Pv i σ H, ⟨xs.length, rfl, h0⟩, ?_⟩
  rintro i m σ H ⟨hm, p⟩
  have s := hl i σ H p
  cases m with
  | zero =>
    obtain rfl : i = xs.length := by omega
    exact .inl ⟨s.stop (Nat.le_refl _), hd σ H p⟩
  | succ m =>
    have lt : i < xs.length := by omega
    refine .inr ⟨s.go (List.getElem?_eq_getElem lt), Pv (i + 1), fun σ' H' p' => ⟨m, Nat.lt_succ_self m, by omega, p'⟩, fun x H' y => ?_⟩
    obtain ⟨rfl, hx⟩ := s.yld y
    exact hs i x σ _ hx p
/-! ### a class of refusals -/
structure ExcC (K : PySem.W.Frag) (mg : Str → Option Value) (x : Str) (C : Addr) : Prop where
  g : mg x = some (.ref C)
  x : PySem.W.excIn K C [.type "ValueError", .type "Exception", .type "BaseException", .type "object"] "ValueError.__new__" = true
  k : PySem.W.keepIn K (.ref C) = true
  b : PySem.W.subIn K (.ref C) (.type "BaseException") = some true
  t : PySem.W.typeIn K (.ref C) = some (.type "type")
/-! ### pieces_of -/
abbrev sPieces : Stmt := topS 15
abbrev nPieces : List Str := ["plan", "pieces", "first", "turns", "many", "past"]
theorem scPieces : FnScope nPieces ["plan"] (defScope sPieces) := ⟨rfl, rfl, rfl, by decide +kernel, rfl, by decide +kernel, by decide +kernel⟩
abbrev PieceT := Int × Option Int × List PyData
def optD : Option Int → PyData
  | some i => .int i
  | none => .none
def pieceD (x : PieceT) : PyData := .tuple [.int x.1, optD x.2.1, .tuple x.2.2]
def turnsD (d : PyData) : List PyData := match rowsD d with
  | some (t :: _) => (rowsD t).getD []
  | _ => []
def pastO (f : Int) : PyData → Option Int
  | .int m => some (f + m)
  | _ => none
def pcs : Int → List PyData → List PieceT
  | _, [] => []
  | f, d :: ds => (f, pastO f (sndD d), turnsD d) :: pcs (f + worth (sndD d)) ds
theorem pcs_snoc : ∀ (f : Int) (ds : List PyData) (d : PyData), pcs f (ds ++ [d]) = pcs f ds ++ [(f + sumSnd ds, pastO (f + sumSnd ds) (sndD d), turnsD d)]
  | f, [], d => by
    have e : f + sumSnd [] = f := Int.add_zero f
    rw [e]
    rfl
  | f, c :: ds, d => by
    have e : f + sumSnd (c :: ds) = f + worth (sndD c) + sumSnd ds := by
      show f + (worth (sndD c) + sumSnd ds) = _
      omega
    rw [e]
    show _ :: pcs _ (ds ++ [d]) = _ :: (pcs _ ds ++ _)
    rw [pcs_snoc]
def piecesOf (d : PyData) : List PieceT := pcs 0 ((rowsD d).getD [])
def spPieces (P1 P2 C : Addr) : Sp := fun vs H Q E => ∃ v d, vs = [v] ∧ Rp H v d ∧ Tb P1 P2 H ∧ (isPlan d = false → ∀ H', Ex H H' → Tb P1 P2 H' → E (.ref C) none H') ∧
  (isPlan d = true → ∀ p H', Ex H H' → Tb P1 P2 H' → H p = none → Rp H' (.ref p) (.list ((piecesOf d).map pieceD)) → Q (.ref p) H')
theorem piece_at2 {H : Hp} {x : V} {d : PyData} (hp : isPiece d = true) (hR : Rp H x d) : ∃ b vt vm t m, x = .ref b ∧ StSeq H b [vt, vm] ∧ Rp H vt t ∧ Rp H vm m ∧ rowsD d = some [t, m] ∧ isTurns t = true ∧ isMany m = true := by
  obtain ⟨t, m, e, ht, hm⟩ := piece_parts hp
  obtain ⟨b, xs, rfl, hA, ho⟩ := hR.rows e
  cases hA with
  | cons h1 h2 =>
    cases h2 with
    | cons h3 h4 =>
      cases h4
      exact ⟨b, _, _, t, m, rfl, ⟨ho⟩, h1, h3, e, ht, hm⟩
theorem pieces_put {D : Addr} {ys : List V} {H2 H3 : Hp} {vs : List V} (eD : H2 D = some (.lst vs)) (s3 : Same H2 H3) {p : Addr} (np : H3 p = none) : upd H3 p (.tup ys) D = some (.lst vs) ∧
    Same (Hw (fun b => b = D) H3) (Hw (fun b => b = D) (upd (upd H3 p (.tup ys)) D (.lst (vs ++ [.ref p])))) ∧ Hw (fun b => b = D) (upd (upd H3 p (.tup ys)) D (.lst (vs ++ [.ref p]))) p = some (.tup ys) := by
  have e3 := s3 D _ eD
  have npD : p ≠ D := fun z => by rw [z, e3] at np; cases np
  have e4 : upd H3 p (.tup ys) D = some (.lst vs) := by rw [upd_ne (Ne.symm npD)]; exact e3
  rw [hw_upd (W := fun b => b = D) (a := D) rfl]
  refine ⟨e4, Same.hw (same_upd np), ?_⟩
  rw [Hw.at (W := fun b => b = D) npD]
  exact upd_same
/-- a def that may raise, called by its name -/
structure CalX (P : Program) (w : World) (K : PySem.W.Frag) (mg : Str → Option Value) (base : Heap) (k : Nat) (x : Str) (ps : List Str) (sp : Sp) : Prop where
  ex : ∃ f fd, mg x = some (.ref f) ∧ PySem.W.keepIn K (.ref f) = true ∧ Binds K fd ps [] ∧ FnOk P w K mg base (L2.CX P w) k f fd ps sp
theorem pe_calX {X : Cx} {k : Nat} {x : Str} {ps : List Str} {sp : Sp} {E : XK} {p pos : Pos} {e : Expr} {es : List Expr} {t : TA} (C : CalX X.prog X.w X.K X.mg X.base k x ps sp) (hr : Room k X.A) (hg : Gl X x) (hx : Passes (L2.CX X.prog X.w) X E) (ha : PA X (e :: es) t)
    (hdb : (x == ("__debug__" : Str)) = false := by decide) (he : starEach (e :: es) X.env = (false, eval e X.env) :: starEach es X.env := by rfl) (hpl : (backTo pos (starEach es X.env)).any (·.1) = false := by rfl) : PE X (.Call (.Name x p) (e :: es) [] pos) (tCall sp [] E t) := by
  obtain ⟨f, fd, a1, a2, a3, a4⟩ := C.ex
  exact pe_call a4 hr hg a1 a2 a3 .nil hx ha hdb he hpl
theorem CalX.mono {P : Program} {w : World} {K : PySem.W.Frag} {mg : Str → Option Value} {base : Heap} {j k : Nat} {x : Str} {ps : List Str} {sp : Sp} (C : CalX P w K mg base j x ps sp) (h : j ≤ k) : CalX P w K mg base k x ps sp := by
  obtain ⟨f, fd, a1, a2, a3, a4⟩ := C.ex
  exact ⟨f, fd, a1, a2, a3, a4.mono h⟩
abbrev sCheck : Stmt := topS 14
theorem scCheck : FnScope ["thing"] ["thing"] (defScope sCheck) := ⟨rfl, rfl, rfl, by decide +kernel, rfl, by decide +kernel, by decide +kernel⟩
def spCheck (P1 P2 C : Addr) : Sp := fun vs H Q E => ∃ v d, vs = [v] ∧ Rp H v d ∧ Tb P1 P2 H ∧ (isPlan d = false → ∀ H', Ex H H' → Tb P1 P2 H' → E (.ref C) none H') ∧ (isPlan d = true → ∀ H', Ex H H' → Tb P1 P2 H' → Q .non H')
section
variable {P : Program} {w : World} {K : PySem.W.Frag} {mg : Str → Option Value} {base : Heap}
theorem ok_check {f P1 P2 C : Addr} {fd : FuncData} (F : Fun K "check_plan" "check_plan" sCheck f fd) (XP : ExcC K mg "NoPlan" C) (CP : Cal P w K mg base 7 "is_plan" ["thing"] (spTab P1 P2 isPlan)) :
    FnOk P w K mg base (L2.CX P w) 8 f fd ["thing"] (spCheck P1 P2 C) := by
  refine F.okX scCheck (fun vs H Q E ⟨v, d, e, _⟩ => by rw [e]; rfl) (fun cdv A outer s H vs Q E hr h => ?_)
  obtain ⟨v, d, rfl, hR, hT, qE, q⟩ := h
  refine ⟨_, (pss_one (ps_if (pt_not (pt_val (pe_cal CP hr (by rfl) (pa_cons (pv 0) pa_nil)))) (pss_one (ps_raise rfl (takes_of rfl rfl rfl rfl) (pmk_own PySem.F.excBase_ValueError XP.x XP.g XP.k (raises_own XP.b XP.t) rfl))) pss_nil)), ?_⟩
  refine ⟨v, rfl, v, d, rfl, hR, hT, fun H1 e1 tb1 => ⟨isPlan d, rfl, ?_⟩⟩
  cases hp : isPlan d with
  | false => exact iteT (qE hp H1 e1 tb1)
  | true => exact iteF (q hp H1 e1 tb1)
theorem ok_pieces {f P1 P2 C : Addr} {fd : FuncData} (F : Fun K "pieces_of" "pieces_of" sPieces f fd) (T : Nm mg) (CK : CalX P w K mg base 8 "check_plan" ["thing"] (spCheck P1 P2 C)) :
    FnOk P w K mg base (L2.CX P w) 9 f fd ["plan"] (spPieces P1 P2 C) := by
  refine F.okX scPieces (fun vs H Q E ⟨v, d, e, _⟩ => by rw [e]; rfl) (fun cdv A outer s H vs Q E hr h => ?_)
  obtain ⟨v, d, rfl, hR, hT, qE, q⟩ := h
  have nd := scPieces.nd
  refine ⟨_, (pss_cons (ps_expr (pe_calX CK hr (by rfl) (passes_call (takes_of rfl rfl rfl rfl) fun _ _ _ _ h => h) (pa_cons (pv 0) pa_nil))) (PSs.nox (pss_cons (ps_set (i := 1) nd rfl (.inl rfl) (pe_lst pa_nil))
    (pss_cons (ps_set (i := 2) nd rfl (.inl rfl) pe_int)
    (pss_cons (ps_for PassesOwn.never rfl (pi_seqW (pv 0)) (pg_seq rfl (pgs_cons (pg_name (i := 3) nd rfl (.inl rfl)) (pgs_cons (pg_name (i := 4) nd rfl (.inl rfl)) pgs_nil))) (pss_cons (ps_set (i := 5) nd rfl (.inl rfl) (pe_ifExp (pt_cmp (pc_isN (pv 4))) pe_non (pe_op op_add (pv 2) (pv 4))))
    (pss_cons (ps_expr (pe_bm PySem.F.plainAttrs_list PySem.F.slot_list_append PySem.F.type_list_append mt_append (pv 1) (pa_cons (pe_tup (pa_cons (pv 2) (pa_cons (pv 5) (pa_cons (pe_callTy call_tuple_of (by rfl) T.tuple PyProof.Rows.boot_tuple (pa_cons (pv 3) pa_nil)) pa_nil)))) pa_nil)))
    (pss_one (ps_set (i := 2) nd rfl (.inl rfl) (pv 5))))))
    (pss_one (ps_ret (pv 1)))))))), ?_⟩
  refine ⟨v, rfl, v, d, rfl, hR, hT, qE, fun hp H1 e1 tb1 => ?_⟩
  · skip
    have hR1 := Rp.ex e1 d v hR
    obtain ⟨ds, hds⟩ : ∃ ds, rowsD d = some ds := by
      cases z : rowsD d with
      | none => unfold isPlan at hp; rw [z] at hp; cases hp
      | some ds => exact ⟨ds, rfl⟩
    have val : isPlan d = isPlanL ds := by unfold isPlan; rw [hds]
    have hp' := hp
    rw [val] at hp'
    unfold isPlanL at hp'
    simp only [Bool.and_eq_true, decide_eq_true_eq, Bool.not_eq_true'] at hp'
    obtain ⟨⟨⟨⟨l1, l8⟩, hpc⟩, hno⟩, hsum⟩ := hp'
    obtain ⟨a, xs, rfl, hA, hso⟩ := hR1.rows hds
    have hst : StSeq H1 a xs := ⟨hso⟩
    have hlen := hA.length
    refine ⟨Nat.zero_le _, fun D hD => ?_⟩
    have eD0 : (upd H1 D (.lst [])) D = some (.lst []) := upd_same
    have s0 : Same H1 (Hw (fun b => b = D) (upd H1 D (.lst []))) := fun b o e => by
      rw [Hw.at fun z => by rw [z, hD] at e; cases e]
      exact same_upd hD b o e
    generalize hH0 : upd H1 D (.lst []) = H0 at eD0 s0
    have ex0 : ∀ {H2 : Hp}, Same H1 (Hw (fun b => b = D) H2) → Ex H1 H2 := fun {H2} s => Ex.of fun b o e => Hw.sub _ _ _ _ (s b o e)
    have naD : a ≠ D := fun z => by
      rcases hso with z2 | z2 <;> (rw [z, hD] at z2; cases z2)
    have stay : ∀ {H2 : Hp} {o : HO}, Same H1 (Hw (fun b => b = D) H2) → H0 a = some o → H2 a = some o := fun {H2 o} s ho => by
      rw [← hH0, upd_ne naD] at ho
      exact Hw.sub _ _ _ _ (s _ _ ho)
    show tSeq _ _ _ [some (.ref a), some (.ref D), none, none, none, none] H0
    refine ⟨.ref a, rfl, a, xs, rfl, hst.ex (ex0 s0), fun J hJ => for_seq (K := K) (a := a) (xs := xs) (fun i σ H2 => ∃ fv y3 y4 y5 vs, σ = [some (.ref a), some (.ref D), some fv, y3, y4, y5] ∧ (i < ds.length → fv = .int (sumSnd (ds.take i))) ∧ Same H1 (Hw (fun b => b = D) H2) ∧
        H2 D = some (.lst vs) ∧ vs.length = i ∧ RpAll (Hw (fun b => b = D) H2) vs ((pcs 0 (ds.take i)).map pieceD))
      ⟨.int 0, none, none, none, [], rfl, fun _ => rfl, s0, eD0, rfl, .nil⟩ (fun i σ H2 ⟨_, _, _, _, _, _, _, e, _⟩ => hJ H2 fun o ho => stay e ho) (fun i x σ H2 hx ⟨fv, y3, y4, y5, vs, es, hfv, s2, eD, lv, hv⟩ => ?_) (fun σ H2 ⟨fv, y3, y4, y5, vs, es, _, s2, eD, lv, hv⟩ => ?_)⟩
    · subst es
      obtain ⟨dx, hdx, hRx⟩ := hA.get hx
      have li : i < ds.length := by
        obtain ⟨z, _⟩ := List.getElem?_eq_some_iff.mp hdx
        exact z
      obtain rfl := hfv li
      obtain ⟨b, vt, vm, t, m, rfl, hsb, hvt, hvm, hrx, htu, hma⟩ := piece_at2 (all_get hpc hdx) (Rp.sm s2 hRx)
      have hsnd : sndD dx = m := sndD_two hrx
      obtain ⟨ts, hts⟩ : ∃ ts, rowsD t = some ts := by
        cases z : rowsD t with
        | none => unfold isTurns at htu; rw [z] at htu; cases htu
        | some ts => exact ⟨ts, rfl⟩
      have htd : turnsD dx = ts := by unfold turnsD; rw [hrx]; show (rowsD t).getD [] = ts; rw [hts]; rfl
      obtain ⟨t0, zs, rfl, hzs, hto⟩ := hvt.rows hts
      refine ⟨b, [.ref t0, vm], rfl, hsb.ex (Ex.of (Hw.sub _ _)), rfl, .ref t0, [vm], rfl, vm, [], rfl, rfl, ?_⟩
      have hS := sum_step hdx
      have epc : (pcs 0 (ds.take (i + 1))).map pieceD = (pcs 0 (ds.take i)).map pieceD ++ [pieceD (sumSnd (ds.take i), pastO (sumSnd (ds.take i)) m, ts)] := by
        rw [List.take_add_one, hdx]
        show (pcs 0 (ds.take i ++ [dx])).map pieceD = _
        rw [pcs_snoc, List.map_append, Int.zero_add, hsnd, htd]
        rfl
      generalize hSS : sumSnd (ds.take i) = S at hS epc ⊢
      obtain ⟨pv, hp1, hp2, hc⟩ : ∃ pv, (∀ H3, Rp H3 pv (optD (pastO S m))) ∧ (i + 1 < ds.length → pv = .int (sumSnd (ds.take (i + 1)))) ∧ ((vm = .non ∧ pv = .non) ∨ ∃ k, vm = .int k ∧ pv = .int (S + k)) := by
        rw [hsnd] at hS
        cases hvm with
        | non =>
          refine ⟨.non, fun _ => .non, fun lt => ?_, .inl ⟨rfl, rfl⟩⟩
          have z := List.any_eq_false.mp hno dx (List.mem_of_getElem? (i := i) (by rw [List.getElem?_take_of_lt (by omega : i < ds.length - 1)]; exact hdx))
          rw [hsnd] at z
          exact absurd rfl z
        | int k => exact ⟨.int (S + k), fun _ => .int _, fun _ => by rw [hS]; rfl, .inr ⟨k, rfl, rfl⟩⟩
        | _ => cases hma
      have fin : ∀ (l : Addr) (H3 : Hp), Same H2 H3 → Hw (fun b => b = D) H3 l = some (.tup zs) → ∀ p, H3 p = none → upd H3 p (.tup [.int S, pv, .ref l]) D = some (.lst vs) ∧ Same H1 (Hw (fun b => b = D) (upd (upd H3 p (.tup [.int S, pv, .ref l])) D (.lst (vs ++ [.ref p])))) ∧
          RpAll (Hw (fun b => b = D) (upd (upd H3 p (.tup [.int S, pv, .ref l])) D (.lst (vs ++ [.ref p])))) (vs ++ [.ref p]) ((pcs 0 (ds.take (i + 1))).map pieceD) := fun l H3 s3 el p np => by
        obtain ⟨e4, s5, eb⟩ := pieces_put (ys := [.int S, pv, .ref l]) eD s3 np
        have s25 := Same.trans (Same.hw (W := fun b => b = D) s3) s5
        refine ⟨e4, Same.trans s2 s25, ?_⟩
        rw [epc]
        exact (RpAll.sm s25 hv).snoc (.tup eb (.cons (.int S) (.cons (hp1 _) (.cons (.tup (s5 _ _ el) (RpAll.sm s25 hzs)) .nil))))
      have l3 : ∀ l : Addr, [V.int S, pv, .ref l].length ≤ sizeLine := fun l => small_le (by show 3 ≤ 1000; decide)
      have lvs : vs.length < sizeLine := small1000 (by omega)
      have lv1 : ∀ p : Addr, (vs ++ [V.ref p]).length = i + 1 := fun p => by rw [List.length_append, lv]; rfl
      have nlD : ∀ {l : Addr}, H2 l = none → Hw (fun b => b = D) (upd H2 l (.tup zs)) l = some (.tup zs) := fun {l} nl => by
        rw [Hw.at (W := fun b => b = D) fun z => by rw [z, eD] at nl; cases nl]
        exact upd_same
      rcases hc with ⟨rfl, rfl⟩ | ⟨k, rfl, rfl⟩
      · refine ⟨.non, rfl, _, rfl, iteT ⟨.ref D, rfl, .inl ⟨rfl, _, SqL.of eD⟩, .int S, rfl, .non, rfl, .ref t0, rfl, t0, zs, rfl, ?_⟩⟩
        rcases hto with ht | ht
        · refine .inl ⟨SqL.of (Hw.sub _ _ _ _ ht), fun l nl => ⟨l3 l, fun p np => ?_⟩⟩
          obtain ⟨e4, a1, a2⟩ := fin l _ (same_upd nl) (nlD nl) p np
          exact ⟨D, vs, .ref p, rfl, rfl, e4, lvs, .non, rfl, .non, _, _, _, _, rfl, hp2, a1, upd_same, lv1 p, a2⟩
        · refine .inr ⟨SqT.of (Hw.sub _ _ _ _ ht), l3 t0, fun p np => ?_⟩
          obtain ⟨e4, a1, a2⟩ := fin t0 H2 (Same.refl H2) ht p np
          exact ⟨D, vs, .ref p, rfl, rfl, e4, lvs, .non, rfl, .non, _, _, _, _, rfl, hp2, a1, upd_same, lv1 p, a2⟩
      · refine ⟨.int k, rfl, _, rfl, iteF ⟨.int S, rfl, .int k, rfl, S, k, rfl, rfl, .ref D, rfl, .inl ⟨rfl, _, SqL.of eD⟩, .int S, rfl, .int (S + k), rfl, .ref t0, rfl, t0, zs, rfl, ?_⟩⟩
        rcases hto with ht | ht
        · refine .inl ⟨SqL.of (Hw.sub _ _ _ _ ht), fun l nl => ⟨l3 l, fun p np => ?_⟩⟩
          obtain ⟨e4, a1, a2⟩ := fin l _ (same_upd nl) (nlD nl) p np
          exact ⟨D, vs, .ref p, rfl, rfl, e4, lvs, .int (S + k), rfl, .int (S + k), _, _, _, _, rfl, hp2, a1, upd_same, lv1 p, a2⟩
        · refine .inr ⟨SqT.of (Hw.sub _ _ _ _ ht), l3 t0, fun p np => ?_⟩
          obtain ⟨e4, a1, a2⟩ := fin t0 H2 (Same.refl H2) ht p np
          exact ⟨D, vs, .ref p, rfl, rfl, e4, lvs, .int (S + k), rfl, .int (S + k), _, _, _, _, rfl, hp2, a1, upd_same, lv1 p, a2⟩
    · subst es
      rw [hlen, List.take_length] at hv
      have hpo : piecesOf d = pcs 0 ds := by unfold piecesOf; rw [hds]; rfl
      exact ⟨.ref D, rfl, q hp D H2 (e1.trans (ex0 s2)) (tb1.same fun b o e => Hw.sub _ _ _ _ (s2 b o e)) (e1.free hD) (by rw [hpo]; exact .lst eD (RpAll.sm (Hw.sub _ _) hv))⟩
end
end CL
set_option Elab.async false
set_option linter.all false
set_option maxRecDepth 100000
set_option maxHeartbeats 4000000
namespace CL
open PySem PySem.Spec PyProof.Rows L2 GE
abbrev sMany : Stmt := topS 16
theorem scMany : FnScope ["pieces"] ["pieces"] (defScope sMany) := ⟨rfl, rfl, rfl, by decide +kernel, rfl, by decide +kernel, by decide +kernel⟩
abbrev sPieceNo : Stmt := topS 17
theorem scPieceNo : FnScope ["pieces", "person", "at"] ["pieces", "person"] (defScope sPieceNo) := ⟨rfl, rfl, rfl, by decide +kernel, rfl, by decide +kernel, by decide +kernel⟩
/-- the pieces stand as a list at a -/
structure PcsAt (H : Hp) (a : Addr) (ps : List PieceT) : Prop where
  ex : ∃ xs, H a = some (.lst xs) ∧ RpAll H xs (ps.map pieceD)
theorem PcsAt.of {H : Hp} {v : V} {ps : List PieceT} (h : Rp H v (.list (ps.map pieceD))) : ∃ a, v = .ref a ∧ PcsAt H a ps := by
  cases h with
  | lst h1 h2 => exact ⟨_, rfl, _, h1, h2⟩
def optV : Option Int → V
  | some i => .int i
  | none => .non
/-- a piece that stands -/
theorem pc_at {H : Hp} {a : Addr} {ps : List PieceT} {i : Nat} {pc : PieceT} (h : PcsAt H a ps) (e : ps[i]? = some pc) : ∃ xs b t zs, StSeq H a xs ∧ xs.length = ps.length ∧ xs[i]? = some (.ref b) ∧ H b = some (.tup [.int pc.1, optV pc.2.1, .ref t]) ∧ H t = some (.tup zs) ∧ RpAll H zs pc.2.2 := by
  obtain ⟨xs, h1, h2⟩ := h.ex
  have hl : xs.length = ps.length := by rw [h2.length, List.length_map]
  have hi : i < xs.length := by
    obtain ⟨z, _⟩ := List.getElem?_eq_some_iff.mp e
    omega
  obtain ⟨d, hd, hr⟩ := h2.get (List.getElem?_eq_getElem hi)
  obtain rfl : d = pieceD pc := by
    rw [List.getElem?_map, e] at hd
    exact (Option.some.inj hd).symm
  obtain ⟨f, po, ts⟩ := pc
  generalize hv : xs[i] = v at hr
  cases hr with
  | tup hb hys =>
    cases hys with
    | cons k1 k2 =>
      cases k2 with
      | cons k3 k4 =>
        cases k4 with
        | cons k5 k6 =>
          cases k6
          cases k1
          cases k5 with
          | tup ht hz =>
            have z : ∀ v, Rp H v (optD po) → v = optV po := fun v h => by cases po <;> cases h <;> rfl
            rw [z _ k3] at hb
            exact ⟨xs, _, _, _, ⟨.inl h1⟩, hl, by rw [List.getElem?_eq_getElem hi, hv], hb, ht, hz⟩
def spMany : Sp := fun vs H Q _ => ∃ a ps pc, vs = [.ref a] ∧ PcsAt H a (ps ++ [pc]) ∧ Q (optV pc.2.1) H
section
variable {P : Program} {w : World} {K : PySem.W.Frag} {mg : Str → Option Value} {base : Heap}
theorem ok_many {f : Addr} {fd : FuncData} (F : Fun K "many_in" "many_in" sMany f fd) : FnOk P w K mg base CX0 1 f fd ["pieces"] spMany := by
  refine F.ok scMany (fun vs H Q E ⟨a, ps, pc, e, _⟩ => by rw [e]; rfl) (fun cdv A outer s H vs Q E hr h => ?_)
  obtain ⟨a, ps, pc, rfl, hp, q⟩ := h
  refine ⟨_, pss_one (ps_ret (pe_ix ix_seq (pe_ix ix_seq (pv 0) (pe_un un_neg pe_int) (fun _ _ => rfl)) pe_int (fun _ _ => rfl))), ?_⟩
  obtain ⟨xs, b, t, zs, st, hl, hx, hb, _⟩ := pc_at (i := ps.length) (pc := pc) hp (by simp)
  obtain ⟨ys, z, rfl⟩ : ∃ ys z, xs = ys ++ [z] := ⟨xs.dropLast, xs.getLast (by intro z; rw [z] at hl; simp at hl), (List.dropLast_concat_getLast _).symm⟩
  have ey : ys.length = ps.length := by simpa using hl
  obtain rfl : z = .ref b := by
    rw [← ey] at hx
    simpa using hx
  have e1 : atI (ys ++ [V.ref b]) (-1) = some (.ref b) := atI_last _ _
  refine ⟨.ref a, rfl, 1, rfl, ?_⟩
  have fin : rIx K (.ref b) (.int 1) H Q := rix_of (i := 1) ⟨.inr hb⟩ rfl q
  rcases st.or with h | h
  · exact .inl ⟨a, _, -1, .ref b, rfl, rfl, SqL.of h, e1, fin⟩
  · exact .inr (.inl ⟨a, _, -1, .ref b, rfl, rfl, SqT.of h, e1, fin⟩)
/-- whether one of that number comes by the piece, or by one ahead of it -/
def comes (n : Int) (x : PieceT) : Bool := match x.2.1 with
  | none => true
  | some m => decide (n < m)
def spPieceNo : Sp := fun vs H Q _ => ∃ a n ps pc, vs = [.ref a, .int n] ∧ PcsAt H a ps ∧ ps.find? (comes n) = some pc ∧ ∀ i : Nat, ps[i]? = some pc → Q (.int (i : Int)) H
theorem ok_pieceNo {f : Addr} {fd : FuncData} (F : Fun K "piece_number" "piece_number" sPieceNo f fd) : FnOk P w K mg base CX0 1 f fd ["pieces", "person"] spPieceNo := by
  refine F.ok scPieceNo (fun vs H Q E ⟨a, n, ps, pc, e, _⟩ => by rw [e]; rfl) (fun cdv A outer s H vs Q E hr h => ?_)
  obtain ⟨a, n, ps, pc, rfl, hp, hf, q⟩ := h
  have nd := scPieceNo.nd
  refine ⟨_, (pss_cons (ps_set (i := 2) nd rfl (.inl rfl) pe_int) (pss_cons (ps_while PassesOwn.never (PW.pt (pw_and (pt_cmp (pc_notN (pe_ix ix_seq (pe_ix ix_seq (pv 0) (pv 2) (fun _ _ => rfl)) pe_int (fun _ _ => rfl)))) (pw_and1 (pt_cmpR op_le (pe_ix ix_seq (pe_ix ix_seq (pv 0) (pv 2) (fun _ _ => rfl)) pe_int (fun _ _ => rfl)) (pv 1) (nomark _))))) (pss_one (ps_aug (i := 2) nd rfl (.inl rfl) pe_int ip_add)))
    (pss_one (ps_ret (pv 2))))), ?_⟩
  refine ⟨fun m σ H' => ∃ i : Nat, m + i = ps.length ∧ σ = [some (.ref a), some (.int n), some (.int (i : Int))] ∧ H' = H ∧ (ps.drop i).find? (comes n) = some pc, ⟨ps.length, 0, rfl, rfl, rfl, hf⟩, fun m σ H' hW => ?_⟩
  obtain ⟨i, hm, rfl, rfl, hfi⟩ := hW
  have li : i < ps.length := by
    by_cases z : i < ps.length
    · exact z
    · rw [List.drop_eq_nil_of_le (by omega)] at hfi
      cases hfi
  obtain ⟨x, hx⟩ : ∃ x, ps[i]? = some x := ⟨_, List.getElem?_eq_getElem li⟩
  have ed : ps.drop i = x :: ps.drop (i + 1) := by
    rw [List.drop_eq_getElem_cons li]
    rw [List.getElem?_eq_getElem li] at hx
    rw [Option.some.inj hx]
  obtain ⟨xs, b, t, zs, st, hl, hxi, hb, ht, hz⟩ := pc_at hp hx
  have go : ∀ {R : VK}, R (optV x.2.1) H' → rIx K (.ref a) (.int (i : Int)) H' fun y H1 => rIx K y (.int 1) H1 R := fun {R} h => rix_of st hxi (rix_of (i := 1) ⟨.inr hb⟩ rfl h)
  rw [ed, List.find?_cons] at hfi
  refine ⟨.ref a, rfl, .int (i : Int), rfl, go ?_⟩
  cases hpo : x.2.1 with
  | none =>
    have hc : comes n x = true := by unfold comes; rw [hpo]
    rw [hc] at hfi
    obtain rfl : x = pc := Option.some.inj hfi
    exact ⟨_, rfl, iteF ⟨.int (i : Int), rfl, q i hx⟩⟩
  | some k =>
    refine ⟨_, rfl, iteT ⟨.ref a, rfl, .int (i : Int), rfl, go ?_⟩⟩
    rw [hpo]
    refine ⟨.int n, rfl, k, n, rfl, rfl, decide (k ≤ n), rfl, ?_⟩
    have hc : comes n x = decide (n < k) := by unfold comes; rw [hpo]
    rw [hc] at hfi
    refine ite2 (fun e => ?_) (fun e => ?_)
    · have e1 : decide (n < k) = false := decide_eq_false (by have := of_decide_eq_true e; omega)
      rw [e1] at hfi
      refine ⟨fun σ' H'' => σ' = [some (.ref a), some (.int n), some (.int ((i : Int) + 1))] ∧ H'' = H', fun σ' H'' z => ⟨m - 1, by omega, i + 1, by omega, z.1, z.2, hfi⟩, ?_⟩
      exact ⟨.int (i : Int), rfl, i, 1, rfl, rfl, rfl, rfl⟩
    · have e1 : decide (n < k) = true := decide_eq_true (by
        have : ¬ k ≤ n := fun z => e (decide_eq_true z)
        omega)
      rw [e1] at hfi
      obtain rfl : x = pc := Option.some.inj hfi
      exact ⟨.int (i : Int), rfl, q i hx⟩
/-- the number of its piece, its place in the round -/
def spTurnAt : Sp := fun vs H Q _ => ∃ a n ps pc, vs = [.ref a, .int n] ∧ PcsAt H a ps ∧ ps.find? (comes n) = some pc ∧ 0 < pc.2.2.length ∧ ∀ (i : Nat) p H', ps[i]? = some pc → Same H H' → H' p = some (.tup [.int (i : Int), .int ((n - pc.1) % (pc.2.2.length : Int))]) → Q (.ref p) H'
def spPatAt : Sp := fun vs H Q _ => ∃ a n ps pc d, vs = [.ref a, .int n] ∧ PcsAt H a ps ∧ ps.find? (comes n) = some pc ∧ 0 < pc.2.2.length ∧ pc.2.2[((n - pc.1) % (pc.2.2.length : Int)).toNat]? = some d ∧ ∀ v H', Same H H' → Rp H' v d → Q v H'
end
end CL
set_option Elab.async false
set_option linter.all false
set_option maxRecDepth 100000
set_option maxHeartbeats 4000000
namespace CL
open PySem PySem.Spec PyProof.Rows L2 GE
abbrev sCkP : Stmt := topS 18
theorem scCkP : FnScope ["pieces", "person", "many"] ["pieces", "person"] (defScope sCkP) := ⟨rfl, rfl, rfl, by decide +kernel, rfl, by decide +kernel, by decide +kernel⟩
/-- whether anything is the number of one that comes before past, or ever -/
def under : Option Int → Int → Bool
  | none, _ => true
  | some m, n => decide (n < m)
def personOk (past : Option Int) : PyData → Bool
  | .int n => decide (0 ≤ n) && under past n
  | _ => false
theorem personOk_int (past : Option Int) (n : Int) : personOk past (.int n) = (decide (0 ≤ n) && under past n) := rfl
def spCkP (C : Addr) : Sp := fun vs H Q E => ∃ a v ps pc d, vs = [.ref a, v] ∧ PcsAt H a (ps ++ [pc]) ∧ Rp H v d ∧ (personOk pc.2.1 d = false → ∀ H', Same H H' → E (.ref C) none H') ∧ (personOk pc.2.1 d = true → ∀ H', Same H H' → Q .non H')
/-- whether anything is a moment by which no more come than come -/
def upto : Option Int → Int → Bool
  | none, _ => true
  | some m, n => decide (n ≤ m)
def momentOk (past : Option Int) : PyData → Bool
  | .int n => decide (0 ≤ n) && decide (n ≤ GREAT) && upto past n
  | _ => false
theorem momentOk_int (past : Option Int) (n : Int) : momentOk past (.int n) = (decide (0 ≤ n) && decide (n ≤ GREAT) && upto past n) := rfl
def spCkM (C : Addr) : Sp := fun vs H Q E => ∃ a v ps pc d, vs = [.ref a, v] ∧ PcsAt H a (ps ++ [pc]) ∧ Rp H v d ∧ (momentOk pc.2.1 d = false → ∀ H', Same H H' → E (.ref C) none H') ∧ (momentOk pc.2.1 d = true → ∀ H', Same H H' → Q .non H')
section
variable {P : Program} {w : World} {K : PySem.W.Frag} {mg : Str → Option Value} {base : Heap}
theorem ok_ckp {f C : Addr} {fd : FuncData} (F : Fun K "check_person" "check_person" sCkP f fd) (XN : ExcC K mg "NoPerson" C) (CM : Cal P w K mg base 1 "many_in" ["pieces"] spMany) (CW : Cal P w K mg base 1 "is_whole" ["thing"] (spOne isWhole)) :
    FnOk P w K mg base (L2.CX P w) 2 f fd ["pieces", "person"] (spCkP C) := by
  refine F.okX scCkP (fun vs H Q E ⟨a, v, ps, pc, d, e, _⟩ => by rw [e]; rfl) (fun cdv A outer s H vs Q E hr h => ?_)
  obtain ⟨a, v, ps, pc, d, rfl, hp, hR, qE, q⟩ := h
  have nd := scCkP.nd
  refine ⟨_, (pss_cons (ps_set (i := 2) nd rfl (.inl rfl) (pe_cal CM hr (by rfl) (pa_cons (pv 0) pa_nil)))
    (pss_one (ps_if (PW.pt (pw_or (pt_not (pt_val (pe_cal CW hr (by rfl) (pa_cons (pv 1) pa_nil)))) (pw_or (pt_cmpR op_lt (pv 1) pe_int (nomark _)) (pw_or1 (PW.pt (pw_and (pt_cmp (pc_notN (pv 2))) (pw_and1 (pt_cmpR op_ge (pv 1) (pv 2) (nomark _))))))))) (pss_one (ps_raise rfl (takes_of rfl rfl rfl rfl) (pmk_own PySem.F.excBase_ValueError XN.x XN.g XN.k (raises_own XN.b XN.t) rfl))) pss_nil))), ?_⟩
  refine ⟨.ref a, rfl, a, ps, pc, rfl, hp, v, rfl, v, d, rfl, hR, fun H1 s1 => ⟨isWhole d, rfl, ?_⟩⟩
  cases hR with
  | int n =>
    refine iteF ⟨.int n, rfl, n, 0, rfl, rfl, decide (n < 0), rfl, ite2 (fun e1 => ?_) (fun e1 => ?_)⟩
    · exact iteT (qE (by rw [personOk_int, decide_eq_false (by have := of_decide_eq_true e1; omega)]; rfl) H1 s1)
    · have n0 : 0 ≤ n := by
        have : ¬ n < 0 := fun z => e1 (decide_eq_true z)
        omega
      cases hpo : pc.2.1 with
      | none => 
        refine ⟨_, rfl, _, rfl, iteF (iteF ?_)⟩
        exact q (by rw [hpo, personOk_int, decide_eq_true n0]; rfl) H1 s1
      | some m =>
        refine ⟨_, rfl, _, rfl, iteT ⟨.int n, rfl, .int m, rfl, n, m, rfl, rfl, decide (m ≤ n), rfl, ?_⟩⟩
        refine ite2 (fun e2 => ?_) (fun e2 => ?_)
        · exact qE (by rw [hpo, personOk_int, decide_eq_true n0]; exact decide_eq_false (by have := of_decide_eq_true e2; omega)) H1 s1
        · exact q (by rw [hpo, personOk_int, decide_eq_true n0]; exact decide_eq_true (by have : ¬ m ≤ n := fun z => e2 (decide_eq_true z); omega)) H1 s1
  | _ => exact iteT (iteT (qE rfl H1 s1))
/-- the patience of a person, as the pieces have it -/
def patD (ps : List PieceT) (n : Int) : Option PyData := (ps.find? (comes n)).bind fun pc => pc.2.2[((n - pc.1) % (pc.2.2.length : Int)).toNat]?
/-- each that comes has its piece, with a patience -/
def HasP (ps : List PieceT) (n : Int) (e : PyData) : Prop := ∃ pp, ps.find? (comes n) = some pp ∧ 0 < pp.2.2.length ∧ pp.2.2[((n - pp.1) % (pp.2.2.length : Int)).toNat]? = some e
def spPatOf (P1 P2 C C2 : Addr) : Sp := fun vs H Q E => ∃ v u d c, vs = [v, u] ∧ Rp H v d ∧ Rp H u c ∧ Tb P1 P2 H ∧ (isPlan d = false → ∀ H', Ex H H' → Tb P1 P2 H' → E (.ref C) none H') ∧
  (isPlan d = true → ∃ ps pc, piecesOf d = ps ++ [pc] ∧ (personOk pc.2.1 c = false → ∀ H', Ex H H' → Tb P1 P2 H' → E (.ref C2) none H') ∧
    (personOk pc.2.1 c = true → ∃ n e, c = .int n ∧ HasP (piecesOf d) n e ∧ ∀ x H', Ex H H' → Tb P1 P2 H' → Rp H' x e → Q x H'))
end
end CL
set_option Elab.async false
set_option linter.all false
set_option maxRecDepth 100000
set_option maxHeartbeats 4000000
namespace GE
open PySem PySem.Spec PyProof.Rows L2 GenW
open Sem (wp)
/-! ### a generator expression that uses names of the def around it -/
abbrev clC (X : Cx) (scope : Scope) : List (Str × Addr) := cloFrom X.env.cells scope.names []
abbrev ceC (X : Cx) (scope : Scope) (C : Addr) (code : Value) : Env := genEnv scope (clC X scope) C code builtinsNs X.env
structure GSf (X : Cx) (scope : Scope) : Prop where
  kind : scope.kind = .function
  co : scope.isCoroutine = false
  own : ∀ y ∈ scope.names, y.2 ≠ .cell
  dot : scope.names.lookup (".0" : Str) = some NameKind.local
  free : ∀ y ∈ scope.names, y.2 = .free → ∃ c, X.env.cells.lookup y.1 = some c
theorem GSf.cl_of {X : Cx} {scope : Scope} (S : GSf X scope) {x : Str} {c : Addr} (h : (clC X scope).lookup x = some c) : X.env.cells.lookup x = some c := by
  rcases cloFrom_mem (PySem.mem_of_lookup h) with z | ⟨h1, h2⟩
  · cases z
  · obtain ⟨c', e⟩ := S.free _ h1 rfl
    have e' : X.env.cells.lookup x = some c' := e
    rw [e'] at h2
    rw [e', h2]
    rfl
theorem GSf.has {X : Cx} {scope : Scope} (S : GSf X scope) {x : Str} (h : scope.names.lookup x = some .cell ∨ scope.names.lookup x = some .free) : ∃ c, (clC X scope).lookup x = some c := by
  rcases h with h | h
  · exact absurd rfl (S.own _ (PySem.mem_of_lookup h))
  · exact mem_lookup (cloFrom_has (PySem.mem_of_lookup h))
section
variable {X : Cx} {pins : List (Addr × Obj)} {σ : L2.St} {H : Hp} {s : Shared}

theorem ge_startC {A : Around} {N : List Str} {scope : Scope} {code : Value} {fp : List Addr} {go : Obj} {G : Array GenState} {tk : Nat} {h5 : Heap} {m0 : Str → Option Value} (I : Inv X pins σ H s) (S : GSf X scope) (hA : A.handled = none) (hf : A.frames = some X.stack)
    (hfp : ∀ b ∈ fp, FpOk X pins H b ∧ b < s.heap.objs.size) (hG : AllBare G) (hns : h5.Ns s.heap.objs.size m0) (hk : ∀ b o, s.heap.get? b = some o → h5.get? b = some o) (hgo : h5.get? (s.heap.objs.size + 1) = some go) (hgd : ∀ v, go.data ≠ .cell v) :
    Inv (gx X A N s H (ceC X scope s.heap.objs.size code) fp [(s.heap.objs.size + 1, go)]) [] (nones N.length) H { s with gens := G, toks := tk, heap := h5 } := by
  have noc : ∀ x c, (ceC X scope s.heap.objs.size code).cells.lookup x = some c → X.env.cells.lookup x = some c := fun x c e => S.cl_of e
  have stkne : ∀ b, s.heap.objs.size ≤ b → b ∉ frs X.stack := fun b hb z => by
    rcases List.mem_cons.mp (I.stkSub b z) with e | e
    · exact absurd (Nat.lt_of_lt_of_le I.lt (by rw [← e]; exact hb)) (Nat.lt_irrefl _)
    · exact I.nofs hb e
  refine ⟨⟨I.ok.mod, S.kind, I.ok.glob, rfl, Nat.le_refl _, fun x y c h1 h2 => I.ok.inj x y c (noc x c h1) (noc y c h2), fun x hx => S.has hx, fun x c h _ => (by cases h), fun _ => hA, Around.frames_deeper hf, .inr ⟨rfl, rfl⟩, fun b hb => ⟨Nat.ne_of_lt (hfp b hb).2, fun x c e => ((hfp b hb).1.2.2.2.2.1 x c (noc x c e))⟩,
    I.bs, Nat.le_trans I.ok.bsz I.sz, fun b o e hb => ?_, fun b hb z => ?_, I.stack, I.stkFree⟩, rfl, hG, Un.kept hk, ⟨m0, hns, fun i x v _ h2 _ => (nones_some h2).elim⟩, fun x c e => (I.cell x c (noc x c e)).imp fun v hv => hv.keeps hk, I.hok.fresh (Nat.le_refl _), fun x c e => I.freeC x c (noc x c e), fun p hp => ?_, I.hok.kept hk, List.length_replicate⟩
  · rcases (hfp b hb).1.2.2.2.1 with z | z
    · exact I.ok.noex b o e z
    · exact absurd (Nat.lt_of_lt_of_le (Heap.lt_size e) (Nat.le_trans I.ok.bsz z)) (Nat.lt_irrefl _)
  · rcases List.mem_cons.mp (I.stkSub b z) with e | e
    · exact (hfp b hb).1.2.1 e
    · exact (hfp b hb).1.2.2.1 e
  · have hp' : p ∈ [(s.heap.objs.size + 1, go)] := by simpa using hp
    rw [List.mem_singleton.mp hp']
    exact ⟨hgo, I.hok.fresh (Nat.le_succ _), Nat.succ_ne_self _, stkne _ (Nat.le_succ _), hgd⟩


theorem gen_makeC {c P : Addr} {elt tg iter : Expr} {ifs : List Expr} {gpos : Pos} {scope : Scope} {wi : TI} {k : Nat} {Q' : Value → Shared → Prop} {R : It → Hp → Prop}
    (hr : Room k X.A) (TB : GxR.TabB X.base X.mg c P) (hcode : X.env.code = .ref c) (S : GSf X scope) (hi : PI X tg iter wi) (hs : ∀ v, genFold iter X.env v = pure v) (I : Inv X pins σ H s) (h : wi σ H fun J H1 => GxR.TabG H1 P ∧ R J H1)
    (hQ : ∀ J H1 H2 s4 s5 code fp it tn go g, R J H1 → GxR.Tabbed P H1 H2 → Inv X pins σ H2 s4 → (∀ b ∈ fp, FpOk X pins H2 b ∧ b < s4.heap.objs.size) → Turn X.prog X.w X.K tg J fp it tn → tn 0 s5.heap →
      (∀ A N, A.handled = none → A.frames = some X.stack → Inv (gx X A N s4 H2 (ceC X scope s4.heap.objs.size code) fp [(s4.heap.objs.size + 1, go)]) [] (nones N.length) H2 s5) →
      (∀ h : Heap, h.get? (s4.heap.objs.size + 1) = some go → h.IsGen (s4.heap.objs.size + 1) g) →
      s5.gens[g]? = some (.fresh (.compStart (.GeneratorExp elt [⟨tg, iter, ifs, 0⟩] scope gpos) 0 (.ref it) .none (ceC X scope s4.heap.objs.size code))) → Q' (.ref (s4.heap.objs.size + 1)) s5) :
    wpAny (model X.prog X.w) X.A (eval (.GeneratorExp elt [⟨tg, iter, ifs, 0⟩] scope gpos) X.env) Q' X.xe s := by
  have hcl : closureFor scope X.env = pure (clC X scope) := closure_ok S.free
  refine wpAny_GeneratorExp_make S.co hcl S.own S.dot S.kind (by have := hr.dp; omega) (thn (hi.run pins s σ H _ I h) fun xv s1 hx => thn hx fun itv s2 h2 => ?_) hs
  obtain ⟨it, fp, tn, J, H1, e, I2, T, st2, f2, ⟨ps, hP, ht⟩, q1⟩ := h2
  subst e
  have hPs : s2.heap.get? P = some { cls := .none, data := .fields ps } := I2.hok P _ hP
  have cd : PySem.W.CodeHd s2.heap c P := TB.code.keeps fun b u e => I2.bk b u e
  have nfp : ∀ b ∈ fp, b ≠ P := fun b hb z => by
    have := (f2 b hb).1
    rw [z, hP] at this
    cases this
  have szf : ∀ b ∈ fp, b < s2.heap.objs.size := fun b hb => by
    obtain ⟨o, e, _⟩ := T.obj _ _ st2 b hb
    exact Heap.lt_size e
  have cont : ∀ (code : Value) (h3 : Heap) (tk : Nat) (ps' : Array Value), Heap.ExtBut P s2.heap h3 → s2.heap.objs.size ≤ h3.objs.size → h3.get? P = some { cls := .none, data := .fields ps' } → (∃ more, ps' = ps ++ more) → TriplesOk ps'.toList →
      wpAny (model X.prog X.w) X.A (builtinsFor X.env.globals X.env.builtins) (fun bi s4 =>
        ∀ h', h'.Ns s4.heap.objs.size (fun y => if y = ".0" then some (.ref it) else none) → Heap.SameBut s4.heap.objs.size (s4.heap.push { cls := .type "frame", data := .dict #[] }) h' →
          Q' (.ref h'.objs.size) { s4 with
            gens := s4.gens.push (.fresh (.compStart (.GeneratorExp elt [⟨tg, iter, ifs, 0⟩] scope gpos) 0 (.ref it) .none (genEnv scope (clC X scope) s4.heap.objs.size code bi X.env))),
            toks := s4.toks + 1 + 1 + 1,
            heap := h'.push { cls := .type "generator", data := .fields #[.int s4.gens.size 0, .str "<genexpr>" (s4.toks + 1), .str (X.env.qual ++ "<genexpr>") (s4.toks + 1 + 1)] } }) X.xe { s2 with heap := h3, toks := tk } := by
    intro code h3 tk ps' hx hsz hP3 hmore ht3
    obtain ⟨bm, ob, e1, e2, e3, e4, e5, e6, e7, e8⟩ := TB.bm
    obtain ⟨more, rfl⟩ := hmore
    have I3 : Inv X pins σ (upd H1 P (.tbl (ps ++ more))) { s2 with heap := h3, toks := tk } := GxR.inv_tab (more := more) (g' := s2.gens) (d' := s2.drawn) I2 hP (fun b u hb e => hx b u hb e) hP3 I2.bare
    have tab : GxR.Tabbed P H1 (upd H1 P (.tbl (ps ++ more))) := ⟨⟨_, upd_same, ht3⟩, fun b hb => upd_ne hb⟩
    have st3 : tn 0 h3 := T.keep _ _ _ st2 fun b hb o e => hx b o (nfp b hb) e
    have f3 : ∀ b ∈ fp, FpOk X pins (upd H1 P (.tbl (ps ++ more))) b ∧ b < h3.objs.size := fun b hb =>
      ⟨⟨by rw [upd_ne (nfp b hb)]; exact (f2 b hb).1, (f2 b hb).2⟩, Nat.lt_of_lt_of_le (szf b hb) hsz⟩
    refine wpAny_builtinsFor (m := X.mg) (by rw [I3.ok.glob]; exact I3.mod.glob.keeps I3.bk) e1 e2 (I3.bk _ _ e5) e6 e7 e8 ?_
    intro h' hns hsb
    have hsz' : h'.objs.size = h3.objs.size + 1 := by rw [hsb.1, Heap.size_push]
    have keep' : ∀ b o, h3.get? b = some o → h'.get? b = some o := fun b o e => hsb.extBut b o (Nat.ne_of_lt (Heap.lt_size e)) (Heap.get?_push_of_some _ e)
    have main : ∀ (go : Obj), go.cls = .type "generator" → (∃ nm qn, go.data = .fields #[.int s2.gens.size 0, nm, qn]) → go.slots = #[] → (∀ h : Heap, (h.push go).get? h.objs.size = some go) → ∀ t',
        Q' (.ref h'.objs.size) { s2 with heap := h'.push go, toks := t', gens := s2.gens.push (.fresh (.compStart (.GeneratorExp elt [⟨tg, iter, ifs, 0⟩] scope gpos) 0 (.ref it) .none (genEnv scope (clC X scope) h3.objs.size code builtinsNs X.env))) } := by
      intro go gc ⟨nm, qn, gd⟩ gsl gp t'
      have hgp := gp h'
      rw [hsz'] at hgp ⊢
      have keep5 : ∀ b o, h3.get? b = some o → (h'.push go).get? b = some o := fun b o e => Heap.get?_push_of_some _ (keep' b o e)
      refine hQ J H1 (upd H1 P (.tbl (ps ++ more))) { s2 with heap := h3, toks := tk } _ code fp it tn go s2.gens.size q1 tab I3 f3 T (T.keep _ _ _ st3 fun b _ o e => keep5 b o e) (fun A N hA hf => ?_) (fun h e => ⟨go, nm, qn, e, gc, gd, gsl⟩) (Array.getElem?_push_size ..)
      exact ge_startC (s := { s2 with heap := h3, toks := tk }) I3 S hA hf f3 (I2.bare.push rfl) (hns.push _) keep5 hgp (fun v z => by rw [gd] at z; cases z)
    exact main _ rfl ⟨_, _, rfl⟩ rfl (fun h => Heap.get?_push_size _ rfl) _
  refine ⟨I2.nolimit, ?_⟩
  cases hf : codeAmong gpos ps.toList with
  | none =>
    refine wpAny_genexprCodeX hcode (cd.code hPs ht) (cd.tab hPs) hf fun c' h' tk hx hge hlt hco' _ htab' _ => ?_
    obtain ⟨o1, vs, f1, tf, fl, tg', inF, tx, tt, op, _, _, _, _, _, _, _, _, _, htr, _⟩ := hco'
    exact cont _ h' tk _ hx (Nat.le_trans hge (Nat.le_of_lt hlt)) htab'.2 ⟨_, rfl⟩ htr
  | some cv =>
    refine wpAny_genexprCode_hit hcode (cd.code hPs ht) hf ?_
    exact cont cv s2.heap s2.toks ps (Heap.ExtBut.refl _ _) (Nat.le_refl _) hPs ⟨#[], by simp⟩ ht



theorem pe_allC {N : List Str} {c P : Addr} {elt tg iter : Expr} {ifs : List Expr} {p pos gpos : Pos} {scope : Scope} {wi : TI} {g : TG} {tt : TT} {te : TE} {k : Nat}
    (hr : Room (k + 1) X.A) (hgl : Gl X "all") (hm : X.mg "all" = none) (TB : GxR.TabB X.base X.mg c P) (hcode : X.env.code = .ref c) (S : GSf X scope) (hi : PI X tg iter wi)
    (hg : ∀ (A : Around) (s : Shared) (H : Hp) (C : Addr) (code : Value) (fp : List Addr) (pn : List (Addr × Obj)), Room k (A.deeper (ceC X scope C code)) → PG (gx X A N s H (ceC X scope C code) fp pn) tg g)
    (ht : ∀ (A : Around) (s : Shared) (H : Hp) (C : Addr) (code : Value) (fp : List Addr) (pn : List (Addr × Obj)), Room k (A.deeper (ceC X scope C code)) → PTs (gx X A N s H (ceC X scope C code) fp pn) ifs tt)
    (he : ∀ (A : Around) (s : Shared) (H : Hp) (C : Addr) (code : Value) (fp : List Addr) (pn : List (Addr × Obj)), Room k (A.deeper (ceC X scope C code)) → PE (gx X A N s H (ceC X scope C code) fp pn) elt te)
    (hs : ∀ v, genFold iter X.env v = pure v := by intro _; rfl)
    (hb : bootBuiltins "all" = some (.builtin "all") := by decide +kernel)
    (hst : starEach [.GeneratorExp elt [⟨tg, iter, ifs, 0⟩] scope gpos] X.env = (false, eval (.GeneratorExp elt [⟨tg, iter, ifs, 0⟩] scope gpos) X.env) :: starEach [] X.env := by rfl) :
    PE X (.Call (.Name "all" p) [.GeneratorExp elt [⟨tg, iter, ifs, 0⟩] scope gpos] [] pos) (tGen P N.length wi g tt te outAll true) := by
  refine ⟨fun pins s σ H Q I h => ?_⟩
  refine wpAny_Call_Name_kw (ld_blt I hgl hm hb ?_)
  refine PyProof.Rows.callWith_builtin1 ?_ hst (by rfl)
  rw [hst]
  show wpAny _ _ (spliced ((false, eval (.GeneratorExp elt [⟨tg, iter, ifs, 0⟩] scope gpos) X.env) :: backTo pos (starEach [] X.env))) _ _ s
  refine Calls.spliced_cons (gen_makeC hr TB hcode S hi hs I h fun J H1 H2 s4 s5 code fp it tn go gn hR tab I4 f4 T st5 mk hgo hgs => ?_)
  refine Calls.spliced_nil ?_
  obtain ⟨W, ⟨m0, w0⟩, turn⟩ := hR H2 tab
  have rY := room3 hr (ceC X scope s4.heap.objs.size code)
  have I5 := mk X.A.in1.in1 N hr.hd I.ok.frames
  generalize hpn : [(s4.heap.objs.size + 1, go)] = pn at I5
  have hpm : (s4.heap.objs.size + 1, go) ∈ pn := by rw [← hpn]; exact List.mem_singleton.mpr rfl
  have hpf : ∀ p ∈ pn, p.1 ∉ fp := fun p hp z => by
    rw [← hpn] at hp
    rw [List.mem_singleton.mp hp] at z
    exact absurd (f4 _ z).2 (Nat.not_lt.mpr (Nat.le_succ _))
  have gi0 : GI (gx X X.A.in1.in1 N s4 H2 (ceC X scope s4.heap.objs.size code) fp pn) conU fp tn () 0 H2 s5 := ⟨I5, trivial, st5, fun b hb => (f4 b hb).1.1⟩
  have isg := hgo _ (I5.pin _ (List.mem_append_left _ hpm)).1
  refine call_function_tree F.kind_all F.plain_all F.entry_all (F.args_all1 _) ?_
  unfold Builtin.«all»
  refine wpAny_bind (m := oneArg "all" _) (wpAny_pure ?_)
  refine wpAny_bind (wpAny_pyIter_gen isg ?_)
  refine wpAny_pure ⟨plainId_quiet F.plain_all_loop _, ?_⟩
  refine all_loop (Y := gx X X.A.in1.in1 N s4 H2 (ceC X scope s4.heap.objs.size code) fp pn) (A := X.A) (g := gn) (QB := fun b H => Q (.bl b) H) hr.hd hr.depth hpm hgo (fun b s' H' I' q => ?_) (m0 + 1) 0 H2 (fun a H => W a 0 m0 H) s5 _ hgs gi0 w0 (fun a' s'' gi' w' => ?_)
  · exact ⟨.bl b, H', ge_back I4 f4 I', rfl, q⟩
  · exact ⟨rfl, seg_start (Y := gx X X.A.in1.in1 N s4 H2 (ceC X scope s4.heap.objs.size code) fp pn) conU_ok rfl T (hg _ _ _ _ _ _ _ rY) (ht _ _ _ _ _ _ _ rY) (he _ _ _ _ _ _ _ rY) rfl (fun b hb => hb) (fun b hb => nomatch hb) hpf rfl S.co turn m0 a' (m0 + 1) H2 s'' (Nat.lt_succ_self _) w' gi'⟩
end
end GE
set_option Elab.async false
set_option linter.all false
set_option maxRecDepth 100000
set_option maxHeartbeats 1000000
namespace GV
open PySem PySem.Spec PyProof.Rows L2 GenW GE
open Sem (wp)
/-! ### a generator expression that reads names of the def around it: ζ holds their values -/
def Keeps (ζ σ : L2.St) : Prop := ∀ (j : Nat) (v : V), ζ[j]? = some (some v) → σ[j]? = some (some v)
section
variable {α : Type}
def GI (ζ : L2.St) (Y : Cx) (C : Con α) (fpI : List Addr) (tn : Nat → Heap → Prop) (a : α) (i : Nat) (H : Hp) (s : Shared) : Prop :=
  Inv Y (pinsAt C.fp s.heap) (ζ) H s ∧ C.at_ a s.heap ∧ tn i s.heap ∧ ∀ b ∈ fpI, H b = none
def GP (ζ : L2.St) (Y : Cx) (C : Con α) (fpI : List Addr) (tn : Nat → Heap → Prop) (Out : α → V → Hp → (α → Hp → Prop) → Prop) : Protocol := fun _ s₀ v s kap =>
  ∃ a i H y Nx, RelV y v ∧ GI ζ Y C fpI tn a i H s ∧ Out a y H Nx ∧ (∀ b ∈ C.fp, ∀ o, s₀.heap.get? b = some o → s.heap.get? b = some o) ∧ ∀ a' s'', GI ζ Y C fpI tn a' i H s'' → Nx a' H → kap (.send .none) s''
def GF (ζ : L2.St) (Y : Cx) (C : Con α) (Fin : α → Hp → Prop) : Nat → Shared → Shared → Prop := fun _ s₀ s₁ =>
  ∃ a H, Inv Y (pinsAt C.fp s₁.heap) (ζ) H s₁ ∧ C.at_ a s₁.heap ∧ (∀ b ∈ C.fp, ∀ o, s₀.heap.get? b = some o → s₁.heap.get? b = some o) ∧ Fin a H
abbrev GRr (ζ : L2.St) (Y : Cx) (C : Con α) (Fin : α → Hp → Prop) : GenEnd := fun n s₀ r s₁ => r = .ok .next ∧ GF ζ Y C Fin n s₀ s₁
def TurnV (J : It) (ζ : L2.St) (g : TG) (tt : TT) (te : TE) (Out : α → V → Hp → (α → Hp → Prop) → Prop) (Fin : α → Hp → Prop) (W : α → Nat → Nat → Hp → Prop) : Prop :=
  ∀ a i m H, W a i m H → (J.stop i H ∧ Fin a H) ∨ (J.go i H ∧ ∃ Nx : α → Hp → Prop, (∀ a' H', Nx a' H' → ∃ m', m' < m ∧ W a' (i + 1) m' H') ∧
    ∀ x H', J.yld i H x H' → g x ζ H' fun σ2 H2 => Keeps ζ σ2 ∧ tt σ2 H2 fun b H3 => if b = true then te σ2 H3 fun y H4 => Out a y H4 Nx else Nx a H3)

section
variable {ζ : L2.St} {Y : Cx} {C : Con α} {tg elt iter : Expr} {ifs : List Expr} {scope : Scope} {pos : Pos} {J : It} {fpI : List Addr} {it : Addr} {tn : Nat → Heap → Prop} {g : TG} {tt : TT} {te : TE}
  {Out : α → V → Hp → (α → Hp → Prop) → Prop} {Fin : α → Hp → Prop} {W : α → Nat → Nat → Hp → Prop} {A : Around}
/-- the loop of a generator expression -/
theorem seg_loop (CO : ConOk C) (hcalm : Y.calm = true) (T : Turn Y.prog Y.w Y.K tg J fpI it tn) (hg : PG Y tg g) (ht : PTs Y ifs tt) (he : PE Y elt te) (hA : A.deeper Y.env = Y.A)
    (hex : ∀ b ∈ fpI, b ∈ Y.ex) (hdis : ∀ b ∈ C.fp, b ∉ fpI) (hpn : ∀ p ∈ Y.pn, p.1 ∉ fpI) (hxe : Y.xe = fun _ _ => False) (hco : Y.env.scope.isCoroutine = false) (hz : ζ.length = Y.N.length) (turn : TurnV J ζ g tt te Out Fin W) :
    ∀ (m : Nat) (a : α) (i n : Nat) (H : Hp) (s₀ s : Shared), m < n → W a i m H → GI ζ Y C fpI tn a i H s → (∀ b ∈ C.fp, ∀ o, s₀.heap.get? b = some o → s.heap.get? b = some o) →
      Seg (model Y.prog Y.w) A (GRr ζ Y C Fin) (GP ζ Y C fpI tn Out) n s₀ (.compLoop (.GeneratorExp elt [⟨tg, iter, ifs, 0⟩] scope pos) 0 (.ref it) .none Y.env)
        ((model Y.prog Y.w).den (.compLoop (.GeneratorExp elt [⟨tg, iter, ifs, 0⟩] scope pos) 0 (.ref it) .none Y.env)) [] s := by
  have ov : A.over (.compLoop (.GeneratorExp elt [⟨tg, iter, ifs, 0⟩] scope pos) 0 (.ref it) .none Y.env) [] = Y.A := over_loopG.trans hA
  have stat : ∀ {pins : List (Addr × Obj)} {σ' : L2.St} {H' : Hp} {s' : Shared}, Inv Y pins σ' H' s' → (∀ p ∈ pins, p.1 ∉ fpI) → (∀ b ∈ fpI, H' b = none) → ∀ b ∈ fpI, FpOk Y pins H' b := fun {pins σ' H' s'} I' hp hn b hb =>
    ⟨hn b hb, (I'.ok.exf b (hex b hb)).1, I'.ok.exfs b (hex b hb), .inl (hex b hb), fun x c e => (I'.ok.exf b (hex b hb)).2 x c e, fun p hp' z => (List.mem_append.mp hp').elim (fun q => hpn p q (z ▸ hb)) fun q => hp p q (z ▸ hb)⟩
  have pinN : ∀ h : Heap, ∀ p ∈ pinsAt C.fp h, p.1 ∉ fpI := fun h p hp => hdis p.1 (of_pinsAt hp).1
  intro m
  induction m using Nat.strongRecOn with
  | ind m ih =>
    intro a i n H s₀ s hmn hw hGI since
    obtain ⟨I, hat, st, hn0⟩ := hGI
    show Seg _ A _ _ n s₀ _ ((compTurn (.GeneratorExp elt [⟨tg, iter, ifs, 0⟩] scope pos) 0 (.ref it) .none Y.env).onRaise (leaving Y.env)) [] s
    rw [compTurn_gen, Sem.onRaise_eq_wrap]
    refine seg_bind_wrap (wpAny_standAt ?_)
    have sf := stat I (pinN s.heap) hn0
    rcases turn a i m H hw with ⟨stop, fin⟩ | ⟨go, Nx, hNx, step⟩
    · refine seg_bind_wrap ?_
      rw [ov]
      refine thnF (T.done Y rfl rfl rfl hcalm i _ s _ H (fun _ _ => False) I sf st stop) fun r s1 ⟨hr, I1⟩ => ?_
      subst hr
      have hk : ∀ b ∈ C.fp, ∀ o, s.heap.get? b = some o → s1.heap.get? b = some o := fun b hb o e => (I1.pin (b, o) (List.mem_append_right _ (mem_pinsAt hb e))).1
      refine seg_end (.ok .next) ⟨rfl, a, H, I1.pins_of fun p hp => ?_, CO.keep _ _ _ hat hk, fun b hb o e => hk b hb o (since b hb o e), fin⟩
      obtain ⟨hb, e⟩ := of_pinsAt hp
      obtain ⟨o, e2, _⟩ := CO.obj _ _ hat p.1 hb
      have e3 := hk p.1 hb o e2
      rw [e] at e3
      cases e3
      exact I1.pin (p.1, p.2) (List.mem_append_right _ (mem_pinsAt hb e2))
    · refine seg_bind_wrap ?_
      rw [ov]
      refine thnF (T.item Y rfl rfl rfl hcalm i _ s _ H (fun _ _ => False) I sf st go) fun r s1 ⟨u, hr, h1⟩ => ?_
      subst hr
      refine seg_bind_wrap ?_
      rw [ov]
      refine thnF h1 fun _ s2 ⟨x, H2, I2, r2, y2, st2, n2⟩ => ?_
      have I2' := I2.pinned (stat I2 (pinN s.heap) n2) (T.obj _ _ st2)
      refine seg_bind_wrap ?_
      rw [ov]
      have xf : ∀ {β : Type} {t : Sem β} {P P' : β → Shared → Prop} {E' : Value → Shared → Prop} {z : Shared}, wpAny (model Y.prog Y.w) Y.A t P Y.xe z → (∀ a s, P a s → P' a s) → wpAny (model Y.prog Y.w) Y.A t P' E' z := fun {β t P P' E' z} q hq => by
        rw [hxe] at q
        exact thnF q hq
      refine xf (hg.run _ s2 _ H2 x u _ I2' r2 (step x H2 y2)) fun _ s3 ⟨σ3, H3, I3, kz, q3⟩ => ?_
      refine seg_bind_wrap ?_
      rw [ov]
      refine xf (ht.run _ s3 σ3 H3 _ I3 q3) fun ok s4 ⟨H4, I4, q4⟩ => ?_
      -- what stands at a turn's end
      have fin : ∀ {s' : Shared} {H' : Hp}, Inv Y (pinsAt C.fp s.heap ++ pinsAt fpI s2.heap) σ3 H' s' →
          GI ζ Y C fpI tn a (i + 1) H' s' ∧ ∀ b ∈ C.fp, ∀ o, s₀.heap.get? b = some o → s'.heap.get? b = some o := fun {s' H'} I' => by
        have hk : ∀ b ∈ C.fp, ∀ o, s.heap.get? b = some o → s'.heap.get? b = some o := fun b hb o e => (I'.pin (b, o) (List.mem_append_right _ (List.mem_append_left _ (mem_pinsAt hb e)))).1
        have pin' : ∀ b ∈ fpI, ∀ o, s2.heap.get? b = some o → s'.heap.get? b = some o ∧ H' b = none := fun b hb o e =>
          let z := I'.pin (b, o) (List.mem_append_right _ (List.mem_append_right _ (mem_pinsAt hb e)))
          ⟨z.1, z.2.1⟩
        have I1 : Inv Y (pinsAt C.fp s'.heap) σ3 H' s' := I'.pins_of fun p hp => by
          obtain ⟨hb, e⟩ := of_pinsAt hp
          obtain ⟨o, e2, _⟩ := CO.obj _ _ hat p.1 hb
          have e3 := hk p.1 hb o e2
          rw [e] at e3
          cases e3
          exact I'.pin (p.1, p.2) (List.mem_append_right _ (List.mem_append_left _ (mem_pinsAt hb e2)))
        refine ⟨⟨I1.weak (by rw [I1.len, hz]) kz, CO.keep _ _ _ hat hk, T.keep _ _ _ st2 fun b hb o e => (pin' b hb o e).1, fun b hb => ?_⟩, fun b hb o e => hk b hb o (since b hb o e)⟩
        obtain ⟨o, e, _⟩ := T.obj _ _ st2 b hb
        exact (pin' b hb o e).2
      cases ok with
      | false =>
        simp only [Bool.false_eq_true, if_false] at q4 ⊢
        obtain ⟨f1, f2⟩ := fin I4
        obtain ⟨m', hm', w'⟩ := hNx a H4 q4
        exact seg_again rfl (ih m' hm' a (i + 1) n H4 s₀ s4 (by omega) w' f1 f2)
      | true =>
        simp only [if_true] at q4 ⊢
        obtain ⟨n', rfl⟩ : ∃ n', n = n' + 1 := ⟨n - 1, by omega⟩
        have hy : ∀ v, yieldOut Y.env v = yieldValue v := fun v => by simp only [yieldOut, hco, Bool.false_eq_true, if_false]
        simp only [hy]
        rw [Sem.bind_eq_wrap', Sem.bind_eq_wrap', Sem.wrap_wrap, Sem.wrap_wrap]
        refine seg_wrap ?_
        rw [ov]
        refine xf (he.run _ s4 σ3 H4 _ I4 q4) fun y s5 ⟨yv, H5, I5, r5, o5⟩ => ?_
        obtain ⟨f1, f2⟩ := fin I5
        refine seg_at (seg_yield rfl rfl rfl ⟨a, i + 1, H5, yv, Nx, r5, f1, o5, f2, fun a' s'' hGI' hN' => ?_⟩)
        obtain ⟨m', hm', w'⟩ := hNx a' H5 hN'
        exact seg_again rfl (ih m' hm' a' (i + 1) n' H5 s'' s'' (by omega) w' hGI' fun _ _ _ e => e)

/-- .. and its start -/
theorem seg_start (CO : ConOk C) (hcalm : Y.calm = true) (T : Turn Y.prog Y.w Y.K tg J fpI it tn) (hg : PG Y tg g) (ht : PTs Y ifs tt) (he : PE Y elt te) (hA : A.deeper Y.env = Y.A)
    (hex : ∀ b ∈ fpI, b ∈ Y.ex) (hdis : ∀ b ∈ C.fp, b ∉ fpI) (hpn : ∀ p ∈ Y.pn, p.1 ∉ fpI) (hxe : Y.xe = fun _ _ => False) (hco : Y.env.scope.isCoroutine = false) (hz : ζ.length = Y.N.length) (turn : TurnV J ζ g tt te Out Fin W)
    (m : Nat) (a : α) (n : Nat) (H : Hp) (s : Shared) (hm : m < n) (hw : W a 0 m H) (hGI : GI ζ Y C fpI tn a 0 H s) :
      Seg (model Y.prog Y.w) A (GRr ζ Y C Fin) (GP ζ Y C fpI tn Out) n s (.compStart (.GeneratorExp elt [⟨tg, iter, ifs, 0⟩] scope pos) 0 (.ref it) .none Y.env)
        ((model Y.prog Y.w).den (.compStart (.GeneratorExp elt [⟨tg, iter, ifs, 0⟩] scope pos) 0 (.ref it) .none Y.env)) [] s := by
  have loop := seg_loop (iter := iter) (scope := scope) (pos := pos) CO hcalm T hg ht he hA hex hdis hpn hxe hco hz turn m a 0 n H s s hm hw hGI fun _ _ _ e => e
  show Seg _ A _ _ _ s _ ((compStart (.GeneratorExp elt [⟨tg, iter, ifs, 0⟩] scope pos) 0 (.ref it) .none Y.env).onRaise (leaving Y.env)) [] s
  unfold compStart
  rw [Sem.onRaise_eq_wrap]
  show Seg _ A _ _ _ s _ ((ask >>= _).wrap _ _ _ _) [] s
  refine seg_bind_wrap (wpAny_askSetting ?_)
  split
  · exact seg_again rfl loop
  · first
      | exact seg_bind_wrap (wpAny_rule (seg_bind_wrap (wpAny_standAt (seg_bind_wrap (T.self _ 0 s _ _ hGI.2.2.1 (seg_again rfl loop))))))
      | (refine seg_bind_wrap (wpAny_rule ?_); show Seg _ A _ _ _ s _ ((standAt iter.pos >>= _).wrap _ _ _ _) [] s; exact seg_bind_wrap (wpAny_standAt (seg_bind_wrap (T.self _ 0 s _ _ hGI.2.2.1 (seg_again rfl loop)))))

/-- one item of such a generator -/
theorem next_ge {A : Around} {ga : Addr} {go : Obj} {g i n : Nat} {gs : GenState} {a : α} {H : Hp} {Nx : α → Hp → Prop} {s : Shared} {Q : Option Value → Shared → Prop} {E : Value → Shared → Prop}
    (CO : ConOk C) (hh : A.handled = none) (hd : A.depth < recursionLimit) (hpn : (ga, go) ∈ Y.pn) (hgo : ∀ h : Heap, h.get? ga = some go → h.IsGen ga g) (hgs : s.gens[g]? = some gs)
    (gi : GI ζ Y C fpI tn a i H s) (hN : Nx a H)
    (goes : ∀ a' s'', GI ζ Y C fpI tn a' i H s'' → Nx a' H → gs.Goes (model Y.prog Y.w) A.in1 (GRr ζ Y C Fin) (GP ζ Y C fpI tn Out) n (.send .none) s'')
    (hsome : ∀ i1 H1 y v Nx1 s1 gs1, RelV y v → GI ζ Y C fpI tn a i1 H1 s1 → Out a y H1 Nx1 → s1.gens[g]? = some gs1 →
      GoOn (model Y.prog Y.w) A.in1 (GRr ζ Y C Fin) (GP ζ Y C fpI tn Out) (fun a' s'' => GI ζ Y C fpI tn a' i1 H1 s'') (fun a' => Nx1 a' H1) gs1 n → Q (some v) s1)
    (hnone : ∀ H1 s1, Inv Y (pinsAt C.fp s1.heap) (ζ) H1 s1 → C.at_ a s1.heap → Fin a H1 → Q none s1) :
    wpAny (model Y.prog Y.w) A (pyNext (.ref ga)) Q E s := by
  obtain ⟨I, hat, st, hn0⟩ := id gi
  have hlt : g < s.gens.size := by
    rcases Nat.lt_or_ge g s.gens.size with h' | h'
    · exact h'
    · rw [Array.getElem?_eq_none h'] at hgs; cases hgs
  refine wpAny_gsz (n := g + 1) hlt ?_
  have gi' : GI ζ Y C fpI tn a i H (s.setGen g .running) := ⟨Inv.gensG I (bare_setGen I.bare rfl), hat, st, hn0⟩
  have hig : s.heap.IsGen ga g := hgo _ (I.pin (ga, go) (List.mem_append_left _ hpn)).1
  refine wpAny_pyNext_genexpQ (P := GF ζ Y C Fin) (Y := GP ζ Y C fpI tn Out) hh I.nolimit hd hig hgs (goes a _ gi' hN) (fun v s1 gs1 hb hv => ?_) (fun s1 hp h' hk => ?_)
  · obtain ⟨a1, i1, H1, y, Nx1, rv, gi1, o1, since, kap⟩ := hv
    have hat1 : C.at_ a s1.heap := CO.keep _ _ _ hat since
    have ea : a1 = a := CO.inj _ _ _ gi1.2.1 hat1
    subst ea
    intro hsz
    have hlt1 : g < s1.gens.size := by
      rw [setGen_size] at hsz
      exact hsz
    have gi2 : GI ζ Y C fpI tn a1 i1 H1 (s1.setGen g gs1) := ⟨Inv.gensG gi1.1 (bare_setGen gi1.1.bare hb), gi1.2.1, gi1.2.2.1, gi1.2.2.2⟩
    refine hsome i1 H1 y v Nx1 _ gs1 rv gi2 o1 (by simp [Shared.setGen, hlt1]) ?_
    cases n with
    | zero => exact fun a' s'' q1 q2 => kap a' s'' q1 q2
    | succ n1 => exact fun a' s'' q1 q2 => kap a' s'' q1 q2
  · obtain ⟨a1, H1, I1, hat1, since, fin⟩ := hp
    have ea : a1 = a := CO.inj _ _ _ hat1 (CO.keep _ _ _ hat since)
    subst ea
    intro _
    have I2 : Inv Y (pinsAt C.fp s1.heap) (ζ) H1 { s1.setGen g .finished with heap := h' } := (Inv.gensG I1 (bare_setGen (x := .finished) (g := g) I1.bare rfl)).kept (t' := s1.toks) hk
    exact hnone H1 _ (GE.repin CO hat1 I2 fun b _ o e => hk b o e) (CO.keep _ _ _ hat1 fun b _ o e => hk b o e) fin
end
end

section
variable {ζ : L2.St} {Y : Cx} {fpI : List Addr} {tn : Nat → Heap → Prop}
theorem all_loop {A : Around} {ga : Addr} {go : Obj} {g : Nat} {QB : Bool → Hp → Prop} {R : Result → Shared → Prop} (hh : A.handled = none) (hd : A.depth < recursionLimit) (hpn : (ga, go) ∈ Y.pn) (hgo : ∀ h : Heap, h.get? ga = some go → h.IsGen ga g)
    (hR : ∀ b s' H', Inv Y [] (ζ) H' s' → QB b H' → R (.ok (.ret (.bool b))) s') :
    ∀ (n i : Nat) (H : Hp) (Nx : Unit → Hp → Prop) (s : Shared) (gs : GenState), s.gens[g]? = some gs → GI ζ Y conU fpI tn () i H s → Nx () H →
      (∀ a' s'', GI ζ Y conU fpI tn a' i H s'' → Nx a' H → gs.Goes (model Y.prog Y.w) A.in1.in1 (GRr ζ Y conU fun _ H => QB true H) (GP ζ Y conU fpI tn (outAll QB)) n (.send .none) s'') →
      codeAny (model Y.prog Y.w) A (.builtin "all.loop" ⟨[.ref ga], []⟩) R s := by
  intro n
  induction n with
  | zero =>
    intro i H Nx s gs hgs gi hN goes
    refine codeAny_builtin F.entry_all_loop ?_
    rw [Around.under_plainId F.plain_all_loop _]
    show wpAny _ A.in1 (pyNext (.ref ga) >>= _) _ _ s
    refine wpAny_bind (next_ge (A := A.in1) conU_ok hh hd hpn hgo hgs gi hN goes (fun i1 H1 y v Nx1 s1 gs1 rv gi1 o1 hg1 go1 => ?_) (fun H1 s1 I1 _ fin => ?_))
    · obtain ⟨c, rfl, hc⟩ := o1
      cases (show v = Value.bool c from rv)
      refine wpAny_bind (wpAny_holding (wpAny_truthy_bool ?_))
      refine wpAny_bind (wpAny_letGo ?_)
      cases c with
      | true => exact (go1 () s1 gi1 hc).elim
      | false =>
        simp only [Bool.false_eq_true, if_false]
        exact wpAny_bind (wpAny_rule (wpAny_pure (hR false s1 H1 gi1.1 hc)))
    · exact wpAny_bind (wpAny_rule (wpAny_pure (hR true s1 H1 I1 fin)))
  | succ n ih =>
    intro i H Nx s gs hgs gi hN goes
    refine codeAny_builtin F.entry_all_loop ?_
    rw [Around.under_plainId F.plain_all_loop _]
    show wpAny _ A.in1 (pyNext (.ref ga) >>= _) _ _ s
    refine wpAny_bind (next_ge (A := A.in1) conU_ok hh hd hpn hgo hgs gi hN goes (fun i1 H1 y v Nx1 s1 gs1 rv gi1 o1 hg1 go1 => ?_) (fun H1 s1 I1 _ fin => ?_))
    · obtain ⟨c, rfl, hc⟩ := o1
      cases (show v = Value.bool c from rv)
      refine wpAny_bind (wpAny_holding (wpAny_truthy_bool ?_))
      refine wpAny_bind (wpAny_letGo ?_)
      cases c with
      | true =>
        simp only [if_true]
        exact wpAny_pure ⟨plainId_quiet F.plain_all_loop _, ih i1 H1 Nx1 s1 gs1 hg1 gi1 hc go1⟩
      | false =>
        simp only [Bool.false_eq_true, if_false]
        exact wpAny_bind (wpAny_rule (wpAny_pure (hR false s1 H1 gi1.1 hc)))
    · exact wpAny_bind (wpAny_rule (wpAny_pure (hR true s1 H1 I1 fin)))
end
section
variable {X : Cx} {pins : List (Addr × Obj)} {σ : L2.St} {H : Hp} {s : Shared}

/-- what is read in it of the def's own names -/
structure Capt (X : Cx) (scope : Scope) (N : List Str) (caps : List (Option Nat)) : Prop where
  len : caps.length = N.length
  at_ : ∀ (i k : Nat), caps[i]? = some (some k) → ∃ (x : Str) (c : Addr), N[i]? = some x ∧ X.N[k]? = some x ∧ scope.names.lookup x = some .free ∧ (X.env.kindOf x = some .cell ∨ X.env.kindOf x = some .free) ∧ X.env.cells.lookup x = some c ∧ (clC X scope).lookup x = some c
def zet (caps : List (Option Nat)) (σ : L2.St) : L2.St := caps.map fun o => o.bind fun k => (σ[k]?).join
theorem zet_at {caps : List (Option Nat)} {σ : L2.St} {i : Nat} {v : V} (h : (zet caps σ)[i]? = some (some v)) : ∃ k, caps[i]? = some (some k) ∧ σ[k]? = some (some v) := by
  unfold zet at h
  rw [List.getElem?_map] at h
  cases e : caps[i]? with
  | none => rw [e] at h; cases h
  | some o =>
    rw [e] at h
    cases o with
    | none => simp at h
    | some k =>
      refine ⟨k, rfl, ?_⟩
      simp at h
      cases e2 : σ[k]? with
      | none => rw [e2] at h; simp at h
      | some w => rw [e2] at h; simp at h; rw [h]
theorem ge_startV {caps : List (Option Nat)} {A : Around} {N : List Str} {scope : Scope} {code : Value} {fp : List Addr} {go : Obj} {G : Array GenState} {tk : Nat} {h5 : Heap} {m0 : Str → Option Value} (I : Inv X pins σ H s) (S : GSf X scope) (cp : Capt X scope N caps) (hA : A.handled = none) (hf : A.frames = some X.stack)
    (hfp : ∀ b ∈ fp, FpOk X pins H b ∧ b < s.heap.objs.size) (hG : AllBare G) (hns : h5.Ns s.heap.objs.size m0) (hk : ∀ b o, s.heap.get? b = some o → h5.get? b = some o) (hgo : h5.get? (s.heap.objs.size + 1) = some go) (hgd : ∀ v, go.data ≠ .cell v) :
    Inv (gx X A N s H (ceC X scope s.heap.objs.size code) fp [(s.heap.objs.size + 1, go)]) [] (zet caps σ) H { s with gens := G, toks := tk, heap := h5 } := by
  have noc : ∀ x c, (ceC X scope s.heap.objs.size code).cells.lookup x = some c → X.env.cells.lookup x = some c := fun x c e => S.cl_of e
  have stkne : ∀ b, s.heap.objs.size ≤ b → b ∉ frs X.stack := fun b hb z => by
    rcases List.mem_cons.mp (I.stkSub b z) with e | e
    · exact absurd (Nat.lt_of_lt_of_le I.lt (by rw [← e]; exact hb)) (Nat.lt_irrefl _)
    · exact I.nofs hb e
  refine ⟨⟨I.ok.mod, S.kind, I.ok.glob, rfl, Nat.le_refl _, fun x y c h1 h2 => I.ok.inj x y c (noc x c h1) (noc y c h2), fun x hx => S.has hx, fun x c h _ => (by cases h), fun _ => hA, Around.frames_deeper hf, .inr ⟨rfl, rfl⟩, fun b hb => ⟨Nat.ne_of_lt (hfp b hb).2, fun x c e => ((hfp b hb).1.2.2.2.2.1 x c (noc x c e))⟩,
    I.bs, Nat.le_trans I.ok.bsz I.sz, fun b o e hb => ?_, fun b hb z => ?_, I.stack, I.stkFree⟩, rfl, hG, Un.kept hk, ⟨m0, hns, fun i x v h1 h2 _ => by
      obtain ⟨k, hk1, hk2⟩ := zet_at h2
      obtain ⟨x', c, e1, e2, e3, e4, e5, e6⟩ := cp.at_ i k hk1
      have e1' := e1.symm.trans h1
      cases e1'
      obtain ⟨m1, _, look⟩ := I.loc
      obtain ⟨u, ru, lk⟩ := look k x v e2 hk2 (e4.elim (fun z => .inr (.inl z)) fun z => .inr (.inr z))
      refine ⟨u, ru, .inr ⟨.inr e3, c, e6, ?_⟩⟩
      rcases lk with ⟨z, _⟩ | ⟨_, c', z1, z2⟩
      · rcases e4 with y | y <;> (rw [y] at z; cases z)
      · rw [e5] at z1
        cases z1
        exact z2.keeps hk⟩, fun x c e => (I.cell x c (noc x c e)).imp fun v hv => hv.keeps hk, I.hok.fresh (Nat.le_refl _), fun x c e => I.freeC x c (noc x c e), fun p hp => ?_, I.hok.kept hk, by show (zet caps σ).length = N.length; unfold zet; rw [List.length_map]; exact cp.len⟩
  · rcases (hfp b hb).1.2.2.2.1 with z | z
    · exact I.ok.noex b o e z
    · exact absurd (Nat.lt_of_lt_of_le (Heap.lt_size e) (Nat.le_trans I.ok.bsz z)) (Nat.lt_irrefl _)
  · rcases List.mem_cons.mp (I.stkSub b z) with e | e
    · exact (hfp b hb).1.2.1 e
    · exact (hfp b hb).1.2.2.1 e
  · have hp' : p ∈ [(s.heap.objs.size + 1, go)] := by simpa using hp
    rw [List.mem_singleton.mp hp']
    exact ⟨hgo, I.hok.fresh (Nat.le_succ _), Nat.succ_ne_self _, stkne _ (Nat.le_succ _), hgd⟩


theorem gen_makeV {caps : List (Option Nat)} {N : List Str} {c P : Addr} {elt tg iter : Expr} {ifs : List Expr} {gpos : Pos} {scope : Scope} {wi : TI} {k : Nat} {Q' : Value → Shared → Prop} {R : It → Hp → Prop}
    (hr : Room k X.A) (TB : GxR.TabB X.base X.mg c P) (hcode : X.env.code = .ref c) (S : GSf X scope) (cp : Capt X scope N caps) (hi : PI X tg iter wi) (hs : ∀ v, genFold iter X.env v = pure v) (I : Inv X pins σ H s) (h : wi σ H fun J H1 => GxR.TabG H1 P ∧ R J H1)
    (hQ : ∀ J H1 H2 s4 s5 code fp it tn go g, R J H1 → GxR.Tabbed P H1 H2 → Inv X pins σ H2 s4 → (∀ b ∈ fp, FpOk X pins H2 b ∧ b < s4.heap.objs.size) → Turn X.prog X.w X.K tg J fp it tn → tn 0 s5.heap →
      (∀ A, A.handled = none → A.frames = some X.stack → Inv (gx X A N s4 H2 (ceC X scope s4.heap.objs.size code) fp [(s4.heap.objs.size + 1, go)]) [] (zet caps σ) H2 s5) →
      (∀ h : Heap, h.get? (s4.heap.objs.size + 1) = some go → h.IsGen (s4.heap.objs.size + 1) g) →
      s5.gens[g]? = some (.fresh (.compStart (.GeneratorExp elt [⟨tg, iter, ifs, 0⟩] scope gpos) 0 (.ref it) .none (ceC X scope s4.heap.objs.size code))) → Q' (.ref (s4.heap.objs.size + 1)) s5) :
    wpAny (model X.prog X.w) X.A (eval (.GeneratorExp elt [⟨tg, iter, ifs, 0⟩] scope gpos) X.env) Q' X.xe s := by
  have hcl : closureFor scope X.env = pure (clC X scope) := closure_ok S.free
  refine wpAny_GeneratorExp_make S.co hcl S.own S.dot S.kind (by have := hr.dp; omega) (thn (hi.run pins s σ H _ I h) fun xv s1 hx => thn hx fun itv s2 h2 => ?_) hs
  obtain ⟨it, fp, tn, J, H1, e, I2, T, st2, f2, ⟨ps, hP, ht⟩, q1⟩ := h2
  subst e
  have hPs : s2.heap.get? P = some { cls := .none, data := .fields ps } := I2.hok P _ hP
  have cd : PySem.W.CodeHd s2.heap c P := TB.code.keeps fun b u e => I2.bk b u e
  have nfp : ∀ b ∈ fp, b ≠ P := fun b hb z => by
    have := (f2 b hb).1
    rw [z, hP] at this
    cases this
  have szf : ∀ b ∈ fp, b < s2.heap.objs.size := fun b hb => by
    obtain ⟨o, e, _⟩ := T.obj _ _ st2 b hb
    exact Heap.lt_size e
  have cont : ∀ (code : Value) (h3 : Heap) (tk : Nat) (ps' : Array Value), Heap.ExtBut P s2.heap h3 → s2.heap.objs.size ≤ h3.objs.size → h3.get? P = some { cls := .none, data := .fields ps' } → (∃ more, ps' = ps ++ more) → TriplesOk ps'.toList →
      wpAny (model X.prog X.w) X.A (builtinsFor X.env.globals X.env.builtins) (fun bi s4 =>
        ∀ h', h'.Ns s4.heap.objs.size (fun y => if y = ".0" then some (.ref it) else none) → Heap.SameBut s4.heap.objs.size (s4.heap.push { cls := .type "frame", data := .dict #[] }) h' →
          Q' (.ref h'.objs.size) { s4 with
            gens := s4.gens.push (.fresh (.compStart (.GeneratorExp elt [⟨tg, iter, ifs, 0⟩] scope gpos) 0 (.ref it) .none (genEnv scope (clC X scope) s4.heap.objs.size code bi X.env))),
            toks := s4.toks + 1 + 1 + 1,
            heap := h'.push { cls := .type "generator", data := .fields #[.int s4.gens.size 0, .str "<genexpr>" (s4.toks + 1), .str (X.env.qual ++ "<genexpr>") (s4.toks + 1 + 1)] } }) X.xe { s2 with heap := h3, toks := tk } := by
    intro code h3 tk ps' hx hsz hP3 hmore ht3
    obtain ⟨bm, ob, e1, e2, e3, e4, e5, e6, e7, e8⟩ := TB.bm
    obtain ⟨more, rfl⟩ := hmore
    have I3 : Inv X pins σ (upd H1 P (.tbl (ps ++ more))) { s2 with heap := h3, toks := tk } := GxR.inv_tab (more := more) (g' := s2.gens) (d' := s2.drawn) I2 hP (fun b u hb e => hx b u hb e) hP3 I2.bare
    have tab : GxR.Tabbed P H1 (upd H1 P (.tbl (ps ++ more))) := ⟨⟨_, upd_same, ht3⟩, fun b hb => upd_ne hb⟩
    have st3 : tn 0 h3 := T.keep _ _ _ st2 fun b hb o e => hx b o (nfp b hb) e
    have f3 : ∀ b ∈ fp, FpOk X pins (upd H1 P (.tbl (ps ++ more))) b ∧ b < h3.objs.size := fun b hb =>
      ⟨⟨by rw [upd_ne (nfp b hb)]; exact (f2 b hb).1, (f2 b hb).2⟩, Nat.lt_of_lt_of_le (szf b hb) hsz⟩
    refine wpAny_builtinsFor (m := X.mg) (by rw [I3.ok.glob]; exact I3.mod.glob.keeps I3.bk) e1 e2 (I3.bk _ _ e5) e6 e7 e8 ?_
    intro h' hns hsb
    have hsz' : h'.objs.size = h3.objs.size + 1 := by rw [hsb.1, Heap.size_push]
    have keep' : ∀ b o, h3.get? b = some o → h'.get? b = some o := fun b o e => hsb.extBut b o (Nat.ne_of_lt (Heap.lt_size e)) (Heap.get?_push_of_some _ e)
    have main : ∀ (go : Obj), go.cls = .type "generator" → (∃ nm qn, go.data = .fields #[.int s2.gens.size 0, nm, qn]) → go.slots = #[] → (∀ h : Heap, (h.push go).get? h.objs.size = some go) → ∀ t',
        Q' (.ref h'.objs.size) { s2 with heap := h'.push go, toks := t', gens := s2.gens.push (.fresh (.compStart (.GeneratorExp elt [⟨tg, iter, ifs, 0⟩] scope gpos) 0 (.ref it) .none (genEnv scope (clC X scope) h3.objs.size code builtinsNs X.env))) } := by
      intro go gc ⟨nm, qn, gd⟩ gsl gp t'
      have hgp := gp h'
      rw [hsz'] at hgp ⊢
      have keep5 : ∀ b o, h3.get? b = some o → (h'.push go).get? b = some o := fun b o e => Heap.get?_push_of_some _ (keep' b o e)
      refine hQ J H1 (upd H1 P (.tbl (ps ++ more))) { s2 with heap := h3, toks := tk } _ code fp it tn go s2.gens.size q1 tab I3 f3 T (T.keep _ _ _ st3 fun b _ o e => keep5 b o e) (fun A hA hf => ?_) (fun h e => ⟨go, nm, qn, e, gc, gd, gsl⟩) (Array.getElem?_push_size ..)
      exact ge_startV (s := { s2 with heap := h3, toks := tk }) I3 S cp hA hf f3 (I2.bare.push rfl) (hns.push _) keep5 hgp (fun v z => by rw [gd] at z; cases z)
    exact main _ rfl ⟨_, _, rfl⟩ rfl (fun h => Heap.get?_push_size _ rfl) _
  refine ⟨I2.nolimit, ?_⟩
  cases hf : codeAmong gpos ps.toList with
  | none =>
    refine wpAny_genexprCodeX hcode (cd.code hPs ht) (cd.tab hPs) hf fun c' h' tk hx hge hlt hco' _ htab' _ => ?_
    obtain ⟨o1, vs, f1, tf, fl, tg', inF, tx, tt, op, _, _, _, _, _, _, _, _, _, htr, _⟩ := hco'
    exact cont _ h' tk _ hx (Nat.le_trans hge (Nat.le_of_lt hlt)) htab'.2 ⟨_, rfl⟩ htr
  | some cv =>
    refine wpAny_genexprCode_hit hcode (cd.code hPs ht) hf ?_
    exact cont cv s2.heap s2.toks ps (Heap.ExtBut.refl _ _) (Nat.le_refl _) hPs ⟨#[], by simp⟩ ht



def tGenV (P : Addr) (caps : List (Option Nat)) (wi : TI) (g : TG) (tt : TT) (te : TE) (Out : (Bool → Hp → Prop) → Unit → V → Hp → (Unit → Hp → Prop) → Prop) (fin : Bool) : TE := fun σ H Q => wi σ H fun J H1 => GxR.TabG H1 P ∧ ∀ H2, GxR.Tabbed P H1 H2 →
  ∃ W : Unit → Nat → Nat → Hp → Prop, (∃ m, W () 0 m H2) ∧ TurnV J (zet caps σ) g tt te (Out fun b H => Q (.bl b) H) (fun _ H => Q (.bl fin) H) W
theorem pe_allV {caps : List (Option Nat)} {N : List Str} {c P : Addr} {elt tg iter : Expr} {ifs : List Expr} {p pos gpos : Pos} {scope : Scope} {wi : TI} {g : TG} {tt : TT} {te : TE} {k : Nat}
    (hr : Room (k + 1) X.A) (hgl : Gl X "all") (hm : X.mg "all" = none) (TB : GxR.TabB X.base X.mg c P) (hcode : X.env.code = .ref c) (S : GSf X scope) (cp : Capt X scope N caps) (hi : PI X tg iter wi)
    (hg : ∀ (A : Around) (s : Shared) (H : Hp) (C : Addr) (code : Value) (fp : List Addr) (pn : List (Addr × Obj)), Room k (A.deeper (ceC X scope C code)) → PG (gx X A N s H (ceC X scope C code) fp pn) tg g)
    (ht : ∀ (A : Around) (s : Shared) (H : Hp) (C : Addr) (code : Value) (fp : List Addr) (pn : List (Addr × Obj)), Room k (A.deeper (ceC X scope C code)) → PTs (gx X A N s H (ceC X scope C code) fp pn) ifs tt)
    (he : ∀ (A : Around) (s : Shared) (H : Hp) (C : Addr) (code : Value) (fp : List Addr) (pn : List (Addr × Obj)), Room k (A.deeper (ceC X scope C code)) → PE (gx X A N s H (ceC X scope C code) fp pn) elt te)
    (hs : ∀ v, genFold iter X.env v = pure v := by intro _; rfl)
    (hb : bootBuiltins "all" = some (.builtin "all") := by decide +kernel)
    (hst : starEach [.GeneratorExp elt [⟨tg, iter, ifs, 0⟩] scope gpos] X.env = (false, eval (.GeneratorExp elt [⟨tg, iter, ifs, 0⟩] scope gpos) X.env) :: starEach [] X.env := by rfl) :
    PE X (.Call (.Name "all" p) [.GeneratorExp elt [⟨tg, iter, ifs, 0⟩] scope gpos] [] pos) (tGenV P caps wi g tt te outAll true) := by
  refine ⟨fun pins s σ H Q I h => ?_⟩
  refine wpAny_Call_Name_kw (ld_blt I hgl hm hb ?_)
  refine PyProof.Rows.callWith_builtin1 ?_ hst (by rfl)
  rw [hst]
  show wpAny _ _ (spliced ((false, eval (.GeneratorExp elt [⟨tg, iter, ifs, 0⟩] scope gpos) X.env) :: backTo pos (starEach [] X.env))) _ _ s
  refine Calls.spliced_cons (gen_makeV hr TB hcode S cp hi hs I h fun J H1 H2 s4 s5 code fp it tn go gn hR tab I4 f4 T st5 mk hgo hgs => ?_)
  refine Calls.spliced_nil ?_
  obtain ⟨W, ⟨m0, w0⟩, turn⟩ := hR H2 tab
  have rY := room3 hr (ceC X scope s4.heap.objs.size code)
  have I5 := mk X.A.in1.in1 hr.hd I.ok.frames
  generalize hpn : [(s4.heap.objs.size + 1, go)] = pn at I5
  have hpm : (s4.heap.objs.size + 1, go) ∈ pn := by rw [← hpn]; exact List.mem_singleton.mpr rfl
  have hpf : ∀ p ∈ pn, p.1 ∉ fp := fun p hp z => by
    rw [← hpn] at hp
    rw [List.mem_singleton.mp hp] at z
    exact absurd (f4 _ z).2 (Nat.not_lt.mpr (Nat.le_succ _))
  have gi0 : GI (zet caps σ) (gx X X.A.in1.in1 N s4 H2 (ceC X scope s4.heap.objs.size code) fp pn) conU fp tn () 0 H2 s5 := ⟨I5, trivial, st5, fun b hb => (f4 b hb).1.1⟩
  have isg := hgo _ (I5.pin _ (List.mem_append_left _ hpm)).1
  refine call_function_tree F.kind_all F.plain_all F.entry_all (F.args_all1 _) ?_
  unfold Builtin.«all»
  refine wpAny_bind (m := oneArg "all" _) (wpAny_pure ?_)
  refine wpAny_bind (wpAny_pyIter_gen isg ?_)
  refine wpAny_pure ⟨plainId_quiet F.plain_all_loop _, ?_⟩
  refine all_loop (ζ := zet caps σ) (Y := gx X X.A.in1.in1 N s4 H2 (ceC X scope s4.heap.objs.size code) fp pn) (A := X.A) (g := gn) (QB := fun b H => Q (.bl b) H) hr.hd hr.depth hpm hgo (fun b s' H' I' q => ?_) (m0 + 1) 0 H2 (fun a H => W a 0 m0 H) s5 _ hgs gi0 w0 (fun a' s'' gi' w' => ?_)
  · exact ⟨.bl b, H', ge_back I4 f4 I', rfl, q⟩
  · exact ⟨rfl, seg_start (ζ := zet caps σ) (Y := gx X X.A.in1.in1 N s4 H2 (ceC X scope s4.heap.objs.size code) fp pn) conU_ok rfl T (hg _ _ _ _ _ _ _ rY) (ht _ _ _ _ _ _ _ rY) (he _ _ _ _ _ _ _ rY) rfl (fun b hb => hb) (fun b hb => nomatch hb) hpf rfl S.co (by show (zet caps σ).length = N.length; unfold zet; rw [List.length_map]; exact cp.len) turn m0 a' (m0 + 1) H2 s'' (Nat.lt_succ_self _) w' gi'⟩
end
end GV
set_option Elab.async false
set_option linter.all false
set_option pp.maxSteps 400
set_option maxRecDepth 100000
set_option maxHeartbeats 4000000
namespace CL
open PySem PySem.Spec PyProof.Rows L2 GE
abbrev sWid : Stmt := topS 23
theorem scWid : FnScope ["turns", "start", "bound", "widths", "patience", "opens"] ["turns", "start", "bound"] (defScope sWid) := ⟨rfl, rfl, rfl, by decide +kernel, rfl, by decide +kernel, by decide +kernel⟩
abbrev sEnd : Stmt := topS 22
abbrev nEnd : List Str := ["piece", "start", "bound", "stop", "first", "past", "turns", "end", "fits", "patience", "last"]
theorem scEnd : FnScope nEnd ["piece", "start", "bound", "stop"] (defScope sEnd) := ⟨rfl, rfl, rfl, by decide +kernel, rfl, by decide +kernel, by decide +kernel⟩
theorem sz5000 : 5000 ≤ sizeLine := by decide
/-- how many a window holds that one of that patience opens at x, 0 where it opens none -/
def wd (b : Option Int) (x : Int) : PyData → Int
  | .int p => match b with
    | none => p + 1
    | some m => if x + p ≤ m then p + 1 else 0
  | _ => 0
theorem pat_cases {t : PyData} (h : isPatience t = true) : t = .none ∨ ∃ p : Int, t = .int p ∧ 0 ≤ p ∧ p ≤ GREAT := by
  cases t with
  | none => exact .inl rfl
  | int i =>
    have h' : (decide (0 ≤ i) && decide (i ≤ GREAT)) = true := h
    simp only [Bool.and_eq_true, decide_eq_true_eq] at h'
    exact .inr ⟨i, rfl, h'.1, h'.2⟩
  | _ => cases h
theorem wd_nn {b : Option Int} {x : Int} {t : PyData} (h : isPatience t = true) : 0 ≤ wd b x t := by
  rcases pat_cases h with rfl | ⟨p, rfl, h0, _⟩
  · exact Int.le_refl 0
  · cases b with
    | none => show 0 ≤ p + 1; omega
    | some m =>
      show 0 ≤ if x + p ≤ m then p + 1 else 0
      split <;> omega
/-- a round of patiences that stands -/
structure TurnsAt (H : Hp) (t : Addr) (ts : List PyData) : Prop where
  ex : ∃ zs, H t = some (.tup zs) ∧ RpAll H zs ts
  pat : ∀ x ∈ ts, isPatience x = true
  lo : 1 ≤ ts.length
  hi : ts.length ≤ 8
theorem TurnsAt.same {H H' : Hp} {t : Addr} {ts : List PyData} (h : TurnsAt H t ts) (s : Same H H') : TurnsAt H' t ts := by
  obtain ⟨⟨zs, h1, h2⟩, h3, h4, h5⟩ := h
  exact ⟨⟨zs, s _ _ h1, RpAll.sm s h2⟩, h3, h4, h5⟩
theorem pat_val {H : Hp} {v : V} {t : PyData} (h : Rp H v t) (g : isPatience t = true) : (t = .none ∧ v = .non) ∨ ∃ p : Int, t = .int p ∧ v = .int p ∧ 0 ≤ p ∧ p ≤ GREAT := by
  rcases pat_cases g with rfl | ⟨p, rfl, h0, h1⟩
  · cases h; exact .inl ⟨rfl, rfl⟩
  · cases h; exact .inr ⟨p, rfl, rfl, h0, h1⟩
def spWid : Sp := fun vs H Q _ => ∃ t ts, ∃ start : Int, ∃ b : Option Int, vs = [.ref t, .int start, optV b] ∧ TurnsAt H t ts ∧ ∀ q H', Same H H' → H q = none → H' q = some (.lst ((ts.map (wd b start)).map V.int)) → Q (.ref q) H'
/-- the last number by which the same turns open windows -/
structure EndOk (past : Option Int) (ts : List PyData) (start : Int) (b : Option Int) (stop e : Int) : Prop where
  lo : start ≤ e
  hi : e ≤ stop
  pst : ∀ m, past = some m → e < m
  fit : ∀ m, b = some m → ∀ p : Int, PyData.int p ∈ ts → start ≤ m - p → e ≤ m - p
  from_ : e = stop ∨ past = some (e + 1) ∨ ∃ m p, b = some m ∧ PyData.int p ∈ ts ∧ e = m - p
def spEnd : Sp := fun vs H Q _ => ∃ a t ts, ∃ f start stop : Int, ∃ b past : Option Int, vs = [.ref a, .int start, optV b, .int stop] ∧ H a = some (.tup [.int f, optV past, .ref t]) ∧ TurnsAt H t ts ∧ start ≤ stop ∧ (∀ m, past = some m → start < m) ∧ ∀ e H', Same H H' → EndOk past ts start b stop e → Q (.int e) H'
section
variable {P : Program} {w : World} {K : PySem.W.Frag} {mg : Str → Option Value} {base : Heap}
theorem ok_wid {f : Addr} {fd : FuncData} (F : Fun K "window_widths" "window_widths" sWid f fd) : FnOk P w K mg base CX0 1 f fd ["turns", "start", "bound"] spWid := by
  refine F.ok scWid (fun vs H Q E ⟨t, ts, st0, b, e, _⟩ => by rw [e]; rfl) (fun cdv A outer s H vs Q E hr h => ?_)
  obtain ⟨t, ts, start, b, rfl, hT, q⟩ := h
  have nd := scWid.nd
  have sz := sz5000
  refine ⟨_, (pss_cons (ps_set (i := 3) nd rfl (.inl rfl) (pe_lst pa_nil))
    (pss_cons (ps_for PassesOwn.never rfl (pi_tup (pv 0)) (pg_name (i := 4) nd rfl (.inl rfl))
    (pss_cons (ps_set (i := 5) nd rfl (.inl rfl) (pe_and (pe_cmp (pc_notN (pv 4)) rfl) (pe_one (pe_or (pe_cmp (pc_isN (pv 2)) rfl) (pe_one (pe_cmpR op_le (pe_op op_add (pv 1) (pv 4)) (pv 2) (nomark _)))))))
    (pss_one (ps_expr (pe_bm PySem.F.plainAttrs_list PySem.F.slot_list_append PySem.F.type_list_append mt_append (pv 3) (pa_cons (pe_ifExp (pt_val (pv 5)) (pe_op op_add (pv 4) pe_int) pe_int) pa_nil))))))
    (pss_one (ps_ret (pv 3))))), ?_⟩
  obtain ⟨⟨zs, ht, hz⟩, hpat, lo, hi⟩ := hT
  refine ⟨Nat.zero_le _, fun D nD => ?_⟩
  have s0 := same_upd (o := .lst []) nD
  have e0 : (upd H D (.lst [])) D = some (.lst (([] : List Int).map V.int)) := upd_same
  generalize upd H D (.lst []) = H0 at s0 e0
  refine ⟨.ref t, rfl, t, rfl, ⟨zs, SqT.of (s0 _ _ ht)⟩, for_tup (xs := zs) (fun i σ H2 => ∃ y4 y5, σ = [some (.ref t), some (.int start), some (optV b), some (.ref D), y4, y5] ∧ Same H H2 ∧ H2 D = some (.lst (((ts.take i).map (wd b start)).map V.int)))
    ⟨none, none, rfl, s0, e0⟩ (fun i σ H2 _ ⟨_, _, _, s, _⟩ => SqT.of (s _ _ ht)) (fun i x σ H2 hx ⟨y4, y5, eσ, s2, eD⟩ => ?_) (fun σ H2 ⟨y4, y5, eσ, s2, eD⟩ => ?_)⟩
  · subst eσ
    obtain ⟨d, hd, hR⟩ := hz.get hx
    have ld : i < ts.length := (List.getElem?_eq_some_iff.mp hd).1
    have hlen : (((ts.take i).map (wd b start)).map V.int).length < sizeLine := by
      rw [List.length_map, List.length_map, List.length_take]
      omega
    have fin : ∀ {y5 : V}, ∃ y4 y5', ([some (.ref t), some (.int start), some (optV b), some (.ref D), some x, some y5] : L2.St) = [some (.ref t), some (.int start), some (optV b), some (.ref D), y4, y5'] ∧ Same H (upd H2 D (.lst (((ts.take i).map (wd b start)).map V.int ++ [.int (wd b start d)]))) ∧
        (upd H2 D (.lst (((ts.take i).map (wd b start)).map V.int ++ [.int (wd b start d)]))) D = some (.lst (((ts.take (i + 1)).map (wd b start)).map V.int)) := fun {y5} => by
      refine ⟨_, _, rfl, fun c o hc => ?_, ?_⟩
      · rw [upd_ne (fun z => by rw [z, nD] at hc; cases hc)]
        exact s2 _ _ hc
      · rw [upd_same, List.take_add_one, hd, List.map_append, List.map_append]
        rfl
    rcases pat_val hR (hpat d (List.mem_of_getElem? hd)) with ⟨rfl, rfl⟩ | ⟨p, rfl, rfl, h0, h1⟩
    · refine ⟨.non, rfl, false, rfl, iteF ?_⟩
      exact ⟨.ref D, rfl, .inl ⟨rfl, _, SqL.of eD⟩, .bl false, rfl, false, rfl, iteF ⟨D, _, .int 0, rfl, rfl, eD, hlen, fin⟩⟩
    · refine ⟨.int p, rfl, true, rfl, iteT ?_⟩
      cases b with
      | none =>
        refine ⟨.non, rfl, true, rfl, iteT ?_⟩
        exact ⟨.ref D, rfl, .inl ⟨rfl, _, SqL.of eD⟩, .bl true, rfl, true, rfl, iteT ⟨.int p, rfl, p, 1, rfl, rfl, D, _, .int (p + 1), rfl, rfl, eD, hlen, fin⟩⟩
      | some m =>
        refine ⟨.int m, rfl, false, rfl, iteF ?_⟩
        refine ⟨.int start, rfl, .int p, rfl, start, p, rfl, rfl, .int m, rfl, start + p, m, rfl, rfl, ?_⟩
        refine ⟨.ref D, rfl, .inl ⟨rfl, _, SqL.of eD⟩, .bl (decide (start + p ≤ m)), rfl, _, rfl, ?_⟩
        by_cases c : start + p ≤ m
        · have e : wd (some m) start (.int p) = p + 1 := if_pos c
          rw [e] at fin
          rw [decide_eq_true c]
          exact iteT ⟨.int p, rfl, p, 1, rfl, rfl, D, _, .int (p + 1), rfl, rfl, eD, hlen, fin⟩
        · have e : wd (some m) start (.int p) = 0 := if_neg c
          rw [e] at fin
          rw [decide_eq_false c]
          exact iteF ⟨D, _, .int 0, rfl, rfl, eD, hlen, fin⟩
  · subst eσ
    have lz : zs.length = ts.length := hz.length
    rw [lz, List.take_length] at eD
    exact ⟨.ref D, rfl, q D H2 s2 nD eD⟩
def fitsOf (m : Int) (ts : List PyData) : List Int := ts.filterMap fun
  | .int p => some (m - p)
  | _ => none
theorem mem_fits {m x : Int} {ts : List PyData} : x ∈ fitsOf m ts ↔ ∃ p : Int, PyData.int p ∈ ts ∧ x = m - p := by
  unfold fitsOf
  rw [List.mem_filterMap]
  constructor
  · rintro ⟨d, hd, h⟩
    cases d <;> first | (cases h; exact ⟨_, hd, rfl⟩) | cases h
  · rintro ⟨p, hp, rfl⟩
    exact ⟨.int p, hp, rfl⟩
theorem ok_end {f : Addr} {fd : FuncData} (F : Fun K "stretch_end" "stretch_end" sEnd f fd) (hmin : mg "min" = none) : FnOk P w K mg base CX0 1 f fd ["piece", "start", "bound", "stop"] spEnd := by
  refine F.ok scEnd (fun vs H Q E ⟨a, t, ts, f, st0, stop, b, past, e, _⟩ => by rw [e]; rfl) (fun cdv A outer s H vs Q E hr h => ?_)
  obtain ⟨a, t, ts, ff, start, stop, b, past, rfl, ha, hT, hss, hsp, q⟩ := h
  have nd := scEnd.nd
  have sz := sz5000
  refine ⟨_, (pss_cons (ps_asg (pv 0) (pg_tup rfl (pgs_cons (pg_name (i := 4) nd rfl (.inl rfl)) (pgs_cons (pg_name (i := 5) nd rfl (.inl rfl)) (pgs_cons (pg_name (i := 6) nd rfl (.inl rfl)) pgs_nil)))))
    (pss_cons (ps_set (i := 7) nd rfl (.inl rfl) (pe_ifExp (pt_cmp (pc_isN (pv 5))) (pv 3) (pe_callB (call_min2 rfl) (by rfl) hmin (by decide +kernel) (pa_cons (pv 3) (pa_cons (pe_op op_sub (pv 5) pe_int) pa_nil)))))
    (pss_cons (ps_if (pt_cmp (pc_isN (pv 2))) (pss_one (ps_ret (pv 7))) pss_nil)
    (pss_cons (ps_setLc (i := 8) (own := [("patience", 9)]) (g := gName 9) rfl nd rfl rfl (sw_true rfl rfl rfl (by decide +kernel)) (pi_tup (pv 6)) (blkOk_by (N := nEnd) (sc := defScope sEnd) (by decide +kernel))
        (fun _ _ _ _ _ => pg_name (i := 9) nd rfl (.inl rfl) (.inr rfl)) (fun _ _ _ _ _ => pts_one (pt_cmp (pc_notN (pv 9)))) (fun _ _ _ _ _ => (pe_op op_sub (pv 2) (pv 9))))
    (pss_one (ps_ret (pe_callB (cr_min rfl) (by rfl) hmin (by decide +kernel) (pa_cons (pe_op op_cat (pe_lst (pa_cons (pv 7) pa_nil)) (pe_lc (own := [("last", 10)]) (g := gName 10) rfl nd (pi_list (pv 8)) (blkOk_by (N := nEnd) (sc := defScope sEnd) (by decide +kernel))
        (fun _ _ _ _ _ => pg_name (i := 10) nd rfl (.inl rfl) (.inr rfl)) (fun _ _ _ _ _ => pts_one (pt_cmpR op_ge (pv 10) (pv 1) (nomark _))) (fun _ _ _ _ _ => (pv 10)))) pa_nil)))))))), ?_⟩
  obtain ⟨⟨zs, ht, hz⟩, hpat, lo, hi⟩ := hT
  refine ⟨.ref a, rfl, a, _, rfl, SqT.of ha, rfl, .int ff, _, rfl, optV past, _, rfl, .ref t, _, rfl, rfl, ?_⟩
  obtain ⟨e1, h1, h2, h3, h4, hev⟩ : ∃ e1 : Int, start ≤ e1 ∧ e1 ≤ stop ∧ (∀ m, past = some m → e1 < m) ∧ (e1 = stop ∨ past = some (e1 + 1)) ∧ ∀ {σ : L2.St} {R : VK}, σ[5]? = some (some (optV past)) → σ[3]? = some (some (.int stop)) → R (.int e1) H →
      (tIf (tB (tIsN (tVar 5))) (tVar 3) (tCB (fun xs H Q => ∃ i j, xs = [.int i, .int j] ∧ Q (.int (if j < i then j else i)) H) (tCons (tVar 3) (tCons (tOp (rI0 fun i j => .int (i - j)) (tVar 5) (tC (.int 1))) tNil)))) σ H R := by
    cases past with
    | none => exact ⟨stop, hss, Int.le_refl _, fun m e => (by cases e), .inl rfl, fun {σ R} h5 h3 h => ⟨.non, h5, _, rfl, iteT ⟨.int stop, h3, h⟩⟩⟩
    | some m =>
      have hm := hsp m rfl
      by_cases c : m - 1 < stop
      · exact ⟨m - 1, by omega, by omega, fun m' e => (by cases e; omega), .inr (by rw [show m - 1 + 1 = m by omega]), fun {σ R} h5 h3 h => ⟨.int m, h5, _, rfl, iteF ⟨.int stop, h3, .int m, h5, m, 1, rfl, rfl, stop, m - 1, rfl, by rw [if_pos c]; exact h⟩⟩⟩
      · exact ⟨stop, hss, Int.le_refl _, fun m' e => (by cases e; omega), .inl rfl, fun {σ R} h5 h3 h => ⟨.int m, h5, _, rfl, iteF ⟨.int stop, h3, .int m, h5, m, 1, rfl, rfl, stop, m - 1, rfl, by rw [if_neg c]; exact h⟩⟩⟩
  refine hev rfl rfl ?_
  cases b with
  | none =>
    refine ⟨.non, rfl, _, rfl, iteT ⟨.int e1, rfl, q e1 H (Same.refl H) ⟨h1, h2, h3, fun m e => (by cases e), ?_⟩⟩⟩
    rcases h4 with h4 | h4
    · exact .inl h4
    · exact .inr (.inl h4)
  | some m =>
    refine ⟨.int m, rfl, _, rfl, iteF ?_⟩
    refine ⟨.ref t, rfl, t, rfl, ⟨zs, SqT.of ht⟩, fun D nD => ?_⟩
    refine lc_tup (xs := zs) (fun i H5 => H5 = upd H D (.lst ((fitsOf m (ts.take i)).map V.int))) rfl (fun i H5 _ e => by rw [e]; exact SqT.of (same_upd nD _ _ ht)) (fun i x H5 hx e => ?_) (fun H5 e => ?_)
    · subst e
      obtain ⟨d, hd, hR⟩ := hz.get hx
      have hl : ((fitsOf m (ts.take i)).map V.int).length < sizeLine := by
        rw [List.length_map]
        have h1 := List.length_filterMap_le (fun | PyData.int p => some (m - p) | _ => none) (ts.take i)
        have h2 : (ts.take i).length ≤ 8 := by rw [List.length_take]; omega
        have h3 : (fitsOf m (ts.take i)).length ≤ (ts.take i).length := h1
        omega
      rcases pat_val hR (hpat d (List.mem_of_getElem? hd)) with ⟨rfl, rfl⟩ | ⟨p, rfl, rfl, _, _⟩
      · refine ⟨rfl, .non, rfl, _, rfl, iteF ?_⟩
        rw [List.take_add_one, hd]
        unfold fitsOf
        rw [List.filterMap_append]
        show _ = upd H D (.lst ((_ ++ []).map V.int))
        rw [List.append_nil]
      · refine ⟨rfl, .int p, rfl, _, rfl, iteT ⟨.int m, rfl, .int p, rfl, m, p, rfl, rfl, _, upd_same, hl, ?_⟩⟩
        rw [upd_upd, List.take_add_one, hd]
        unfold fitsOf
        rw [List.filterMap_append, List.map_append]
        rfl
    · have lz : zs.length = ts.length := hz.length
      rw [lz, List.take_length] at e
      subst e
      have sD := same_upd (o := .lst ((fitsOf m ts).map V.int)) nD
      have eD : (upd H D (.lst ((fitsOf m ts).map V.int))) D = some (.lst ((fitsOf m ts).map V.int)) := upd_same
      generalize upd H D (.lst ((fitsOf m ts).map V.int)) = H2 at sD eD
      have hfl : (fitsOf m ts).length ≤ 8 := by
        have h1 := List.length_filterMap_le (fun | PyData.int p => some (m - p) | _ => none) ts
        have h3 : (fitsOf m ts).length ≤ ts.length := h1
        omega
      refine ⟨.int e1, rfl, small_le (by show 1 ≤ 1000; decide), fun L nL => ?_⟩
      have sL := same_upd (o := .lst [.int e1]) nL
      have eL : (upd H2 L (.lst [.int e1])) L = some (.lst [.int e1]) := upd_same
      generalize upd H2 L (.lst [.int e1]) = H3 at sL eL
      have eD3 := sL _ _ eD
      refine ⟨.ref D, rfl, D, rfl, ⟨_, SqL.of eD3⟩, fun D2 nD2 => ?_⟩
      refine lc_list (xs := (fitsOf m ts).map V.int) (fun i H5 => H5 = upd H3 D2 (.lst ((((fitsOf m ts).take i).filter fun x => decide (start ≤ x)).map V.int))) rfl (fun i H5 _ e => by rw [e]; exact SqL.of (same_upd nD2 _ _ eD3)) (fun i x H5 hx e => ?_) (fun H5 e => ?_)
      · subst e
        obtain ⟨y, hy, rfl⟩ : ∃ y, (fitsOf m ts)[i]? = some y ∧ x = .int y := by
          rw [List.getElem?_map] at hx
          cases z : (fitsOf m ts)[i]? with
          | none => rw [z] at hx; cases hx
          | some y => rw [z] at hx; cases hx; exact ⟨y, rfl, rfl⟩
        have hl : ((((fitsOf m ts).take i).filter fun x => decide (start ≤ x)).map V.int).length < sizeLine := by
          rw [List.length_map]
          have h1 := List.length_filter_le (fun x => decide (start ≤ x)) ((fitsOf m ts).take i)
          rw [List.length_take] at h1
          omega
        refine ⟨rfl, .int y, rfl, .int start, rfl, y, start, rfl, rfl, _, rfl, ?_⟩
        rw [List.take_add_one, hy, List.filter_append]
        by_cases c : start ≤ y
        · rw [decide_eq_true c]
          refine iteT ⟨.int y, rfl, _, upd_same, hl, ?_⟩
          rw [upd_upd]
          show _ = upd H3 D2 (.lst (((_ : List Int) ++ List.filter (fun x => decide (start ≤ x)) [y]).map V.int))
          rw [List.filter_cons, if_pos (by simpa using c), List.map_append]
          rfl
        · rw [decide_eq_false c]
          refine iteF ?_
          show _ = upd H3 D2 (.lst (((_ : List Int) ++ List.filter (fun x => decide (start ≤ x)) [y]).map V.int))
          rw [List.filter_cons, if_neg (by simpa using c)]
          show _ = upd H3 D2 (.lst (((_ : List Int) ++ []).map V.int))
          rw [List.append_nil]
      · have e' : H5 = upd H3 D2 (.lst (((fitsOf m ts).filter fun x => decide (start ≤ x)).map V.int)) := by rw [e, List.length_map, List.take_length]
        clear e
        subst e'
        have s4 := same_upd (o := .lst (((fitsOf m ts).filter fun x => decide (start ≤ x)).map V.int)) nD2
        have e4 : (upd H3 D2 (.lst (((fitsOf m ts).filter fun x => decide (start ≤ x)).map V.int))) D2 = some (.lst (((fitsOf m ts).filter fun x => decide (start ≤ x)).map V.int)) := upd_same
        generalize upd H3 D2 (.lst (((fitsOf m ts).filter fun x => decide (start ≤ x)).map V.int)) = H4 at s4 e4
        have hfl2 := List.length_filter_le (fun x => decide (start ≤ x)) (fitsOf m ts)
        refine ⟨L, D2, _, _, rfl, rfl, s4 _ _ eL, e4, by rw [List.length_map]; show 1 + _ ≤ sizeLine; omega, fun M nM => ?_⟩
        have s5 := same_upd (o := .lst ([.int e1] ++ ((fitsOf m ts).filter fun x => decide (start ≤ x)).map V.int)) nM
        have e5 : (upd H4 M (.lst ([.int e1] ++ ((fitsOf m ts).filter fun x => decide (start ≤ x)).map V.int))) M = some (.lst ((e1 :: (fitsOf m ts).filter fun x => decide (start ≤ x)).map V.int)) := upd_same
        generalize upd H4 M (.lst ([.int e1] ++ ((fitsOf m ts).filter fun x => decide (start ≤ x)).map V.int)) = H6 at s5 e5
        refine ⟨M, e1 :: (fitsOf m ts).filter (fun x => decide (start ≤ x)), rfl, SqL.of e5, Nat.succ_pos _, fun e hm hle => ?_⟩
        have hle1 : e ≤ e1 := hle e1 List.mem_cons_self
        refine q e H6 (((sD.trans sL).trans s4).trans s5) ⟨?_, by omega, fun m' e' => by have := h3 m' e'; omega, fun m' e' p hp hs => ?_, ?_⟩
        · rcases List.mem_cons.mp hm with rfl | hm
          · exact h1
          · simpa using (List.mem_filter.mp hm).2
        · cases e'
          exact hle (m - p) (List.mem_cons_of_mem _ (List.mem_filter.mpr ⟨mem_fits.mpr ⟨p, hp, rfl⟩, by simpa using hs⟩))
        · rcases List.mem_cons.mp hm with rfl | hm
          · rcases h4 with h4 | h4
            · exact .inl h4
            · exact .inr (.inl h4)
          · obtain ⟨p, hp, e'⟩ := mem_fits.mp (List.mem_filter.mp hm).1
            exact .inr (.inr ⟨m, p, rfl, hp, e'⟩)
end
end CL
set_option Elab.async false
set_option linter.all false
set_option pp.maxSteps 400
set_option maxRecDepth 100000
set_option maxHeartbeats 4000000
namespace CL
open PySem PySem.Spec PyProof.Rows L2 GE
abbrev sSteps : Stmt := topS 24
abbrev nSteps : List Str := ["piece", "start", "bound", "end", "first", "past", "turns", "widths", "steps", "met", "ahead", "turn"]
theorem scSteps : FnScope nSteps ["piece", "start", "bound", "end"] (defScope sSteps) := ⟨rfl, rfl, rfl, by decide +kernel, rfl, by decide +kernel, by decide +kernel⟩
theorem hu1 {k : Nat} {A : Around} (hr : Room k A) : A.units + 1 < cLine := by have := hr.un; omega
/-- whom a step meets, how many its window holds -/
abbrev StepT := Int × Int
def Pth (W : Int → Int → Prop) : Int → List StepT → Int → Prop
  | a, [], c => a = c
  | a, s :: ss, c => s.1 = a ∧ W s.1 s.2 ∧ Pth W (a + max s.2 1) ss c
theorem Pth.snoc {W : Int → Int → Prop} : ∀ {S : List StepT} {a x w : Int}, Pth W a S x → W x w → Pth W a (S ++ [(x, w)]) (x + max w 1)
  | [], a, x, w, h, hw => by
    obtain rfl : a = x := h
    exact ⟨rfl, hw, rfl⟩
  | s :: S, a, x, w, h, hw => ⟨h.1, h.2.1, Pth.snoc h.2.2 hw⟩
theorem Pth.split {W : Int → Int → Prop} : ∀ {S T : List StepT} {a c : Int}, Pth W a (S ++ T) c → ∃ m, Pth W a S m ∧ Pth W m T c
  | [], T, a, c, h => ⟨a, rfl, h⟩
  | s :: S, T, a, c, h => by
    obtain ⟨m, h1, h2⟩ := Pth.split h.2.2
    exact ⟨m, ⟨h.1, h.2.1, h1⟩, h2⟩
theorem Pth.le {W : Int → Int → Prop} : ∀ {S : List StepT} {a c : Int}, Pth W a S c → a + S.length ≤ c ∧ ∀ s ∈ S, a ≤ s.1 ∧ s.1 + max s.2 1 ≤ c ∧ W s.1 s.2
  | [], a, c, h => by
    obtain rfl : a = c := h
    exact ⟨by simp, fun s hs => nomatch hs⟩
  | s :: S, a, c, h => by
    obtain ⟨h1, h2⟩ := Pth.le h.2.2
    refine ⟨by rw [List.length_cons]; omega, fun x hx => ?_⟩
    rcases List.mem_cons.mp hx with rfl | hx
    · have := h.1
      exact ⟨by omega, by omega, h.2.1⟩
    · obtain ⟨a1, a2, a3⟩ := h2 x hx
      exact ⟨by omega, a2, a3⟩
/-- the place in the round -/
def tnI (f : Int) (L : Nat) (x : Int) : Int := (x - f) % (L : Int)
/-- on a stretch -/
def Wst (f : Int) (ts : List PyData) (b : Option Int) (start e : Int) (x w : Int) : Prop := x ≤ e ∧ ∃ t, ts[(tnI f ts.length x).toNat]? = some t ∧ w = wd b start t
structure Stp (f : Int) (ts : List PyData) (b : Option Int) (start e : Int) (once again : List StepT) (c : Int) : Prop where
  path : Pth (Wst f ts b start e) start (once ++ again) c
  ne : once ++ again ≠ []
  len : (once ++ again).length ≤ 8
  nil : again = [] → e < c
  rep : ∀ s T, again = s :: T → c ≤ e ∧ tnI f ts.length c = tnI f ts.length s.1
/-- steps that stand, as tuples -/
structure StAt (H : Hp) (vs : List V) (S : List StepT) : Prop where
  len : vs.length = S.length
  at_ : ∀ (i : Nat) (s : StepT), S[i]? = some s → ∃ b, vs[i]? = some (.ref b) ∧ H b = some (.tup [.int s.1, .int s.2])
/-- tuples stay -/
def KT (H H' : Hp) : Prop := ∀ b xs, H b = some (.tup xs) → H' b = some (.tup xs)
theorem KT.of {H H' : Hp} (s : Same H H') : KT H H' := fun b xs h => s b _ h
theorem KT.trans {H H1 H2 : Hp} (a : KT H H1) (b : KT H1 H2) : KT H H2 := fun c xs h => b c xs (a c xs h)
theorem KT.upd {H : Hp} {p : Addr} {o : HO} (n : ∀ xs, H p ≠ some (.tup xs)) : KT H (upd H p o) := fun b xs h => by
  rw [upd_ne (fun z => n xs (by rw [← z]; exact h))]
  exact h
theorem StAt.kt {H H' : Hp} {vs : List V} {S : List StepT} (h : StAt H vs S) (k : KT H H') : StAt H' vs S := ⟨h.len, fun i s hs => by
  obtain ⟨b, h1, h2⟩ := h.at_ i s hs
  exact ⟨b, h1, k _ _ h2⟩⟩
theorem StAt.snoc {H : Hp} {vs : List V} {S : List StepT} {b : Addr} {s : StepT} (h : StAt H vs S) (hb : H b = some (.tup [.int s.1, .int s.2])) : StAt H (vs ++ [.ref b]) (S ++ [s]) := ⟨by rw [List.length_append, List.length_append, h.len]; rfl, fun i x hx => by
  by_cases c : i < S.length
  · rw [List.getElem?_append_left c] at hx
    obtain ⟨b, h1, h2⟩ := h.at_ i x hx
    exact ⟨b, by rw [List.getElem?_append_left (by rw [h.len]; exact c)]; exact h1, h2⟩
  · have hi : i = S.length := by
      obtain ⟨l, _⟩ := List.getElem?_eq_some_iff.mp hx
      rw [List.length_append, List.length_singleton] at l
      omega
    subst hi
    rw [List.getElem?_concat_length] at hx
    cases hx
    exact ⟨b, by rw [← h.len]; exact List.getElem?_concat_length, hb⟩⟩
theorem StAt.take {H : Hp} {vs : List V} {S : List StepT} (k : Nat) (h : StAt H vs S) : StAt H (vs.take k) (S.take k) := ⟨by rw [List.length_take, List.length_take, h.len], fun i s hs => by
  rw [List.getElem?_take] at hs
  split at hs
  · obtain ⟨b, h1, h2⟩ := h.at_ i s hs
    exact ⟨b, by rw [List.getElem?_take, if_pos ‹_›]; exact h1, h2⟩
  · cases hs⟩
theorem StAt.drop {H : Hp} {vs : List V} {S : List StepT} (k : Nat) (h : StAt H vs S) : StAt H (vs.drop k) (S.drop k) := ⟨by rw [List.length_drop, List.length_drop, h.len], fun i s hs => by
  rw [List.getElem?_drop] at hs
  obtain ⟨b, h1, h2⟩ := h.at_ (k + i) s hs
  exact ⟨b, by rw [List.getElem?_drop]; exact h1, h2⟩⟩
theorem pig : ∀ (n : Nat) (l : List Int), l.Nodup → (∀ x ∈ l, 0 ≤ x ∧ x < (n : Int)) → l.length ≤ n
  | 0, [], _, _ => Nat.le_refl 0
  | 0, x :: l, _, h => by have := h x List.mem_cons_self; omega
  | n + 1, l, nd, h => by
    by_cases c : (n : Int) ∈ l
    · have e := List.length_erase_of_mem c
      have ih := pig n (l.erase (n : Int)) (nd.erase _) fun x hx => by
        have h1 := (nd.mem_erase_iff).mp hx
        have := h x h1.2
        have := h1.1
        omega
      omega
    · have ih := pig n l nd fun x hx => by
        have := h x hx
        have : x ≠ (n : Int) := fun z => c (by rw [← z]; exact hx)
        omega
      omega
def spSteps : Sp := fun vs H Q _ => ∃ a t ts, ∃ f start e : Int, ∃ b past : Option Int, vs = [.ref a, .int start, optV b, .int e] ∧ H a = some (.tup [.int f, optV past, .ref t]) ∧ TurnsAt H t ts ∧ start ≤ e ∧
  ∀ pr A B va vb once again c H', Same H H' → H A = none → H B = none → H' pr = some (.tup [.ref A, .ref B]) → H' A = some (.lst va) → H' B = some (.lst vb) → StAt H' va once → StAt H' vb again → Stp f ts b start e once again c → Q (.ref pr) H'
section
variable {P : Program} {w : World} {K : PySem.W.Frag} {mg : Str → Option Value} {base : Heap}
theorem ok_steps {f : Addr} {fd : FuncData} (F : Fun K "stretch_steps" "stretch_steps" sSteps f fd) (T : Nm mg) (hmax : mg "max" = none) (CW : Cal P w K mg base 1 "window_widths" ["turns", "start", "bound"] spWid) : FnOk P w K mg base CX0 2 f fd ["piece", "start", "bound", "end"] spSteps := by
  refine F.ok scSteps (fun vs H Q E ⟨a, t, ts, f, st0, e0, b, past, e, _⟩ => by rw [e]; rfl) (fun cdv A outer s H vs Q E hr h => ?_)
  obtain ⟨a, t, ts, ff, start, e, b, past, rfl, ha, hT, hse, q⟩ := h
  have nd := scSteps.nd
  have sz := sz5000
  have hu := hu1 hr
  refine ⟨_, (pss_cons (ps_asg (pv 0) (pg_tup rfl (pgs_cons (pg_name (i := 4) nd rfl (.inl rfl)) (pgs_cons (pg_name (i := 5) nd rfl (.inl rfl)) (pgs_cons (pg_name (i := 6) nd rfl (.inl rfl)) pgs_nil)))))
    (pss_cons (ps_set (i := 7) nd rfl (.inl rfl) (pe_cal (CW.mono (by decide)) hr (by rfl) (pa_cons (pv 6) (pa_cons (pv 1) (pa_cons (pv 2) pa_nil)))))
    (pss_cons (ps_set (i := 8) nd rfl (.inl rfl) (pe_lst pa_nil))
    (pss_cons (ps_set (i := 9) nd rfl (.inl rfl) pe_dnewK)
    (pss_cons (ps_set (i := 10) nd rfl (.inl rfl) (pv 1))
    (pss_cons (ps_while PassesOwn.never (pt_cmpR op_le (pv 10) (pv 3) (nomark _))
    (pss_cons (ps_set (i := 11) nd rfl (.inl rfl) (pe_op op_mod (pe_op op_sub (pv 10) (pv 4)) (pe_callB call_len_seq (by rfl) T.len PySem.boot_len (pa_cons (pv 6) pa_nil))))
    (pss_cons (ps_if (pt_cmp (pc_din hu (pv 11) (pv 9))) (pss_one (ps_ret (pe_tup (pa_cons (pe_slice sl_list (pv 8) po_none (po_some (pe_dget hu (pv 9) (pv 11) (fun _ _ => rfl)))) (pa_cons (pe_slice sl_list (pv 8) (po_some (pe_dget hu (pv 9) (pv 11) (fun _ _ => rfl))) po_none) pa_nil))))) pss_nil)
    (pss_cons (ps_dput hu (pv 9) (pv 11) (pe_callB call_len_seq (by rfl) T.len PySem.boot_len (pa_cons (pv 8) pa_nil)) rfl)
    (pss_cons (ps_expr (pe_bm PySem.F.plainAttrs_list PySem.F.slot_list_append PySem.F.type_list_append mt_append (pv 8) (pa_cons (pe_tup (pa_cons (pv 10) (pa_cons (pe_ix ix_list (pv 7) (pv 11) (fun _ _ => rfl)) pa_nil))) pa_nil)))
    (pss_one (ps_aug (i := 10) nd rfl (.inl rfl) (pe_callB (call_max2 rfl) (by rfl) hmax (by decide +kernel) (pa_cons (pe_ix ix_list (pv 7) (pv 11) (fun _ _ => rfl)) (pa_cons pe_int pa_nil))) ip_add)))))))
    (pss_one (ps_ret (pe_tup (pa_cons (pv 8) (pa_cons (pe_lst pa_nil) pa_nil))))))))))), ?_⟩
  refine ⟨.ref a, rfl, a, _, rfl, SqT.of ha, rfl, .int ff, _, rfl, optV past, _, rfl, .ref t, _, rfl, rfl, ?_⟩
  refine ⟨.ref t, rfl, .int start, rfl, optV b, rfl, t, ts, start, b, rfl, hT, fun wq H1 s1 n1 ew => ?_⟩
  refine ⟨Nat.zero_le _, fun Ls nL => ?_⟩
  have s2 := same_upd (o := .lst []) nL
  have eL : (upd H1 Ls (.lst [])) Ls = some (.lst []) := upd_same
  generalize upd H1 Ls (.lst []) = H2 at s2 eL
  intro M nM
  have s3 := same_upd (o := .dK []) nM
  have eM : (upd H2 M (.dK [])) M = some (.dK []) := upd_same
  generalize upd H2 M (.dK []) = H3 at s3 eM
  have nLH : H Ls = none := s1.free nL
  have nMH : H M = none := (s1.trans s2).free nM
  have nLM : Ls ≠ M := fun z => by rw [z] at eL; rw [eL] at nM; cases nM
  have nwL : wq ≠ Ls := fun z => by rw [z, nL] at ew; cases ew
  have nwM : wq ≠ M := fun z => by
    have := s2 _ _ ew
    rw [z, nM] at this
    cases this
  have lo := hT.lo
  have hi := hT.hi
  refine ⟨.int start, rfl, ?_⟩
  refine ⟨fun k σ H4 => ∃ vs S, ∃ kvs : List (Key × V), ∃ x : Int, ∃ y11, σ = [some (.ref a), some (.int start), some (optV b), some (.int e), some (.int ff), some (optV past), some (.ref t), some (.ref wq), some (.ref Ls), some (.ref M), some (.int x), y11] ∧ Same H H4 ∧ H4 wq = some (.lst ((ts.map (wd b start)).map V.int)) ∧
      H4 Ls = some (.lst vs) ∧ H4 M = some (.dK kvs) ∧ StAt H4 vs S ∧ Pth (Wst ff ts b start e) start S x ∧ (S.map fun s => tnI ff ts.length s.1).Nodup ∧ kvs.length ≤ S.length ∧ (∀ (i : Nat) (s : StepT), S[i]? = some s → valV kvs (Sum.inl (tnI ff ts.length s.1)) = some (.int (i : Int))) ∧
      (∀ n : Int, (∀ s ∈ S, tnI ff ts.length s.1 ≠ n) → valV kvs (Sum.inl n) = none) ∧ (S = [] → x = start) ∧ k = (e + 1 - x).toNat, ⟨_, [], [], [], start, none, rfl, (s1.trans s2).trans s3, s3 _ _ (s2 _ _ ew), s3 _ _ eL, eM, ⟨rfl, fun i s h => by cases i <;> cases h⟩, rfl, List.nodup_nil, Nat.le_refl 0, fun i s h => (by cases i <;> cases h), fun n _ => rfl, fun _ => rfl, rfl⟩, fun k σ H4 ⟨vs, S, kvs, x, y11, eσ, s4, ew4, eL4, eM4, hSt, hP, hnd, hkl, hm1, hm2, hS0, hk⟩ => ?_⟩
  subst eσ
  have hS8 : S.length ≤ 8 := by
    have h1 := pig ts.length (S.map fun s => tnI ff ts.length s.1) hnd fun y hy => by
      obtain ⟨s, _, rfl⟩ := List.mem_map.mp hy
      exact ⟨Int.emod_nonneg _ (by omega), Int.emod_lt_of_pos _ (by omega)⟩
    rw [List.length_map] at h1
    omega
  refine ⟨.int x, rfl, .int e, rfl, x, e, rfl, rfl, _, rfl, ?_⟩
  by_cases c : x ≤ e
  · rw [decide_eq_true c]
    refine iteT ⟨fun σ' H' => ∃ m', m' < k ∧ ∃ vs S, ∃ kvs : List (Key × V), ∃ x : Int, ∃ y11, σ' = [some (.ref a), some (.int start), some (optV b), some (.int e), some (.int ff), some (optV past), some (.ref t), some (.ref wq), some (.ref Ls), some (.ref M), some (.int x), y11] ∧ Same H H' ∧ H' wq = some (.lst ((ts.map (wd b start)).map V.int)) ∧
      H' Ls = some (.lst vs) ∧ H' M = some (.dK kvs) ∧ StAt H' vs S ∧ Pth (Wst ff ts b start e) start S x ∧ (S.map fun s => tnI ff ts.length s.1).Nodup ∧ kvs.length ≤ S.length ∧ (∀ (i : Nat) (s : StepT), S[i]? = some s → valV kvs (Sum.inl (tnI ff ts.length s.1)) = some (.int (i : Int))) ∧
      (∀ n : Int, (∀ s ∈ S, tnI ff ts.length s.1 ≠ n) → valV kvs (Sum.inl n) = none) ∧ (S = [] → x = start) ∧ m' = (e + 1 - x).toNat, fun σ' H' ⟨m', h1, h2⟩ => ⟨m', h1, h2⟩, ?_⟩
    obtain ⟨zs, ht, hz⟩ := hT.ex
    have lz : zs.length = ts.length := hz.length
    refine ⟨.int x, rfl, .int ff, rfl, x, ff, rfl, rfl, .ref t, rfl, t, zs, rfl, .inr (SqT.of (s4 _ _ ht)), x - ff, (zs.length : Int), rfl, rfl, by show (0 : Int) < (zs.length : Int); omega, ?_⟩
    dsimp only
    have etn : (x - ff) % (zs.length : Int) = tnI ff ts.length x := by rw [lz]; rfl
    rw [etn]
    have tn0 : 0 ≤ tnI ff ts.length x := Int.emod_nonneg _ (by omega)
    have tn1 : tnI ff ts.length x < (ts.length : Int) := Int.emod_lt_of_pos _ (by omega)
    refine ⟨.int (tnI ff ts.length x), rfl, .ref M, rfl, M, _, rfl, DGet.k (k := Sum.inl (tnI ff ts.length x)) eM4, _, rfl, ?_⟩
    cases hv : valV kvs (Sum.inl (tnI ff ts.length x)) with
    | some v =>
      -- it comes again
      obtain ⟨s, hs, hst⟩ : ∃ s ∈ S, tnI ff ts.length s.1 = tnI ff ts.length x := by
        by_cases h : ∃ s ∈ S, tnI ff ts.length s.1 = tnI ff ts.length x
        · exact h
        · rw [hm2 _ fun s hs z => h ⟨s, hs, z⟩] at hv
          cases hv
      obtain ⟨i, hi'⟩ := List.getElem?_of_mem hs
      have hvi := hm1 i s hi'
      rw [hst, hv] at hvi
      cases hvi
      have li : i < S.length := (List.getElem?_eq_some_iff.mp hi').1
      refine iteT ?_
      refine ⟨.ref Ls, rfl, .ref M, rfl, .int (tnI ff ts.length x), rfl, M, .int (i : Int), rfl, by rw [← hv]; exact DGet.k (k := Sum.inl (tnI ff ts.length x)) eM4, (i : Int), rfl, Ls, vs, rfl, SqL.of eL4, fun A1 nA => ?_⟩
      rw [cut_to]
      have s5 := same_upd (o := .lst (vs.take i)) nA
      have eA : (upd H4 A1 (.lst (vs.take i))) A1 = some (.lst (vs.take i)) := upd_same
      generalize upd H4 A1 (.lst (vs.take i)) = H5 at s5 eA
      refine ⟨.ref Ls, rfl, .ref M, rfl, .int (tnI ff ts.length x), rfl, M, .int (i : Int), rfl, by rw [← hv]; exact DGet.k (k := Sum.inl (tnI ff ts.length x)) (s5 _ _ eM4), (i : Int), rfl, Ls, vs, rfl, SqL.of (s5 _ _ eL4), fun B1 nB => ?_⟩
      rw [cut_from]
      have s6 := same_upd (o := .lst (vs.drop i)) nB
      have eB : (upd H5 B1 (.lst (vs.drop i))) B1 = some (.lst (vs.drop i)) := upd_same
      generalize upd H5 B1 (.lst (vs.drop i)) = H6 at s6 eB
      refine ⟨small_le (by show 2 ≤ 1000; decide), fun pr npr => ?_⟩
      have s7 := same_upd (o := .tup [.ref A1, .ref B1]) npr
      have s47 := (s5.trans s6).trans s7
      refine q pr A1 B1 (vs.take i) (vs.drop i) (S.take i) (S.drop i) x _ (s4.trans s47) (s4.free nA) ((s4.trans s5).free nB) upd_same (s7 _ _ (s6 _ _ eA)) (s7 _ _ eB) ((hSt.take i).kt (KT.of s47)) ((hSt.drop i).kt (KT.of s47)) ⟨?_, ?_, ?_, fun z => ?_, fun s' T' z => ?_⟩
      · rw [List.take_append_drop]; exact hP
      · rw [List.take_append_drop]
        intro z
        rw [z] at li
        exact absurd li (Nat.not_lt_zero _)
      · rw [List.take_append_drop]; exact hS8
      · have := congrArg List.length z
        rw [List.length_drop] at this
        simp at this
        omega
      · refine ⟨c, ?_⟩
        have h0 : (S.drop i)[0]? = some s' := by rw [z]; rfl
        rw [List.getElem?_drop, Nat.add_zero, hi'] at h0
        cases h0
        exact hst.symm
    | none =>
      refine iteF ?_
      obtain ⟨d, hd⟩ : ∃ d, ts[(tnI ff ts.length x).toNat]? = some d := ⟨_, List.getElem?_eq_getElem (by omega)⟩
      have hnew : ∀ s ∈ S, tnI ff ts.length s.1 ≠ tnI ff ts.length x := fun s hs z => by
        obtain ⟨i, hi'⟩ := List.getElem?_of_mem hs
        have := hm1 i s hi'
        rw [z, hv] at this
        cases this
      have hl := hSt.len
      -- met[turn] = len(steps)
      refine ⟨.ref Ls, rfl, Ls, vs, rfl, .inl (SqL.of eL4), .ref M, rfl, .int (tnI ff ts.length x), rfl, M, _, rfl, DPut.k (k := Sum.inl (tnI ff ts.length x)) eM4 (by omega), ?_⟩
      have eM5 : (upd H4 M (.dK (putK kvs (Sum.inl (tnI ff ts.length x)) (.int (vs.length : Int))))) M = some (.dK (putK kvs (Sum.inl (tnI ff ts.length x)) (.int (vs.length : Int)))) := upd_same
      have k45 : KT H4 (upd H4 M (.dK (putK kvs (Sum.inl (tnI ff ts.length x)) (.int (vs.length : Int))))) := KT.upd fun xs z => by rw [eM4] at z; cases z
      have s5 : Same H (upd H4 M (.dK (putK kvs (Sum.inl (tnI ff ts.length x)) (.int (vs.length : Int))))) := fun p o hp => by
        rw [upd_ne (fun z => by rw [z, nMH] at hp; cases hp)]
        exact s4 _ _ hp
      have eL5 : (upd H4 M (.dK (putK kvs (Sum.inl (tnI ff ts.length x)) (.int (vs.length : Int))))) Ls = some (.lst vs) := by rw [upd_ne nLM]; exact eL4
      have ew5 : (upd H4 M (.dK (putK kvs (Sum.inl (tnI ff ts.length x)) (.int (vs.length : Int))))) wq = some (.lst ((ts.map (wd b start)).map V.int)) := by rw [upd_ne nwM]; exact ew4
      generalize upd H4 M (.dK (putK kvs (Sum.inl (tnI ff ts.length x)) (.int (vs.length : Int)))) = H5 at eM5 k45 s5 eL5 ew5
      have hw : atI ((ts.map (wd b start)).map V.int) (tnI ff ts.length x) = some (.int (wd b start d)) := by
        have := atI_nat (xs := (ts.map (wd b start)).map V.int) (j := (tnI ff ts.length x).toNat) (v := .int (wd b start d)) (by rw [List.getElem?_map, List.getElem?_map, hd]; rfl)
        rw [Int.toNat_of_nonneg tn0] at this
        exact this
      refine ⟨.ref Ls, rfl, .inl ⟨rfl, _, SqL.of eL5⟩, .int x, rfl, .ref wq, rfl, .int (tnI ff ts.length x), rfl, wq, _, tnI ff ts.length x, .int (wd b start d), rfl, rfl, SqL.of ew5, hw, small_le (by show 2 ≤ 1000; decide), fun u nu => ?_⟩
      have s6 := same_upd (o := .tup [.int x, .int (wd b start d)]) nu
      have eu : (upd H5 u (.tup [.int x, .int (wd b start d)])) u = some (.tup [.int x, .int (wd b start d)]) := upd_same
      generalize upd H5 u (.tup [.int x, .int (wd b start d)]) = H6 at s6 eu
      have eL6 := s6 _ _ eL5
      refine ⟨Ls, _, _, rfl, rfl, eL6, by omega, ?_⟩
      have k67 : KT H6 (upd H6 Ls (.lst (vs ++ [.ref u]))) := KT.upd fun xs z => by rw [eL6] at z; cases z
      have ew7 : (upd H6 Ls (.lst (vs ++ [.ref u]))) wq = some (.lst ((ts.map (wd b start)).map V.int)) := by rw [upd_ne nwL]; exact s6 _ _ ew5
      have eM7 : (upd H6 Ls (.lst (vs ++ [.ref u]))) M = some (.dK (putK kvs (Sum.inl (tnI ff ts.length x)) (.int (vs.length : Int)))) := by rw [upd_ne (Ne.symm nLM)]; exact s6 _ _ eM5
      have s7 : Same H (upd H6 Ls (.lst (vs ++ [.ref u]))) := fun p o hp => by
        rw [upd_ne (fun z => by rw [z, nLH] at hp; cases hp)]
        exact s6 _ _ (s5 _ _ hp)
      refine ⟨.int x, rfl, .ref wq, rfl, .int (tnI ff ts.length x), rfl, wq, _, tnI ff ts.length x, .int (wd b start d), rfl, rfl, SqL.of ew7, hw, wd b start d, 1, rfl, x, _, rfl, rfl, ?_⟩
      have hmx : (if (1 : Int) > wd b start d then 1 else wd b start d) = max (wd b start d) 1 := by split <;> omega
      have hst7 := (hSt.kt ((k45.trans (KT.of s6)).trans k67)).snoc (b := u) (s := (x, wd b start d)) (k67 _ _ eu)
      refine ⟨(e + 1 - (x + max (wd b start d) 1)).toNat, by omega, vs ++ [.ref u], S ++ [(x, wd b start d)], _, x + max (wd b start d) 1, some (.int (tnI ff ts.length x)), by rw [hmx]; rfl, s7, ew7, upd_same, eM7, hst7, hP.snoc ⟨c, d, hd, rfl⟩, ?_, ?_, fun i s hs => ?_, fun n hn => ?_, fun z => by simp at z, rfl⟩
      · rw [List.map_append, List.nodup_append]
        refine ⟨hnd, List.pairwise_singleton _ _, fun y hy z hz => ?_⟩
        obtain ⟨s, hs, rfl⟩ := List.mem_map.mp hy
        have : z = tnI ff ts.length x := List.mem_singleton.mp hz
        rw [this]
        exact hnew s hs
      · rw [List.length_append, List.length_singleton]
        have : (putK kvs (Sum.inl (tnI ff ts.length x)) (V.int (vs.length : Int))).length ≤ kvs.length + 1 := by
          unfold putK
          split
          · rw [List.length_map]; exact Nat.le_succ _
          · rw [List.length_append]; exact Nat.le_refl _
        omega
      · rw [valV_put]
        by_cases c2 : i < S.length
        · rw [List.getElem?_append_left c2] at hs
          rw [if_neg (fun z => hnew s (List.mem_of_getElem? hs) (Sum.inl.inj z))]
          exact hm1 i s hs
        · have hi2 : i = S.length := by
            obtain ⟨l, _⟩ := List.getElem?_eq_some_iff.mp hs
            rw [List.length_append, List.length_singleton] at l
            omega
          subst hi2
          rw [List.getElem?_concat_length] at hs
          cases hs
          rw [if_pos rfl, hl]
      · rw [valV_put, if_neg (fun z => hn (x, wd b start d) (List.mem_append_right _ (List.mem_singleton.mpr rfl)) (Sum.inl.inj z).symm)]
        exact hm2 n fun s hs => hn s (List.mem_append_left _ hs)
  · rw [decide_eq_false c]
    refine iteF ?_
    refine ⟨.ref Ls, rfl, Nat.zero_le _, fun B1 nB => ?_⟩
    have s5 := same_upd (o := .lst []) nB
    have eB : (upd H4 B1 (.lst [])) B1 = some (.lst []) := upd_same
    generalize upd H4 B1 (.lst []) = H5 at s5 eB
    refine ⟨small_le (by show 2 ≤ 1000; decide), fun pr npr => ?_⟩
    have s6 := same_upd (o := .tup [.ref Ls, .ref B1]) npr
    have s46 := s5.trans s6
    refine q pr Ls B1 vs [] S [] x _ (s4.trans s46) nLH (s4.free nB) upd_same (s46 _ _ eL4) (s6 _ _ eB) (hSt.kt (KT.of s46)) ⟨rfl, fun i s h => by cases i <;> cases h⟩ ⟨?_, ?_, ?_, fun _ => by omega, fun s' T' z => by cases z⟩
    · rw [List.append_nil]; exact hP
    · rw [List.append_nil]
      intro z
      have := hS0 z
      omega
    · rw [List.append_nil]; exact hS8
end
end CL
set_option Elab.async false
set_option linter.all false
set_option pp.maxSteps 400
set_option maxRecDepth 100000
set_option maxHeartbeats 4000000
namespace CL
open PySem PySem.Spec PyProof.Rows L2 GE
abbrev sInit : Stmt := inClass (topS 20) 0
abbrev nInit : List Str := ["self", "steps", "room", "person", "width"]
theorem scInit : FnScope nInit ["self", "steps", "room"] (defScope sInit) := ⟨rfl, rfl, rfl, by decide +kernel, rfl, by decide +kernel, by decide +kernel⟩
abbrev sRuns : Stmt := topS 21
abbrev nRuns : List Str := ["pieces", "start", "bound", "stop", "runs", "ahead", "piece", "end", "once", "again"]
theorem scRuns : FnScope nRuns ["pieces", "start", "bound", "stop"] (defScope sRuns) := ⟨rfl, rfl, rfl, by decide +kernel, rfl, by decide +kernel, by decide +kernel⟩
/-! ### how far the steps go -/
def lenR (S : List StepT) : Int := (S.map fun s => max s.2 1).sum
def spareR (S : List StepT) : Nat := (S.filter fun s => decide (s.2 = 0)).length
theorem lenR_cons (s : StepT) (S : List StepT) : lenR (s :: S) = max s.2 1 + lenR S := rfl
theorem lenR_pos : ∀ S : List StepT, (S.length : Int) ≤ lenR S
  | [] => Int.le_refl 0
  | s :: S => by
    have := lenR_pos S
    rw [lenR_cons, List.length_cons]
    omega
theorem lenR_sum : ∀ S : List StepT, (∀ s ∈ S, 0 ≤ s.2) → (spareR S : Int) + (S.map (·.2)).sum = lenR S
  | [], _ => rfl
  | s :: S, h => by
    have ih := lenR_sum S fun x hx => h x (List.mem_cons_of_mem _ hx)
    have h0 := h s List.mem_cons_self
    rw [lenR_cons, List.map_cons, List.sum_cons]
    by_cases c : s.2 = 0
    · have e : spareR (s :: S) = spareR S + 1 := by unfold spareR; rw [List.filter_cons, if_pos (by simpa using c)]; rfl
      rw [e]
      omega
    · have e : spareR (s :: S) = spareR S := by unfold spareR; rw [List.filter_cons, if_neg (by simpa using c)]
      rw [e]
      omega
theorem lenR_le {m : Int} : ∀ S : List StepT, (∀ s ∈ S, s.2 ≤ m) → 1 ≤ m → lenR S ≤ S.length * m
  | [], _, _ => by simp [lenR]
  | s :: S, h, hm => by
    have ih := lenR_le S (fun x hx => h x (List.mem_cons_of_mem _ hx)) hm
    have h0 := h s List.mem_cons_self
    have e : ((s :: S).length : Int) * m = m + S.length * m := by
      rw [List.length_cons, Int.natCast_add, Int.add_mul]
      omega
    rw [lenR_cons, e]
    omega
theorem Pth.end_ {W : Int → Int → Prop} : ∀ {S : List StepT} {a c : Int}, Pth W a S c → c = a + lenR S
  | [], a, c, h => by
    obtain rfl : a = c := h
    exact (Int.add_zero a).symm
  | s :: S, a, c, h => by
    have := Pth.end_ h.2.2
    rw [lenR_cons]
    omega
def shift (d : Int) (S : List StepT) : List StepT := S.map fun s => (s.1 + d, s.2)
theorem Pth.shift {W W' : Int → Int → Prop} {d : Int} : ∀ {S : List StepT} {a c : Int}, Pth W a S c → (∀ s ∈ S, W s.1 s.2 → W' (s.1 + d) s.2) → Pth W' (a + d) (shift d S) (c + d)
  | [], a, c, h, _ => by
    obtain rfl : a = c := h
    exact rfl
  | s :: S, a, c, h, hw => by
    have ih := Pth.shift h.2.2 fun x hx => hw x (List.mem_cons_of_mem _ hx)
    refine ⟨by show s.1 + d = a + d; rw [h.1], hw s List.mem_cons_self h.2.1, ?_⟩
    rw [show a + d + max s.2 1 = a + max s.2 1 + d by omega]
    exact ih
theorem Pth.imp {W W' : Int → Int → Prop} : ∀ {S : List StepT} {a c : Int}, Pth W a S c → (∀ s ∈ S, W s.1 s.2 → W' s.1 s.2) → Pth W' a S c
  | [], a, c, h, _ => h
  | s :: S, a, c, h, hw => ⟨h.1, hw s List.mem_cons_self h.2.1, Pth.imp h.2.2 fun x hx => hw x (List.mem_cons_of_mem _ hx)⟩
/-! ### runs -/
structure RunT where
  steps : List StepT
  times : Nat
/-- the window of the one who comes at x -/
def WP (ps : List PieceT) (b : Option Int) (x w : Int) : Prop := ∃ pc t, ps.find? (comes x) = some pc ∧ pc.2.2[(tnI pc.1 pc.2.2.length x).toNat]? = some t ∧ w = wd b x t
def WS (ps : List PieceT) (b : Option Int) (stop x w : Int) : Prop := x ≤ stop ∧ WP ps b x w
structure RunOk (ps : List PieceT) (b : Option Int) (stop a : Int) (r : RunT) : Prop where
  ne : r.steps ≠ []
  times : 1 ≤ r.times
  len : r.steps.length ≤ 8
  path : ∀ k : Nat, k < r.times → Pth (WS ps b stop) (a + k * lenR r.steps) (shift (k * lenR r.steps) r.steps) (a + (k * lenR r.steps + lenR r.steps))
  rep : ∀ (y : Int) pc t, a ≤ y → y + lenR r.steps < a + r.times * lenR r.steps → ps.find? (comes y) = some pc → pc.2.2[(tnI pc.1 pc.2.2.length y).toNat]? = some t → ps.find? (comes (y + lenR r.steps)) = some pc ∧ pc.2.2[(tnI pc.1 pc.2.2.length (y + lenR r.steps)).toNat]? = some t
def Lvl (ps : List PieceT) (b : Option Int) (stop : Int) : Int → List RunT → Int → Prop
  | a, [], c => a = c
  | a, r :: rs, c => RunOk ps b stop a r ∧ Lvl ps b stop (a + r.times * lenR r.steps) rs c
theorem Lvl.snoc {ps : List PieceT} {b : Option Int} {stop : Int} : ∀ {rs : List RunT} {a x : Int} {r : RunT}, Lvl ps b stop a rs x → RunOk ps b stop x r → Lvl ps b stop a (rs ++ [r]) (x + r.times * lenR r.steps)
  | [], a, x, r, h, hr => by
    obtain rfl : a = x := h
    exact ⟨hr, rfl⟩
  | s :: rs, a, x, r, h, hr => ⟨h.1, Lvl.snoc h.2 hr⟩
theorem comes_on {ps : List PieceT} {pc : PieceT} {x y : Int} (h : ps.find? (comes x) = some pc) (hxy : x ≤ y) (hp : ∀ m, pc.2.1 = some m → y < m) : ps.find? (comes y) = some pc := by
  rw [List.find?_eq_some_iff_append] at h ⊢
  obtain ⟨h1, as, bs, e, h2⟩ := h
  refine ⟨?_, as, bs, e, fun z hz => ?_⟩
  · unfold comes
    cases e2 : pc.2.1 with
    | none => rfl
    | some m => exact decide_eq_true (hp m e2)
  · have := h2 z hz
    unfold comes at this ⊢
    cases e2 : z.2.1 with
    | none => rw [e2] at this; cases this
    | some m =>
      rw [e2] at this
      have h3 : ¬ x < m := by simpa using this
      show (!decide (y < m)) = true
      rw [decide_eq_false (by omega)]
      rfl
theorem wd_on {past : Option Int} {ts : List PyData} {start x e stop : Int} {b : Option Int} (E : EndOk past ts start b stop e) {t : PyData} (ht : t ∈ ts) (h1 : start ≤ x) (h2 : x ≤ e) : wd b start t = wd b x t := by
  cases t with
  | int p =>
    cases b with
    | none => rfl
    | some m =>
      show (if start + p ≤ m then p + 1 else 0) = if x + p ≤ m then p + 1 else 0
      by_cases c : start + p ≤ m
      · have := E.fit m rfl p ht (by omega)
        rw [if_pos c, if_pos (by omega)]
      · rw [if_neg c, if_neg (by omega)]
  | _ => cases b <;> rfl
theorem wst_on {ps : List PieceT} {pc : PieceT} {start x e stop w : Int} {b : Option Int} (hf : ps.find? (comes start) = some pc) (E : EndOk pc.2.1 pc.2.2 start b stop e) (h1 : start ≤ x) (hw : Wst pc.1 pc.2.2 b start e x w) {d : Int} (h0 : 0 ≤ d) (h2 : x + d ≤ e) (hd : d % (pc.2.2.length : Int) = 0) : WS ps b stop (x + d) w := by
  obtain ⟨_, t, ht, rfl⟩ := hw
  have hi := E.hi
  refine ⟨by omega, pc, t, comes_on hf (by omega) fun m e2 => by have := E.pst m e2; omega, ?_, wd_on E (List.mem_of_getElem? ht) (by omega) h2⟩
  have e3 : tnI pc.1 pc.2.2.length (x + d) = tnI pc.1 pc.2.2.length x := by
    unfold tnI
    rw [show x + d - pc.1 = x - pc.1 + d by omega, Int.add_emod, hd, Int.add_zero, Int.emod_emod_of_dvd _ (Int.dvd_refl _)]
  rw [e3]
  exact ht
/-! ### how many runs there may be -/
def lgp (z : Int) : Nat := if z ≤ 0 then 0 else z.toNat.log2 + 1
theorem lgp_mono {a b : Int} (h : a ≤ b) : lgp a ≤ lgp b := by
  unfold lgp
  by_cases ha : a ≤ 0
  · rw [if_pos ha]; exact Nat.zero_le _
  · rw [if_neg ha, if_neg (by omega)]
    have h1 : 2 ^ a.toNat.log2 ≤ a.toNat := Nat.log2_self_le (by omega)
    have h2 : a.toNat.log2 ≤ b.toNat.log2 := (Nat.le_log2 (by omega)).mpr (Nat.le_trans h1 (by omega))
    omega
theorem lgp_half {a b : Int} (h : 2 * a < b) (hb : 0 < b) : lgp a < lgp b := by
  unfold lgp
  rw [if_neg (by omega : ¬ b ≤ 0)]
  by_cases ha : a ≤ 0
  · rw [if_pos ha]; omega
  · rw [if_neg ha]
    have h1 : 2 ^ a.toNat.log2 ≤ a.toNat := Nat.log2_self_le (by omega)
    have h2 : a.toNat.log2 + 1 ≤ b.toNat.log2 := (Nat.le_log2 (by omega)).mpr (by rw [Nat.pow_succ]; omega)
    omega
theorem lgp_le {z : Int} (h : z < 2 ^ 140) : lgp z ≤ 140 := by
  unfold lgp
  split
  · exact Nat.zero_le _
  · have : z.toNat.log2 < 140 := (Nat.log2_lt (by omega)).mpr (by omega)
    omega
def phi (B : List Int) (x : Int) : Nat := (B.map fun b => lgp (b + 1 - x)).sum
theorem phi_cons (b : Int) (B : List Int) (x : Int) : phi (b :: B) x = lgp (b + 1 - x) + phi B x := rfl
theorem phi_mono : ∀ (B : List Int) {x y : Int}, x ≤ y → phi B y ≤ phi B x
  | [], _, _, _ => Nat.le_refl 0
  | b :: B, x, y, h => by
    have h1 := phi_mono B h
    have h2 := lgp_mono (show b + 1 - y ≤ b + 1 - x by omega)
    rw [phi_cons, phi_cons]
    omega
theorem phi_less : ∀ (B : List Int) {e x y : Int}, e ∈ B → x ≤ y → lgp (e + 1 - y) < lgp (e + 1 - x) → phi B y < phi B x
  | b :: B, e, x, y, he, h, hl => by
    rw [phi_cons, phi_cons]
    rcases List.mem_cons.mp he with rfl | he
    · have := phi_mono B h
      omega
    · have h1 := phi_less B he h hl
      have h2 := lgp_mono (show b + 1 - y ≤ b + 1 - x by omega)
      omega
theorem phi_le : ∀ (B : List Int) {x : Int}, (∀ b ∈ B, b + 1 - x < 2 ^ 140) → phi B x ≤ 140 * B.length
  | [], _, _ => Nat.le_refl 0
  | b :: B, x, h => by
    have h1 := phi_le B fun y hy => h y (List.mem_cons_of_mem _ hy)
    have h2 := lgp_le (h b List.mem_cons_self)
    rw [phi_cons, List.length_cons]
    omega
/-- all numbers at which a stretch may end -/
def breaks (ps : List PieceT) (b : Option Int) (stop : Int) : List Int := stop :: ((ps.filterMap fun pc => pc.2.1.map fun m => m - 1) ++ match b with
  | some m => ps.flatMap fun pc => fitsOf m pc.2.2
  | none => [])
theorem mem_breaks {ps : List PieceT} {pc : PieceT} {start e stop : Int} {b : Option Int} (hm : pc ∈ ps) (E : EndOk pc.2.1 pc.2.2 start b stop e) : e ∈ breaks ps b stop := by
  unfold breaks
  rcases E.from_ with h | h | ⟨m, p, rfl, hp, rfl⟩
  · rw [h]; exact List.mem_cons_self
  · refine List.mem_cons_of_mem _ (List.mem_append_left _ (List.mem_filterMap.mpr ⟨pc, hm, ?_⟩))
    rw [h]
    show some (e + 1 - 1) = some e
    rw [Int.add_sub_cancel]
  · exact List.mem_cons_of_mem _ (List.mem_append_right _ (List.mem_flatMap.mpr ⟨pc, hm, mem_fits.mpr ⟨p, hp, rfl⟩⟩))
theorem fits_len (m : Int) (ts : List PyData) : (fitsOf m ts).length ≤ ts.length := List.length_filterMap_le _ ts
theorem breaks_len {ps : List PieceT} {b : Option Int} {stop : Int} (h8 : ps.length ≤ 8) (ht : ∀ pc ∈ ps, pc.2.2.length ≤ 8) : (breaks ps b stop).length ≤ 73 := by
  have h1 := List.length_filterMap_le (fun pc : PieceT => pc.2.1.map fun m => m - 1) ps
  have h2 : ∀ (m : Int) (ps : List PieceT), (∀ pc ∈ ps, pc.2.2.length ≤ 8) → (ps.flatMap fun pc => fitsOf m pc.2.2).length ≤ 8 * ps.length := fun m ps => by
    induction ps with
    | nil => intro _; exact Nat.le_refl 0
    | cons pc ps ih =>
      intro h
      have i1 := ih fun x hx => h x (List.mem_cons_of_mem _ hx)
      have i2 := fits_len m pc.2.2
      have i3 := h pc List.mem_cons_self
      rw [List.flatMap_cons, List.length_append, List.length_cons]
      omega
  unfold breaks
  rw [List.length_cons, List.length_append]
  cases b with
  | none => show _ + 0 + 1 ≤ 73; omega
  | some m =>
    have := h2 m ps ht
    show _ + (ps.flatMap fun pc => fitsOf m pc.2.2).length + 1 ≤ 73
    omega
/-- what the class of runs is -/
structure RunC (K : PySem.W.Frag) (mg : Str → Option Value) (C fI : Addr) : Prop where
  cl : Cls K C
  nSt : NoAttr K C "steps"
  nSp : NoAttr K C "spare"
  nLe : NoAttr K C "length"
  nTi : NoAttr K C "times"
  g : mg "Run" = some (.ref C)
  make : Mk K C fI
/-- what a run holds -/
def rf (p : Addr) (S : List StepT) (t : Int) : List (Str × V) := putF "times" (.int t) (putF "length" (.int (lenR S)) (putF "spare" (.int (spareR S : Nat)) (putF "steps" (.ref p) [])))
theorem putF_len (f : Str) (v : V) : ∀ fs : List (Str × V), (putF f v fs).length ≤ fs.length + 1
  | [] => Nat.le_refl _
  | (g, x) :: r => by
    have ih := putF_len f v r
    unfold putF
    split
    · exact Nat.le_succ _
    · rw [List.length_cons, List.length_cons]
      omega
theorem pl1 (f : Str) (v : V) : (putF f v []).length < 1000 := Nat.lt_of_le_of_lt (putF_len f v []) (by show 0 + 1 < 1000; decide)
theorem pl2 (f g : Str) (v y : V) : (putF f v (putF g y [])).length < 1000 := by
  have := putF_len f v (putF g y [])
  have := putF_len g y []
  simp at *
  omega
theorem pl3 (f g h : Str) (v y z : V) : (putF f v (putF g y (putF h z []))).length < 1000 := by
  have := putF_len f v (putF g y (putF h z []))
  have := putF_len g y (putF h z [])
  have := putF_len h z []
  simp at *
  omega
theorem rf_times (p : Addr) (S : List StepT) (t : Int) : (rf p S t).lookup ("times" : Str) = some (.int t) := by
  unfold rf
  rw [lookup_putF, if_pos rfl]
theorem rf_length (p : Addr) (S : List StepT) (t : Int) : (rf p S t).lookup ("length" : Str) = some (.int (lenR S)) := by
  unfold rf
  rw [lookup_putF, if_neg (by decide +kernel), lookup_putF, if_pos rfl]
theorem rf_spare (p : Addr) (S : List StepT) (t : Int) : (rf p S t).lookup ("spare" : Str) = some (.int (spareR S : Nat)) := by
  unfold rf
  rw [lookup_putF, if_neg (by decide +kernel), lookup_putF, if_neg (by decide +kernel), lookup_putF, if_pos rfl]
theorem rf_steps (p : Addr) (S : List StepT) (t : Int) : (rf p S t).lookup ("steps" : Str) = some (.ref p) := by
  unfold rf
  rw [lookup_putF, if_neg (by decide +kernel), lookup_putF, if_neg (by decide +kernel), lookup_putF, if_neg (by decide +kernel), lookup_putF, if_pos rfl]
def timesOf (S : List StepT) (room : Int) : Int := max 1 (room / lenR S)
def spInit (C : Addr) : Sp := fun vs H Q _ => ∃ x p dx vs' S, ∃ room : Int, vs = [.ref x, .ref p, .int room] ∧ H x = some (.ins C dx []) ∧ H p = some (.lst vs') ∧ StAt H vs' S ∧ S ≠ [] ∧ S.length ≤ 8 ∧ (∀ s ∈ S, 0 ≤ s.2 ∧ s.2 ≤ GREAT + 1) ∧ ∀ H' dx, (∀ c o, H c = some o → c ≠ x → H' c = some o) → H' x = some (.ins C dx (rf p S (timesOf S room))) → Q .non H'
section
variable {P : Program} {w : World} {K : PySem.W.Frag} {mg : Str → Option Value} {base : Heap}
theorem ok_init {f C : Addr} {fd : FuncData} (F : Fun K "__init__" "Run.__init__" sInit f fd) (T : Nm mg) (hmax : mg "max" = none) {fI : Addr} (TC : RunC K mg C fI) : FnOk P w K mg base CX0 1 f fd ["self", "steps", "room"] (spInit C) := by
  refine F.ok scInit (fun vs H Q E ⟨x, p, dx, vs', S, room, e, _⟩ => by rw [e]; rfl) (fun cdv A outer s H vs Q E hr h => ?_)
  obtain ⟨x, p, dx, vs', S, room, rfl, hx, hp, hSt, hne, h8, hw, q⟩ := h
  have nd := scInit.nd
  have sz := sz5000
  refine ⟨_, (pss_cons (ps_fld (pv 0) (pv 1) rfl)
    (pss_cons (ps_fld (pv 0) (pe_callB call_len_seq (by rfl) T.len PySem.boot_len (pa_cons (pe_lc (own := [("person", 3), ("width", 4)]) (g := gTup K 2 (gCons (gName 3) (gCons (gName 4) gNil)))  rfl nd (pi_list (pv 1)) (blkOk_by (N := nInit) (sc := defScope sInit) (by decide +kernel))
        (fun _ _ _ _ _ => pg_tup rfl (pgs_cons (pg_name (i := 3) nd rfl (.inl rfl) (.inr rfl)) (pgs_cons (pg_name (i := 4) nd rfl (.inl rfl) (.inr rfl)) pgs_nil))) (fun _ _ _ _ _ => pts_one (pt_cmpR op_eq (pv 4) pe_int (nomark _))) (fun _ _ _ _ _ => (pv 4))) pa_nil)) rfl)
    (pss_cons (ps_fld (pv 0) (pe_op op_add (pe_fld (pv 0) rfl) (pe_callB (cr_sum rfl) (by rfl) T.sum (by decide +kernel) (pa_cons (pe_lc (own := [("person", 3), ("width", 4)]) (g := gTup K 2 (gCons (gName 3) (gCons (gName 4) gNil))) (tt := tYes) rfl nd (pi_list (pv 1)) (blkOk_by (N := nInit) (sc := defScope sInit) (by decide +kernel))
        (fun _ _ _ _ _ => pg_tup rfl (pgs_cons (pg_name (i := 3) nd rfl (.inl rfl) (.inr rfl)) (pgs_cons (pg_name (i := 4) nd rfl (.inl rfl) (.inr rfl)) pgs_nil))) (fun _ _ _ _ _ => pts_nil) (fun _ _ _ _ _ => (pv 4))) pa_nil))) rfl)
    (pss_one (ps_fld (pv 0) (pe_callB (call_max2 rfl) (by rfl) hmax (by decide +kernel) (pa_cons pe_int (pa_cons (pe_op op_fdivW (pv 2) (pe_fld (pv 0) rfl)) pa_nil))) rfl))))), ?_⟩
  have npx : p ≠ x := fun z => by rw [z, hx] at hp; cases hp
  have lv := hSt.len
  -- self.steps = steps
  refine ⟨.ref p, rfl, .ref x, rfl, x, C, dx, [], rfl, hx, TC.cl, TC.nSt, by decide, ?_⟩
  have k1 : ∀ c o, H c = some o → c ≠ x → (upd H x (.ins C dx (putF "steps" (.ref p) []))) c = some o := fun c o h n => by rw [upd_ne n]; exact h
  have e1 : (upd H x (.ins C dx (putF "steps" (.ref p) []))) x = some (.ins C dx (putF "steps" (.ref p) [])) := upd_same
  generalize upd H x (.ins C dx (putF "steps" (.ref p) [])) = H1 at k1 e1
  have tupx : ∀ {c : Addr} {xs : List V}, H c = some (.tup xs) → c ≠ x := fun {c xs} h z => by rw [z, hx] at h; cases h
  have st1 : StAt H1 vs' S := hSt.kt fun c xs h => k1 c _ h (tupx h)
  have hp1 := k1 p _ hp npx
  -- the spare ones
  have comp : ∀ {H1 : Hp} {Qd : Hp → Prop} {D : Addr} {σ : L2.St}, H1 D = none → H1 p = some (.lst vs') → StAt H1 vs' S → True := fun _ _ _ => trivial
  refine ⟨.ref p, rfl, p, rfl, ⟨vs', SqL.of hp1⟩, fun D nD => ?_⟩
  refine lc_list (xs := vs') (fun i H5 => H5 = upd H1 D (.lst ((((S.take i).filter fun s => decide (s.2 = 0)).map (·.2)).map V.int))) rfl (fun i H5 _ e => by rw [e]; exact SqL.of (same_upd nD _ _ hp1)) (fun i v H5 hv e => ?_) (fun H5 e => ?_)
  · subst e
    have li : i < S.length := by rw [← lv]; exact (List.getElem?_eq_some_iff.mp hv).1
    obtain ⟨⟨a, w'⟩, hs⟩ : ∃ s, S[i]? = some s := ⟨_, List.getElem?_eq_getElem li⟩
    obtain ⟨b, hb1, hb2⟩ := st1.at_ i _ hs
    rw [hb1] at hv
    cases hv
    have hl : ((((S.take i).filter fun s => decide (s.2 = 0)).map (·.2)).map V.int).length < sizeLine := by
      rw [List.length_map, List.length_map]
      have h1 := List.length_filter_le (fun s : StepT => decide (s.2 = 0)) (S.take i)
      rw [List.length_take] at h1
      omega
    refine ⟨b, [.int a, .int w'], rfl, SqT.of (same_upd nD _ _ hb2), rfl, .int a, [.int w'], rfl, .int w', [], rfl, rfl, rfl, .int w', rfl, rfl, _, rfl, ?_⟩
    rw [List.take_add_one, hs, List.filter_append]
    by_cases c : w' = 0
    · rw [decide_eq_true (by rw [c])]
      refine iteT ⟨.int w', rfl, _, upd_same, hl, ?_⟩
      rw [upd_upd]
      show _ = upd H1 D (.lst ((((_ : List StepT) ++ List.filter (fun s : StepT => decide (s.2 = 0)) [(a, w')]).map (fun s : StepT => s.2)).map V.int))
      rw [List.filter_cons, if_pos (by simpa using c), List.map_append, List.map_append]
      rfl
    · rw [decide_eq_false (fun z => c (V.int.inj z))]
      refine iteF ?_
      show _ = upd H1 D (.lst ((((_ : List StepT) ++ List.filter (fun s : StepT => decide (s.2 = 0)) [(a, w')]).map (fun s : StepT => s.2)).map V.int))
      rw [List.filter_cons, if_neg (by simpa using c)]
      show _ = upd H1 D (.lst ((((_ : List StepT) ++ []).map (fun s : StepT => s.2)).map V.int))
      rw [List.append_nil]
  · have e' : H5 = upd H1 D (.lst (((S.filter fun s => decide (s.2 = 0)).map (·.2)).map V.int)) := by rw [e, lv, List.take_length]
    clear e
    subst e'
    have s2 := same_upd (o := .lst (((S.filter fun s => decide (s.2 = 0)).map (·.2)).map V.int)) nD
    have eD : (upd H1 D (.lst (((S.filter fun s => decide (s.2 = 0)).map (·.2)).map V.int))) D = some (.lst (((S.filter fun s => decide (s.2 = 0)).map (·.2)).map V.int)) := upd_same
    generalize upd H1 D (.lst (((S.filter fun s => decide (s.2 = 0)).map (·.2)).map V.int)) = H2 at s2 eD
    refine ⟨D, _, rfl, .inl (SqL.of eD), .ref x, rfl, x, C, dx, _, rfl, s2 _ _ e1, TC.cl, TC.nSp, pl1 _ _, ?_⟩
    have esp : ((((S.filter fun s => decide (s.2 = 0)).map (·.2)).map V.int).length : Int) = ((spareR S : Nat) : Int) := by
      rw [List.length_map, List.length_map]
      rfl
    rw [esp]
    have k3 : ∀ c o, H c = some o → c ≠ x → (upd H2 x (.ins C dx (putF "spare" (.int (spareR S : Nat)) (putF "steps" (.ref p) [])))) c = some o := fun c o h n => by rw [upd_ne n]; exact s2 _ _ (k1 c o h n)
    have e3 : (upd H2 x (.ins C dx (putF "spare" (.int (spareR S : Nat)) (putF "steps" (.ref p) [])))) x = some (.ins C dx (putF "spare" (.int (spareR S : Nat)) (putF "steps" (.ref p) []))) := upd_same
    generalize upd H2 x (.ins C dx (putF "spare" (.int (spareR S : Nat)) (putF "steps" (.ref p) []))) = H3 at k3 e3
    have hp3 := k3 p _ hp npx
    have st3 : StAt H3 vs' S := hSt.kt fun c xs h => k3 c _ h (tupx h)
    -- self.length
    refine ⟨.ref x, rfl, x, C, dx, _, .int ((spareR S : Nat) : Int), rfl, e3, TC.cl, TC.nSp, by rw [lookup_putF, if_pos rfl], ?_⟩
    refine ⟨.ref p, rfl, p, rfl, ⟨vs', SqL.of hp3⟩, fun D2 nD2 => ?_⟩
    refine lc_list (xs := vs') (fun i H5 => H5 = upd H3 D2 (.lst (((S.take i).map (·.2)).map V.int))) rfl (fun i H5 _ e => by rw [e]; exact SqL.of (same_upd nD2 _ _ hp3)) (fun i v H5 hv e => ?_) (fun H5 e => ?_)
    · subst e
      have li : i < S.length := by rw [← lv]; exact (List.getElem?_eq_some_iff.mp hv).1
      obtain ⟨⟨a, w'⟩, hs⟩ : ∃ s, S[i]? = some s := ⟨_, List.getElem?_eq_getElem li⟩
      obtain ⟨b, hb1, hb2⟩ := st3.at_ i _ hs
      rw [hb1] at hv
      cases hv
      refine ⟨b, [.int a, .int w'], rfl, SqT.of (same_upd nD2 _ _ hb2), rfl, .int a, [.int w'], rfl, .int w', [], rfl, rfl, rfl, yesT ⟨.int w', rfl, _, upd_same, by rw [List.length_map, List.length_map, List.length_take]; omega, ?_⟩⟩
      rw [upd_upd, List.take_add_one, hs, List.map_append, List.map_append]
      rfl
    · have e' : H5 = upd H3 D2 (.lst ((S.map (·.2)).map V.int)) := by rw [e, lv, List.take_length]
      clear e
      subst e'
      have s4 := same_upd (o := .lst ((S.map (·.2)).map V.int)) nD2
      have eD2 : (upd H3 D2 (.lst ((S.map (·.2)).map V.int))) D2 = some (.lst ((S.map (·.2)).map V.int)) := upd_same
      generalize upd H3 D2 (.lst ((S.map (·.2)).map V.int)) = H4 at s4 eD2
      refine ⟨D2, S.map (·.2), rfl, SqL.of eD2, ((spareR S : Nat) : Int), _, rfl, rfl, .ref x, rfl, x, C, dx, _, rfl, s4 _ _ e3, TC.cl, TC.nLe, pl2 _ _ _ _, ?_⟩
      have elen : ((spareR S : Nat) : Int) + (S.map (·.2)).sum = lenR S := lenR_sum S fun s hs => (hw s hs).1
      dsimp only
      rw [elen]
      have k5 : ∀ c o, H c = some o → c ≠ x → (upd H4 x (.ins C dx (putF "length" (.int (lenR S)) (putF "spare" (.int (spareR S : Nat)) (putF "steps" (.ref p) []))))) c = some o := fun c o h n => by rw [upd_ne n]; exact s4 _ _ (k3 c o h n)
      have e5 : (upd H4 x (.ins C dx (putF "length" (.int (lenR S)) (putF "spare" (.int (spareR S : Nat)) (putF "steps" (.ref p) []))))) x = some (.ins C dx (putF "length" (.int (lenR S)) (putF "spare" (.int (spareR S : Nat)) (putF "steps" (.ref p) [])))) := upd_same
      generalize upd H4 x (.ins C dx (putF "length" (.int (lenR S)) (putF "spare" (.int (spareR S : Nat)) (putF "steps" (.ref p) [])))) = H6 at k5 e5
      have hl1 : 1 ≤ lenR S := by
        have := lenR_pos S
        have : S.length ≠ 0 := fun z => hne (List.length_eq_zero_iff.mp z)
        omega
      have hl2 : lenR S < 2 ^ 140 := by
        have h1 := lenR_le (m := 1000000000000000000000000000001) S (fun s hs => (hw s hs).2) (by decide)
        have h2 : (S.length : Int) * 1000000000000000000000000000001 ≤ 8 * 1000000000000000000000000000001 := Int.mul_le_mul_of_nonneg_right (by omega) (by decide)
        omega
      refine ⟨.int room, rfl, .ref x, rfl, x, C, dx, _, .int (lenR S), rfl, e5, TC.cl, TC.nLe, by rw [lookup_putF, if_pos rfl], room, lenR S, rfl, rfl, wide_div (b := 140) (by omega) (by omega) (by decide) (by decide), 1, room / lenR S, rfl, .ref x, rfl, x, C, dx, _, rfl, e5, TC.cl, TC.nTi, pl3 _ _ _ _ _ _, ?_⟩
      have et : (if room / lenR S > 1 then room / lenR S else 1) = timesOf S room := by unfold timesOf; split <;> omega
      rw [et]
      exact q _ dx (fun c o h n => by rw [upd_ne n]; exact k5 c o h n) upd_same
end
end CL
set_option Elab.async false
set_option linter.all false
set_option pp.maxSteps 400
set_option maxRecDepth 100000
set_option maxHeartbeats 4000000
namespace CL
open PySem PySem.Spec PyProof.Rows L2 GE
theorem Int.dvd_sub_of_emod_eq' {a b n : Int} (h : a % n = b % n) : n ∣ a - b := Int.dvd_of_emod_eq_zero (by rw [Int.sub_emod, h, Int.sub_self, Int.zero_emod])
def RunAt (C D : Addr) (H : Hp) (v : V) (r : RunT) : Prop := ∃ x dx p vs, v = .ref x ∧ p ≠ D ∧ H x = some (.ins C dx (rf p r.steps (r.times : Int))) ∧ H p = some (.lst vs) ∧ StAt H vs r.steps
structure RunsAt (C D : Addr) (H : Hp) (vs : List V) (rs : List RunT) : Prop where
  len : vs.length = rs.length
  at_ : ∀ (i : Nat) (r : RunT), rs[i]? = some r → ∃ v, vs[i]? = some v ∧ RunAt C D H v r
theorem RunAt.kd {C D : Addr} {H H' : Hp} {v : V} {r : RunT} {ws : List V} (h : RunAt C D H v r) (hD : H D = some (.lst ws)) (k : ∀ b o, b ≠ D → H b = some o → H' b = some o) : RunAt C D H' v r := by
  obtain ⟨x, dx, p, vs, e, n, h1, h2, h3⟩ := h
  exact ⟨x, dx, p, vs, e, n, k _ _ (fun z => by rw [z, hD] at h1; cases h1) h1, k _ _ n h2, h3.kt fun b xs hb => k _ _ (fun z => by rw [z, hD] at hb; cases hb) hb⟩
theorem RunsAt.kd {C D : Addr} {H H' : Hp} {vs : List V} {rs : List RunT} {ws : List V} (h : RunsAt C D H vs rs) (hD : H D = some (.lst ws)) (k : ∀ b o, b ≠ D → H b = some o → H' b = some o) : RunsAt C D H' vs rs := ⟨h.len, fun i r hr => by
  obtain ⟨v, h1, h2⟩ := h.at_ i r hr
  exact ⟨v, h1, h2.kd hD k⟩⟩
theorem RunsAt.same {C D : Addr} {H H' : Hp} {vs : List V} {rs : List RunT} {ws : List V} (h : RunsAt C D H vs rs) (hD : H D = some (.lst ws)) (s : Same H H') : RunsAt C D H' vs rs := h.kd hD fun b o _ e => s b o e
theorem RunsAt.add {C D : Addr} {H H' : Hp} {vs : List V} {rs : List RunT} {v : V} {r : RunT} (h : RunsAt C D H vs rs) (s : Same H H') (hD' : H' D = some (.lst vs)) (hr : RunAt C D H' v r) : RunsAt C D (upd H' D (.lst (vs ++ [v]))) (vs ++ [v]) (rs ++ [r]) := by
  have k : ∀ b o, b ≠ D → H' b = some o → (upd H' D (.lst (vs ++ [v]))) b = some o := fun b o n e => by rw [upd_ne n]; exact e
  refine ⟨by rw [List.length_append, List.length_append, h.len]; rfl, fun i x hx => ?_⟩
  by_cases c : i < rs.length
  · rw [List.getElem?_append_left c] at hx
    obtain ⟨w, h1, x1, dx, p, ws, e, n, h2, h3, h4⟩ := h.at_ i x hx
    refine ⟨w, by rw [List.getElem?_append_left (by rw [h.len]; exact c)]; exact h1, RunAt.kd (ws := vs) ⟨x1, dx, p, ws, e, n, s _ _ h2, s _ _ h3, h4.kt (KT.of s)⟩ hD' k⟩
  · have hi : i = rs.length := by
      obtain ⟨l, _⟩ := List.getElem?_eq_some_iff.mp hx
      rw [List.length_append, List.length_singleton] at l
      omega
    subst hi
    rw [List.getElem?_concat_length] at hx
    cases hx
    exact ⟨v, by rw [← h.len]; exact List.getElem?_concat_length, hr.kd hD' k⟩
theorem runOk_of {ps : List PieceT} {pc : PieceT} {x a c e stop : Int} {b : Option Int} {S : List StepT} {T : Nat} (hf : ps.find? (comes x) = some pc) (E : EndOk pc.2.1 pc.2.2 x b stop e) (hxa : x ≤ a) (hP : Pth (Wst pc.1 pc.2.2 b x e) a S c) (hne : S ≠ []) (h8 : S.length ≤ 8) (hT : 1 ≤ T)
    (hd : T = 1 ∨ lenR S % (pc.2.2.length : Int) = 0) (hrp : T = 1 ∨ a + T * lenR S ≤ e + 1) (hle : ∀ s ∈ S, s.1 + ((T : Int) - 1) * lenR S ≤ e) : RunOk ps b stop a ⟨S, T⟩ := by
  have hl : 0 ≤ lenR S := by have := lenR_pos S; omega
  refine ⟨hne, hT, h8, fun k hk => ?_, fun y pc' t h1 h2 h3 h4 => ?_⟩
  rotate_left
  · have h2 : y + lenR S < a + T * lenR S := h2
    rcases Nat.lt_or_ge 1 T with c | c
    · have hd' : lenR S % (pc.2.2.length : Int) = 0 := by
        rcases hd with z | z
        · omega
        · exact z
      have he : a + T * lenR S ≤ e + 1 := by
        rcases hrp with z | z
        · omega
        · exact z
      have f1 := comes_on hf (show x ≤ y by omega) fun m e2 => by have := E.pst m e2; omega
      have f2 := comes_on hf (show x ≤ y + lenR S by omega) fun m e2 => by have := E.pst m e2; omega
      rw [f1] at h3
      cases h3
      refine ⟨f2, ?_⟩
      have e3 : tnI pc.1 pc.2.2.length (y + lenR S) = tnI pc.1 pc.2.2.length y := by
        unfold tnI
        rw [show y + lenR S - pc.1 = y - pc.1 + lenR S by omega, Int.add_emod, hd', Int.add_zero, Int.emod_emod_of_dvd _ (Int.dvd_refl _)]
      show pc.2.2[(tnI pc.1 pc.2.2.length (y + lenR S)).toNat]? = some t
      rw [e3]
      exact h4
    · have : T = 1 := by omega
      rw [this, show (((1 : Nat) : Int)) * lenR S = lenR S from Int.one_mul _] at h2
      omega
  have hk' : k < T := hk
  have h0 : 0 ≤ (k : Int) * lenR S := Int.mul_nonneg (by omega) hl
  have hk1 : (k : Int) * lenR S ≤ ((T : Int) - 1) * lenR S := Int.mul_le_mul_of_nonneg_right (by omega) hl
  have hz : (k : Int) * lenR S % (pc.2.2.length : Int) = 0 := by
    rcases hd with h | h
    · have : k = 0 := by omega
      rw [this, show ((0 : Nat) : Int) * lenR S = 0 from Int.zero_mul _, Int.zero_emod]
    · rw [Int.mul_emod, h, Int.mul_zero, Int.zero_emod]
  have hend := hP.end_
  show Pth (WS ps b stop) (a + k * lenR S) (shift (k * lenR S) S) (a + (k * lenR S + lenR S))
  rw [show a + ((k : Int) * lenR S + lenR S) = c + k * lenR S by omega]
  refine hP.shift fun s hs hw => ?_
  have h1 := (hP.le.2 s hs).1
  have h2 := hle s hs
  exact wst_on hf E (by omega) hw h0 (by omega) hz
structure PsOk (ps : List PieceT) : Prop where
  len : ps.length ≤ 8
  turns : ∀ pc ∈ ps, 1 ≤ pc.2.2.length ∧ pc.2.2.length ≤ 8 ∧ ∀ t ∈ pc.2.2, isPatience t = true
def spRuns (C : Addr) : Sp := fun vs H Q _ => ∃ a ps, ∃ start stop : Int, ∃ b : Option Int, vs = [.ref a, .int start, optV b, .int stop] ∧ PcsAt H a ps ∧ PsOk ps ∧ 0 ≤ start ∧ (∀ x, start ≤ x → x ≤ stop → ∃ pc, ps.find? (comes x) = some pc) ∧ (∀ y ∈ breaks ps b stop, y < 2 ^ 139) ∧
  ∀ D ws rs c H', Same H H' → H D = none → H' D = some (.lst ws) → RunsAt C D H' ws rs → Lvl ps b stop start rs c → stop < c → rs.length ≤ 20440 → (rs = [] → stop < start) → Q (.ref D) H'
section
variable {P : Program} {w : World} {K : PySem.W.Frag} {mg : Str → Option Value} {base : Heap}
theorem ok_runs {f C fI : Addr} {fd fdI : FuncData} (F : Fun K "runs_on" "runs_on" sRuns f fd) (TC : RunC K mg C fI) (FI : FnOk P w K mg base CX0 1 fI fdI ["self", "steps", "room"] (spInit C)) (bI : Binds K fdI ["self", "steps", "room"] [])
    (CP : Cal P w K mg base 1 "piece_number" ["pieces", "person"] spPieceNo) (CE : Cal P w K mg base 1 "stretch_end" ["piece", "start", "bound", "stop"] spEnd) (CT : Cal P w K mg base 2 "stretch_steps" ["piece", "start", "bound", "end"] spSteps) : FnOk P w K mg base CX0 3 f fd ["pieces", "start", "bound", "stop"] (spRuns C) := by
  refine F.ok scRuns (fun vs H Q E ⟨a, ps, st0, stop, b, e, _⟩ => by rw [e]; rfl) (fun cdv A0 outer s H vs Q E hr h => ?_)
  obtain ⟨a, ps, start, stop, b, rfl, hp, hps, h0, hfind, hB, q⟩ := h
  have nd := scRuns.nd
  have sz : 30000 ≤ sizeLine := by decide
  refine ⟨_, (pss_cons (ps_set (i := 4) nd rfl (.inl rfl) (pe_lst pa_nil))
    (pss_cons (ps_set (i := 5) nd rfl (.inl rfl) (pv 1))
    (pss_cons (ps_while PassesOwn.never (pt_cmpR op_le (pv 5) (pv 3) (nomark _))
    (pss_cons (ps_set (i := 6) nd rfl (.inl rfl) (pe_ix ix_seq (pv 0) (pe_cal (CP.mono (by decide)) hr (by rfl) (pa_cons (pv 0) (pa_cons (pv 5) pa_nil))) (fun _ _ => rfl)))
    (pss_cons (ps_set (i := 7) nd rfl (.inl rfl) (pe_cal (CE.mono (by decide)) hr (by rfl) (pa_cons (pv 6) (pa_cons (pv 5) (pa_cons (pv 2) (pa_cons (pv 3) pa_nil))))))
    (pss_cons (ps_asg (pe_cal (CT.mono (by decide)) hr (by rfl) (pa_cons (pv 6) (pa_cons (pv 5) (pa_cons (pv 2) (pa_cons (pv 7) pa_nil))))) (pg_tup rfl (pgs_cons (pg_name (i := 8) nd rfl (.inl rfl)) (pgs_cons (pg_name (i := 9) nd rfl (.inl rfl)) pgs_nil))))
    (pss_cons (ps_if (pt_truth (pv 8) (by intro _; rfl)) (pss_cons (ps_expr (pe_bm PySem.F.plainAttrs_list PySem.F.slot_list_append PySem.F.type_list_append mt_append (pv 4) (pa_cons (pe_make TC.make FI hr (by rfl) TC.g bI .nil pass0 (pa_cons (pv 8) (pa_cons pe_int pa_nil))) pa_nil)))
    (pss_one (ps_aug (i := 5) nd rfl (.inl rfl) (pe_fld (pe_ix ix_list (pv 4) (pe_un un_neg pe_int) (fun _ _ => rfl)) rfl) ip_add))) pss_nil)
    (pss_one (ps_if (pt_truth (pv 9) (by intro _; rfl)) (pss_cons (ps_expr (pe_bm PySem.F.plainAttrs_list PySem.F.slot_list_append PySem.F.type_list_append mt_append (pv 4) (pa_cons (pe_make TC.make FI hr (by rfl) TC.g bI .nil pass0 (pa_cons (pv 9) (pa_cons (pe_op op_sub (pe_op op_add (pv 7) pe_int) (pv 5)) pa_nil))) pa_nil)))
    (pss_one (ps_aug (i := 5) nd rfl (.inl rfl) (pe_op op_mulW (pe_fld (pe_ix ix_list (pv 4) (pe_un un_neg pe_int) (fun _ _ => rfl)) rfl) (pe_fld (pe_ix ix_list (pv 4) (pe_un un_neg pe_int) (fun _ _ => rfl)) rfl)) ip_add))) pss_nil)))))))
    (pss_one (ps_ret (pv 4)))))), ?_⟩
  have hblen := breaks_len (b := b) (stop := stop) hps.len fun pc hpc => (hps.turns pc hpc).2.1
  have hphi0 : phi (breaks ps b stop) start ≤ 10220 := by
    have := phi_le (breaks ps b stop) (x := start) fun y hy => by have := hB y hy; omega
    omega
  refine ⟨Nat.zero_le _, fun D nDH => ?_⟩
  have s1 := same_upd (o := .lst []) nDH
  have e1D : (upd H D (.lst [])) D = some (.lst []) := upd_same
  generalize upd H D (.lst []) = H1 at s1 e1D
  refine ⟨.int start, rfl, ?_⟩
  refine ⟨fun k σ H4 => ∃ ws rs, ∃ x : Int, ∃ y6 y7 y8 y9, σ = [some (.ref a), some (.int start), some (optV b), some (.int stop), some (.ref D), some (.int x), y6, y7, y8, y9] ∧ Same H H4 ∧ H4 D = some (.lst ws) ∧ RunsAt C D H4 ws rs ∧ Lvl ps b stop start rs x ∧ start ≤ x ∧
      rs.length + 2 * phi (breaks ps b stop) x ≤ 2 * phi (breaks ps b stop) start ∧ (rs = [] → x = start) ∧ k = (stop + 1 - x).toNat, ⟨_, [], [], start, none, none, none, none, rfl, s1, e1D, ⟨rfl, fun i r h => by cases i <;> cases h⟩, rfl, Int.le_refl _, by show 0 + _ ≤ _; omega, fun _ => rfl, rfl⟩, fun k σ H4 ⟨ws, rs, x, y6, y7, y8, y9, eσ, s4, e4D, ra, lv, hsx, hlen, hr0, hk⟩ => ?_⟩
  subst eσ
  refine ⟨.int x, rfl, .int stop, rfl, x, stop, rfl, rfl, _, rfl, ?_⟩
  by_cases cx : x ≤ stop
  · rw [decide_eq_true cx]
    refine iteT ⟨fun σ' H' => ∃ m', m' < k ∧ ∃ ws rs, ∃ x : Int, ∃ y6 y7 y8 y9, σ' = [some (.ref a), some (.int start), some (optV b), some (.int stop), some (.ref D), some (.int x), y6, y7, y8, y9] ∧ Same H H' ∧ H' D = some (.lst ws) ∧ RunsAt C D H' ws rs ∧ Lvl ps b stop start rs x ∧ start ≤ x ∧
      rs.length + 2 * phi (breaks ps b stop) x ≤ 2 * phi (breaks ps b stop) start ∧ (rs = [] → x = start) ∧ m' = (stop + 1 - x).toNat, fun σ' H' ⟨m', h1, h2⟩ => ⟨m', h1, h2⟩, ?_⟩
    obtain ⟨pc, hfd⟩ := hfind x hsx cx
    have hmem := List.mem_of_find?_eq_some hfd
    obtain ⟨tl, th, tp⟩ := hps.turns pc hmem
    have hp4 : PcsAt H4 a ps := by
      obtain ⟨xs, h1, h2⟩ := hp.ex
      exact ⟨xs, s4 _ _ h1, RpAll.sm s4 h2⟩
    refine ⟨.ref a, rfl, .ref a, rfl, .int x, rfl, a, x, ps, pc, rfl, hp4, hfd, fun i hi => ?_⟩
    obtain ⟨xs, b0, t, zs, st, _, hxi, hb0, ht, hz⟩ := pc_at hp4 hi
    refine rix_of st hxi ?_
    have hT : TurnsAt H4 t pc.2.2 := ⟨⟨zs, ht, hz⟩, tp, tl, th⟩
    have hpast : ∀ m, pc.2.1 = some m → x < m := fun m e => by
      have := (List.find?_eq_some_iff_append.mp hfd).1
      unfold comes at this
      rw [e] at this
      exact of_decide_eq_true this
    refine ⟨.ref b0, rfl, .int x, rfl, optV b, rfl, .int stop, rfl, b0, t, pc.2.2, pc.1, x, stop, b, pc.2.1, rfl, hb0, hT, cx, hpast, fun e H5 s5 hE => ?_⟩
    refine ⟨.ref b0, rfl, .int x, rfl, optV b, rfl, .int e, rfl, b0, t, pc.2.2, pc.1, x, e, b, pc.2.1, rfl, s5 _ _ hb0, hT.same s5, hE.lo, fun pr A B va vb once again c H6 s6 nA nB epr eA eB stA stB hStp => ?_⟩
    refine ⟨pr, _, rfl, SqT.of epr, rfl, .ref A, _, rfl, .ref B, _, rfl, rfl, ?_⟩
    have s46 := s5.trans s6
    have s06 := s4.trans s46
    have e6D := s46 _ _ e4D
    have ra6 := ra.same e4D s46
    have nAD : A ≠ D := fun z => by rw [z, s5 _ _ e4D] at nA; cases nA
    have nBD : B ≠ D := fun z => by rw [z, s5 _ _ e4D] at nB; cases nB
    have hbr := mem_breaks hmem hE
    have hlo := hE.lo
    have hhi := hE.hi
    have hwid : ∀ s ∈ once ++ again, 0 ≤ s.2 ∧ s.2 ≤ GREAT + 1 := fun s hs => by
      obtain ⟨_, t', ht', hw'⟩ := (hStp.path.le.2 s hs).2.2
      have hpt := tp t' (List.mem_of_getElem? ht')
      rw [hw']
      refine ⟨wd_nn hpt, ?_⟩
      rcases pat_cases hpt with rfl | ⟨p, rfl, h1, h2⟩
      · show (0 : Int) ≤ GREAT + 1; decide
      · cases b with
        | none => show p + 1 ≤ GREAT + 1; omega
        | some m =>
          show (if x + p ≤ m then p + 1 else 0) ≤ GREAT + 1
          have : (0 : Int) ≤ GREAT := by decide
          split <;> omega
    by_cases hon : once = []
    · have hva : va = [] := List.length_eq_zero_iff.mp (by rw [stA.len, hon]; rfl)
      refine ⟨.ref A, rfl, false, .inl ⟨va, SqL.of eA, by rw [hva]; rfl⟩, iteF ?_⟩
      have hlen6 : rs.length + 2 * phi (breaks ps b stop) x ≤ 2 * phi (breaks ps b stop) start := hlen
      have hm6 : rs = [] → x = x := fun _ => rfl
      have k66 : ∀ c o, c ≠ D → H6 c = some o → H6 c = some o := fun _ _ _ h => h
      by_cases hag : again = []
      · exact absurd (by rw [hon, hag]; rfl) hStp.ne
      · -- some of them again and again
        have hvb : vb.isEmpty = false := by
          cases vb with
          | nil => exact absurd (List.length_eq_zero_iff.mp (by rw [← stB.len]; rfl)) hag
          | cons _ _ => rfl
        obtain ⟨s0, T0, eag⟩ : ∃ s0 T0, again = s0 :: T0 := by
          cases again with
          | nil => exact absurd rfl hag
          | cons s0 T0 => exact ⟨s0, T0, rfl⟩
        obtain ⟨hce, htn⟩ := hStp.rep s0 T0 eag
        obtain ⟨m2, hp1, hp2⟩ := hStp.path.split
        have hm2 : m2 = x := by
          have e := hp1.end_
          first | exact e | (rw [e, hon]; exact Int.add_zero x)
        rw [hm2] at hp1 hp2
        have hc2 := hp2.end_
        have hs0 : s0.1 = x := by
          rw [eag] at hp2
          exact hp2.1
        have hl1 : 1 ≤ lenR again := by
          have := lenR_pos again
          have : again.length ≠ 0 := fun z => hag (List.length_eq_zero_iff.mp z)
          omega
        have hdiv : lenR again % (pc.2.2.length : Int) = 0 := by
          have h1 : (c - pc.1) % (pc.2.2.length : Int) = (s0.1 - pc.1) % (pc.2.2.length : Int) := htn
          have h2 : lenR again = (c - pc.1) - (s0.1 - pc.1) := by omega
          rw [h2]
          exact Int.emod_eq_zero_of_dvd (Int.dvd_sub_of_emod_eq' h1)
        have hroom : lenR again < e + 1 - x := by omega
        generalize hrm : e + 1 - x = room at hroom
        have hT1 : 1 ≤ room / lenR again := Int.le_ediv_of_mul_le (by omega) (by omega)
        have hT2 : room / lenR again * lenR again ≤ room := Int.ediv_mul_le _ (by omega)
        have hT3 : room - room / lenR again * lenR again < lenR again := by
          have h1 := Int.emod_lt_of_pos room (show 0 < lenR again by omega)
          have h2 := Int.emod_add_mul_ediv room (lenR again)
          have h3 : lenR again * (room / lenR again) = room / lenR again * lenR again := Int.mul_comm _ _
          omega
        have hTt : timesOf again room = room / lenR again := by unfold timesOf; omega
        obtain ⟨tn, htn2⟩ : ∃ tn : Nat, room / lenR again = (tn : Int) := ⟨(room / lenR again).toNat, by omega⟩
        rw [htn2] at hT1 hT2 hT3
        have hTl : lenR again ≤ (tn : Int) * lenR again := by
          have := Int.mul_le_mul_of_nonneg_right hT1 (show 0 ≤ lenR again by omega)
          rw [Int.one_mul] at this
          exact this
        have hok : RunOk ps b stop (x) ⟨again, tn⟩ := runOk_of hfd hE (show x ≤ x by omega) hp2 hag (by have := hStp.len; rw [List.length_append] at this; omega) (by omega) (.inr hdiv) (.inr (by omega)) fun s hs => by
          have h1 := (hp2.le.2 s hs).2.1
          have h2 : ((tn : Int) - 1) * lenR again = (tn : Int) * lenR again - lenR again := by rw [Int.sub_mul, Int.one_mul]
          rw [h2]
          omega
        have hwb : ∀ s ∈ again, 0 ≤ s.2 ∧ s.2 ≤ GREAT + 1 := fun s hs => hwid s (List.mem_append_right _ hs)
        refine ⟨.ref B, rfl, true, .inl ⟨vb, SqL.of (k66 _ _ nBD eB), by rw [hvb]; rfl⟩, iteT ?_⟩
        refine ⟨.ref D, rfl, .inl ⟨rfl, _, SqL.of e6D⟩, .ref B, rfl, .int e, rfl, e, 1, rfl, rfl, .int (x), rfl, e + 1, x, rfl, rfl, fun x2 dx2 nx2 ndx2 nex2 => ?_⟩
        dsimp only
        rw [hrm]
        have nDx : D ≠ x2 := fun z => by rw [← z, e6D] at nx2; cases nx2
        have nDd : D ≠ dx2 := fun z => by rw [← z, e6D] at ndx2; cases ndx2
        have nBx : B ≠ x2 := fun z => by rw [← z, k66 _ _ nBD eB] at nx2; cases nx2
        have sx : Same H6 (upd (upd H6 dx2 (.own x2)) x2 (.ins C dx2 [])) := fun p o hp => by
          rw [upd_ne (fun z => by rw [z, nx2] at hp; cases hp), upd_ne (fun z => by rw [z, ndx2] at hp; cases hp)]
          exact hp
        refine ⟨x2, B, dx2, vb, again, room, rfl, upd_same, sx _ _ (k66 _ _ nBD eB), (stB.kt fun p o hp => k66 _ _ (fun z => by rw [z, e6D] at hp; cases hp) hp).kt (KT.of sx), hag, by have := hStp.len; rw [List.length_append] at this; omega, hwb, fun H10 dx3 k10 e10 => ⟨rfl, ?_⟩⟩
        rw [hTt, htn2] at e10
        have s10 : Same H6 H10 := fun p o hp => k10 p o (sx _ _ hp) (fun z => by rw [z, nx2] at hp; cases hp)
        have eD10 := s10 _ _ e6D
        refine ⟨D, _, .ref x2, rfl, rfl, eD10, by rw [ra6 |>.len]; have := hlen6; omega, ?_⟩
        have ra11 : RunsAt C D (upd H10 D (.lst (ws ++ [.ref x2]))) (ws ++ [.ref x2]) (rs ++ [⟨again, tn⟩]) := (ra6).add s10 eD10 ⟨x2, dx3, B, vb, rfl, nBD, e10, s10 _ _ (k66 _ _ nBD eB), (stB.kt fun p o hp => k66 _ _ (fun z => by rw [z, e6D] at hp; cases hp) hp).kt (KT.of s10)⟩
        have s11 : Same H (upd H10 D (.lst (ws ++ [.ref x2]))) := fun p o hp => by
          rw [upd_ne (fun z => by rw [z, nDH] at hp; cases hp)]
          exact s10 _ _ (s06 _ _ hp)
        have e11x : (upd H10 D (.lst (ws ++ [.ref x2]))) x2 = some (.ins C dx3 (rf B again (tn : Int))) := by rw [upd_ne (Ne.symm nDx)]; exact e10
        have e11D : (upd H10 D (.lst (ws ++ [.ref x2]))) D = some (.lst (ws ++ [.ref x2])) := upd_same
        generalize upd H10 D (.lst (ws ++ [.ref x2])) = H11 at ra11 s11 e11x e11D
        have hw2 := lenR_le (m := 1000000000000000000000000000001) again (fun s hs => (hwb s hs).2) (by decide)
        have hw3 : (again.length : Int) * 1000000000000000000000000000001 ≤ 8 * 1000000000000000000000000000001 := Int.mul_le_mul_of_nonneg_right (by have := hStp.len; rw [List.length_append] at this; omega) (by decide)
        have htr : (tn : Int) ≤ room := by
          have := Int.mul_le_mul_of_nonneg_left hl1 (show (0 : Int) ≤ (tn : Int) by omega)
          rw [Int.mul_one] at this
          omega
        have hbe := hB _ hbr
        refine ⟨.int (x), rfl, .ref D, rfl, 1, rfl, D, _, -1, .ref x2, rfl, rfl, SqL.of e11D, atI_last _ _, x2, C, dx3, _, .int (tn : Int), rfl, e11x, TC.cl, TC.nTi, rf_times _ _ _, .ref D, rfl, 1, rfl, D, _, -1, .ref x2, rfl, rfl, SqL.of e11D, atI_last _ _, x2, C, dx3, _, .int (lenR again), rfl, e11x, TC.cl, TC.nLe, rf_length _ _ _, (tn : Int), lenR again, rfl, rfl, wide_mul (a := 140) (b := 140) (by omega) (by omega) (by decide) (by decide) (by decide), x, (tn : Int) * lenR again, rfl, rfl, ?_⟩
        refine ⟨(stop + 1 - (x + (tn : Int) * lenR again)).toNat, by omega, _, _, x + (tn : Int) * lenR again, _, _, _, _, rfl, s11, e11D, ra11, Lvl.snoc lv hok, by omega, ?_, fun z => by simp at z, rfl⟩
        have hphi := phi_less (breaks ps b stop) hbr (show x ≤ x + (tn : Int) * lenR again by omega) (lgp_half (by omega) (by omega))
        have := hlen6
        rw [List.length_append, List.length_singleton]
        omega
    · have hva : va.isEmpty = false := by
        cases va with
        | nil => exact absurd (List.length_eq_zero_iff.mp (by rw [← stA.len]; rfl)) hon
        | cons _ _ => rfl
      obtain ⟨m0, hq1, _⟩ := hStp.path.split
      have ho1 : 1 ≤ lenR once := by
        have := lenR_pos once
        have : once.length ≠ 0 := fun z => hon (List.length_eq_zero_iff.mp z)
        omega
      have hwa : ∀ s ∈ once, 0 ≤ s.2 ∧ s.2 ≤ GREAT + 1 := fun s hs => hwid s (List.mem_append_left _ hs)
      have hto : timesOf once 0 = 1 := by unfold timesOf; rw [Int.zero_ediv]; rfl
      have hok1 : RunOk ps b stop x ⟨once, 1⟩ := runOk_of hfd hE (Int.le_refl _) hq1 hon (by have := hStp.len; rw [List.length_append] at this; omega) (Nat.le_refl 1) (.inl rfl) (.inl rfl) fun s hs => by
        have h1 := (hq1.le.2 s hs).2.2.1
        rw [show (((1 : Nat) : Int) - 1) * lenR once = 0 from Int.zero_mul _]
        omega
      refine ⟨.ref A, rfl, true, .inl ⟨va, SqL.of eA, by rw [hva]; rfl⟩, iteT ?_⟩
      refine ⟨.ref D, rfl, .inl ⟨rfl, _, SqL.of e6D⟩, .ref A, rfl, fun x1 dx1 nx1 ndx1 nex1 => ?_⟩
      have nDx1 : D ≠ x1 := fun z => by rw [← z, e6D] at nx1; cases nx1
      have sx1 : Same H6 (upd (upd H6 dx1 (.own x1)) x1 (.ins C dx1 [])) := fun p o hp => by
        rw [upd_ne (fun z => by rw [z, nx1] at hp; cases hp), upd_ne (fun z => by rw [z, ndx1] at hp; cases hp)]
        exact hp
      refine ⟨x1, A, dx1, va, once, 0, rfl, upd_same, sx1 _ _ eA, stA.kt (KT.of sx1), hon, by have := hStp.len; rw [List.length_append] at this; omega, hwa, fun H8 dx3 k8 e8 => ⟨rfl, ?_⟩⟩
      rw [hto] at e8
      have s8 : Same H6 H8 := fun p o hp => k8 p o (sx1 _ _ hp) (fun z => by rw [z, nx1] at hp; cases hp)
      have e8D := s8 _ _ e6D
      refine ⟨D, _, .ref x1, rfl, rfl, e8D, by rw [ra6.len]; omega, ?_⟩
      have ra9 : RunsAt C D (upd H8 D (.lst (ws ++ [.ref x1]))) (ws ++ [.ref x1]) (rs ++ [⟨once, 1⟩]) := ra6.add s8 e8D ⟨x1, dx3, A, va, rfl, nAD, e8, s8 _ _ eA, stA.kt (KT.of s8)⟩
      have s9 : Same H (upd H8 D (.lst (ws ++ [.ref x1]))) := fun p o hp => by
        rw [upd_ne (fun z => by rw [z, nDH] at hp; cases hp)]
        exact s8 _ _ (s06 _ _ hp)
      have k69 : ∀ c o, c ≠ D → H6 c = some o → (upd H8 D (.lst (ws ++ [.ref x1]))) c = some o := fun c o n h => by rw [upd_ne n]; exact s8 _ _ h
      have e9x : (upd H8 D (.lst (ws ++ [.ref x1]))) x1 = some (.ins C dx3 (rf A once 1)) := by rw [upd_ne (Ne.symm nDx1)]; exact e8
      have e9D : (upd H8 D (.lst (ws ++ [.ref x1]))) D = some (.lst (ws ++ [.ref x1])) := upd_same
      generalize upd H8 D (.lst (ws ++ [.ref x1])) = H9 at ra9 s9 k69 e9x e9D
      refine ⟨.int x, rfl, .ref D, rfl, 1, rfl, D, _, -1, .ref x1, rfl, rfl, SqL.of e9D, atI_last _ _, x1, C, dx3, _, .int (lenR once), rfl, e9x, TC.cl, TC.nLe, rf_length _ _ _, x, lenR once, rfl, rfl, ?_⟩
      have lv9 : Lvl ps b stop start (rs ++ [⟨once, 1⟩]) (x + lenR once) := by
        have := lv.snoc hok1
        rw [show (((⟨once, 1⟩ : RunT).times : Nat) : Int) * lenR (⟨once, 1⟩ : RunT).steps = lenR once from Int.one_mul _] at this
        exact this
      have hlen9 : (rs ++ [(⟨once, 1⟩ : RunT)]).length + 2 * phi (breaks ps b stop) x ≤ 2 * phi (breaks ps b stop) start + 1 := by rw [List.length_append, List.length_singleton]; omega
      have hm9 : rs ++ [(⟨once, 1⟩ : RunT)] = [] → x + lenR once = x := fun z => by simp at z
      by_cases hag : again = []
      · -- none of them again
        have hvb : vb = [] := List.length_eq_zero_iff.mp (by rw [stB.len, hag]; rfl)
        refine ⟨.ref B, rfl, false, .inl ⟨vb, SqL.of (k69 _ _ nBD eB), by rw [hvb]; rfl⟩, iteF ?_⟩
        have hc := hStp.nil hag
        have hcm : c = (x + lenR once) := by
          have e1 := hStp.path.end_
          rw [hag, List.append_nil] at e1
          exact e1
        refine ⟨(stop + 1 - (x + lenR once)).toNat, by omega, (ws ++ [.ref x1]), (rs ++ [⟨once, 1⟩]), (x + lenR once), _, _, _, _, rfl, s9, e9D, ra9, lv9, by omega, ?_, fun z => ?_, rfl⟩
        · have hphi := phi_less (breaks ps b stop) hbr (show x ≤ (x + lenR once) by omega) (by
            unfold lgp
            rw [if_pos (by omega), if_neg (by omega)]
            omega)
          have := hlen9
          omega
        · exact absurd (show c = x by rw [hcm]; exact hm9 z) (by omega)
      · -- some of them again and again
        have hvb : vb.isEmpty = false := by
          cases vb with
          | nil => exact absurd (List.length_eq_zero_iff.mp (by rw [← stB.len]; rfl)) hag
          | cons _ _ => rfl
        obtain ⟨s0, T0, eag⟩ : ∃ s0 T0, again = s0 :: T0 := by
          cases again with
          | nil => exact absurd rfl hag
          | cons s0 T0 => exact ⟨s0, T0, rfl⟩
        obtain ⟨hce, htn⟩ := hStp.rep s0 T0 eag
        obtain ⟨m2, hp1, hp2⟩ := hStp.path.split
        have hm2 : m2 = (x + lenR once) := by
          have e := hp1.end_
          first | exact e | (rw [e, hon]; exact Int.add_zero x)
        rw [hm2] at hp1 hp2
        have hc2 := hp2.end_
        have hs0 : s0.1 = (x + lenR once) := by
          rw [eag] at hp2
          exact hp2.1
        have hl1 : 1 ≤ lenR again := by
          have := lenR_pos again
          have : again.length ≠ 0 := fun z => hag (List.length_eq_zero_iff.mp z)
          omega
        have hdiv : lenR again % (pc.2.2.length : Int) = 0 := by
          have h1 : (c - pc.1) % (pc.2.2.length : Int) = (s0.1 - pc.1) % (pc.2.2.length : Int) := htn
          have h2 : lenR again = (c - pc.1) - (s0.1 - pc.1) := by omega
          rw [h2]
          exact Int.emod_eq_zero_of_dvd (Int.dvd_sub_of_emod_eq' h1)
        have hroom : lenR again < e + 1 - (x + lenR once) := by omega
        generalize hrm : e + 1 - (x + lenR once) = room at hroom
        have hT1 : 1 ≤ room / lenR again := Int.le_ediv_of_mul_le (by omega) (by omega)
        have hT2 : room / lenR again * lenR again ≤ room := Int.ediv_mul_le _ (by omega)
        have hT3 : room - room / lenR again * lenR again < lenR again := by
          have h1 := Int.emod_lt_of_pos room (show 0 < lenR again by omega)
          have h2 := Int.emod_add_mul_ediv room (lenR again)
          have h3 : lenR again * (room / lenR again) = room / lenR again * lenR again := Int.mul_comm _ _
          omega
        have hTt : timesOf again room = room / lenR again := by unfold timesOf; omega
        obtain ⟨tn, htn2⟩ : ∃ tn : Nat, room / lenR again = (tn : Int) := ⟨(room / lenR again).toNat, by omega⟩
        rw [htn2] at hT1 hT2 hT3
        have hTl : lenR again ≤ (tn : Int) * lenR again := by
          have := Int.mul_le_mul_of_nonneg_right hT1 (show 0 ≤ lenR again by omega)
          rw [Int.one_mul] at this
          exact this
        have hok : RunOk ps b stop ((x + lenR once)) ⟨again, tn⟩ := runOk_of hfd hE (show x ≤ (x + lenR once) by omega) hp2 hag (by have := hStp.len; rw [List.length_append] at this; omega) (by omega) (.inr hdiv) (.inr (by omega)) fun s hs => by
          have h1 := (hp2.le.2 s hs).2.1
          have h2 : ((tn : Int) - 1) * lenR again = (tn : Int) * lenR again - lenR again := by rw [Int.sub_mul, Int.one_mul]
          rw [h2]
          omega
        have hwb : ∀ s ∈ again, 0 ≤ s.2 ∧ s.2 ≤ GREAT + 1 := fun s hs => hwid s (List.mem_append_right _ hs)
        refine ⟨.ref B, rfl, true, .inl ⟨vb, SqL.of (k69 _ _ nBD eB), by rw [hvb]; rfl⟩, iteT ?_⟩
        refine ⟨.ref D, rfl, .inl ⟨rfl, _, SqL.of e9D⟩, .ref B, rfl, .int e, rfl, e, 1, rfl, rfl, .int ((x + lenR once)), rfl, e + 1, (x + lenR once), rfl, rfl, fun x2 dx2 nx2 ndx2 nex2 => ?_⟩
        dsimp only
        rw [hrm]
        have nDx : D ≠ x2 := fun z => by rw [← z, e9D] at nx2; cases nx2
        have nDd : D ≠ dx2 := fun z => by rw [← z, e9D] at ndx2; cases ndx2
        have nBx : B ≠ x2 := fun z => by rw [← z, k69 _ _ nBD eB] at nx2; cases nx2
        have sx : Same H9 (upd (upd H9 dx2 (.own x2)) x2 (.ins C dx2 [])) := fun p o hp => by
          rw [upd_ne (fun z => by rw [z, nx2] at hp; cases hp), upd_ne (fun z => by rw [z, ndx2] at hp; cases hp)]
          exact hp
        refine ⟨x2, B, dx2, vb, again, room, rfl, upd_same, sx _ _ (k69 _ _ nBD eB), (stB.kt fun p o hp => k69 _ _ (fun z => by rw [z, e6D] at hp; cases hp) hp).kt (KT.of sx), hag, by have := hStp.len; rw [List.length_append] at this; omega, hwb, fun H10 dx3 k10 e10 => ⟨rfl, ?_⟩⟩
        rw [hTt, htn2] at e10
        have s10 : Same H9 H10 := fun p o hp => k10 p o (sx _ _ hp) (fun z => by rw [z, nx2] at hp; cases hp)
        have eD10 := s10 _ _ e9D
        refine ⟨D, _, .ref x2, rfl, rfl, eD10, by rw [ra9 |>.len]; have := hlen9; omega, ?_⟩
        have ra11 : RunsAt C D (upd H10 D (.lst ((ws ++ [.ref x1]) ++ [.ref x2]))) ((ws ++ [.ref x1]) ++ [.ref x2]) ((rs ++ [⟨once, 1⟩]) ++ [⟨again, tn⟩]) := (ra9).add s10 eD10 ⟨x2, dx3, B, vb, rfl, nBD, e10, s10 _ _ (k69 _ _ nBD eB), (stB.kt fun p o hp => k69 _ _ (fun z => by rw [z, e6D] at hp; cases hp) hp).kt (KT.of s10)⟩
        have s11 : Same H (upd H10 D (.lst ((ws ++ [.ref x1]) ++ [.ref x2]))) := fun p o hp => by
          rw [upd_ne (fun z => by rw [z, nDH] at hp; cases hp)]
          exact s10 _ _ (s9 _ _ hp)
        have e11x : (upd H10 D (.lst ((ws ++ [.ref x1]) ++ [.ref x2]))) x2 = some (.ins C dx3 (rf B again (tn : Int))) := by rw [upd_ne (Ne.symm nDx)]; exact e10
        have e11D : (upd H10 D (.lst ((ws ++ [.ref x1]) ++ [.ref x2]))) D = some (.lst ((ws ++ [.ref x1]) ++ [.ref x2])) := upd_same
        generalize upd H10 D (.lst ((ws ++ [.ref x1]) ++ [.ref x2])) = H11 at ra11 s11 e11x e11D
        have hw2 := lenR_le (m := 1000000000000000000000000000001) again (fun s hs => (hwb s hs).2) (by decide)
        have hw3 : (again.length : Int) * 1000000000000000000000000000001 ≤ 8 * 1000000000000000000000000000001 := Int.mul_le_mul_of_nonneg_right (by have := hStp.len; rw [List.length_append] at this; omega) (by decide)
        have htr : (tn : Int) ≤ room := by
          have := Int.mul_le_mul_of_nonneg_left hl1 (show (0 : Int) ≤ (tn : Int) by omega)
          rw [Int.mul_one] at this
          omega
        have hbe := hB _ hbr
        refine ⟨.int ((x + lenR once)), rfl, .ref D, rfl, 1, rfl, D, _, -1, .ref x2, rfl, rfl, SqL.of e11D, atI_last _ _, x2, C, dx3, _, .int (tn : Int), rfl, e11x, TC.cl, TC.nTi, rf_times _ _ _, .ref D, rfl, 1, rfl, D, _, -1, .ref x2, rfl, rfl, SqL.of e11D, atI_last _ _, x2, C, dx3, _, .int (lenR again), rfl, e11x, TC.cl, TC.nLe, rf_length _ _ _, (tn : Int), lenR again, rfl, rfl, wide_mul (a := 140) (b := 140) (by omega) (by omega) (by decide) (by decide) (by decide), (x + lenR once), (tn : Int) * lenR again, rfl, rfl, ?_⟩
        refine ⟨(stop + 1 - ((x + lenR once) + (tn : Int) * lenR again)).toNat, by omega, _, _, (x + lenR once) + (tn : Int) * lenR again, _, _, _, _, rfl, s11, e11D, ra11, Lvl.snoc lv9 hok, by omega, ?_, fun z => by simp at z, rfl⟩
        have hphi := phi_less (breaks ps b stop) hbr (show x ≤ (x + lenR once) + (tn : Int) * lenR again by omega) (lgp_half (by omega) (by omega))
        have := hlen9
        rw [List.length_append, List.length_singleton]
        omega
  · rw [decide_eq_false cx]
    exact iteF ⟨.ref D, rfl, q D ws rs x H4 s4 nDH e4D ra lv (by omega) (by omega) fun z => by have := hr0 z; omega⟩
end
end CL
set_option Elab.async false
set_option linter.all false
set_option pp.maxSteps 400
set_option maxRecDepth 100000
set_option maxHeartbeats 4000000
namespace CL
open PySem PySem.Spec PyProof.Rows L2 GE
/-! ### walks along one level, and the last of a person -/
/-- met on the level that begins at s -/
inductive Rch (ps : List PieceT) (b : Option Int) : Int → Int → Prop
  | here (x : Int) : Rch ps b x x
  | on {s x w : Int} : WP ps b s w → Rch ps b (s + max w 1) x → Rch ps b s x
/-- met there, and left over -/
inductive SpR (ps : List PieceT) (b : Option Int) : Int → Int → Prop
  | here {x : Int} : WP ps b x 0 → SpR ps b x x
  | on {s x w : Int} : WP ps b s w → s + max w 1 ≤ x → SpR ps b (s + max w 1) x → SpR ps b s x
/-- the last one that goes past x, where s is on the level of that bound -/
inductive Las (ps : List PieceT) : Option Int → Int → Int → Option Int → Prop
  | spare {b : Option Int} {x : Int} : WP ps b x 0 → Las ps b x x b
  | own {b : Option Int} {x w : Int} : WP ps b x w → 0 < w → Las ps b x x (some (x + w - 1))
  | inn {b l : Option Int} {s x w : Int} : WP ps b s w → s < x → x < s + w → Las ps (some (s + w - 1)) (s + 1) x l → Las ps b s x l
  | skip {b l : Option Int} {s x w : Int} : WP ps b s w → s + max w 1 ≤ x → Las ps b (s + max w 1) x l → Las ps b s x l
/-- the patience of one that comes -/
def Pt (ps : List PieceT) (x : Int) (t : PyData) : Prop := ∃ pc, ps.find? (comes x) = some pc ∧ pc.2.2[(tnI pc.1 pc.2.2.length x).toNat]? = some t
theorem pt_uniq {ps : List PieceT} {x : Int} {t t' : PyData} (h : Pt ps x t) (h' : Pt ps x t') : t = t' := by
  obtain ⟨pc, h1, h2⟩ := h
  obtain ⟨pc', h3, h4⟩ := h'
  rw [h1] at h3
  cases h3
  rw [h2] at h4
  exact Option.some.inj h4
theorem wp_pt {ps : List PieceT} {b : Option Int} {x w : Int} (h : WP ps b x w) : ∃ t, Pt ps x t ∧ w = wd b x t := by
  obtain ⟨pc, t, h1, h2, h3⟩ := h
  exact ⟨t, ⟨pc, h1, h2⟩, h3⟩
theorem pt_wp {ps : List PieceT} (b : Option Int) {x : Int} {t : PyData} (h : Pt ps x t) : WP ps b x (wd b x t) := by
  obtain ⟨pc, h1, h2⟩ := h
  exact ⟨pc, t, h1, h2, rfl⟩
theorem wp_uniq {ps : List PieceT} {b : Option Int} {x w w' : Int} (h : WP ps b x w) (h' : WP ps b x w') : w = w' := by
  obtain ⟨t, h1, rfl⟩ := wp_pt h
  obtain ⟨t', h2, rfl⟩ := wp_pt h'
  rw [pt_uniq h1 h2]
theorem rch_le {ps : List PieceT} {b : Option Int} {s x : Int} (h : Rch ps b s x) : s ≤ x := by
  induction h with
  | here => omega
  | on _ _ ih => omega
theorem rch_trans {ps : List PieceT} {b : Option Int} {s x y : Int} (h : Rch ps b s x) (h' : Rch ps b x y) : Rch ps b s y := by
  induction h with
  | here => exact h'
  | on h1 _ ih => exact .on h1 (ih h')
theorem spr_le {ps : List PieceT} {b : Option Int} {s x : Int} (h : SpR ps b s x) : s ≤ x := by
  induction h with
  | here => omega
  | on _ _ _ ih => omega
theorem spr_wp {ps : List PieceT} {b : Option Int} {s x : Int} (h : SpR ps b s x) : WP ps b x 0 := by
  induction h with
  | here h => exact h
  | on _ _ _ ih => exact ih
theorem spr_of {ps : List PieceT} {b : Option Int} {s y x : Int} (h : Rch ps b s y) (h' : SpR ps b y x) : SpR ps b s x := by
  induction h with
  | here => exact h'
  | on h1 _ ih => exact .on h1 (spr_le (ih h')) (ih h')
theorem las_ge {ps : List PieceT} {b l : Option Int} {s x : Int} (h : Las ps b s x l) : s ≤ x := by
  induction h with
  | spare => omega
  | own => omega
  | inn => omega
  | skip => omega
theorem las_of {ps : List PieceT} {b l : Option Int} {s y x : Int} (h : Rch ps b s y) (h' : Las ps b y x l) : Las ps b s x l := by
  induction h with
  | here => exact h'
  | on h1 _ ih => exact .skip h1 (las_ge (ih h')) (ih h')
theorem spr_las {ps : List PieceT} {b : Option Int} {s x : Int} (h : SpR ps b s x) : Las ps b s x b := by
  induction h with
  | here h => exact .spare h
  | on h1 h2 _ ih => exact .skip h1 h2 ih
/-! ### steps and runs -/
theorem pth_rch {ps : List PieceT} {b : Option Int} {stop : Int} : ∀ {S : List StepT} {a c : Int}, Pth (WS ps b stop) a S c → Rch ps b a c
  | [], a, c, h => by
    obtain rfl : a = c := h
    exact .here _
  | s :: S, a, c, h => by
    have e : s.1 = a := h.1
    exact .on (e ▸ h.2.1.2) (pth_rch h.2.2)
theorem pth_zero {ps : List PieceT} {b : Option Int} {stop : Int} : ∀ {S : List StepT} {a c : Int}, Pth (WS ps b stop) a S c → (∀ s ∈ S, s.2 = 0) → ∀ x, a ≤ x → x < c → SpR ps b a x
  | [], a, c, h, _, x, h1, h2 => by
    obtain rfl : a = c := h
    omega
  | s :: S, a, c, h, hz, x, h1, h2 => by
    have e : s.1 = a := h.1
    have e0 := hz s List.mem_cons_self
    have hw : WP ps b a 0 := by
      have := h.2.1.2
      rw [e, e0] at this
      exact this
    rcases Int.lt_or_eq_of_le h1 with c1 | c1
    · have h3 := h.2.2
      rw [e0] at h3
      exact .on hw (by omega) (pth_zero h3 (fun y hy => hz y (List.mem_cons_of_mem _ hy)) x (by omega) h2)
    · rw [← c1]
      exact .here hw
theorem shift_zero {d : Int} {S : List StepT} (h : ∀ s ∈ S, s.2 = 0) : ∀ s ∈ shift d S, s.2 = 0 := fun s hs => by
  obtain ⟨t, h1, rfl⟩ := List.mem_map.mp hs
  exact h t h1
theorem run_rch {ps : List PieceT} {b : Option Int} {stop a : Int} {r : RunT} (h : RunOk ps b stop a r) : ∀ k : Nat, k ≤ r.times → Rch ps b a (a + k * lenR r.steps)
  | 0, _ => by
    rw [show a + ((0 : Nat) : Int) * lenR r.steps = a by rw [show ((0 : Nat) : Int) = 0 from rfl, Int.zero_mul, Int.add_zero]]
    exact .here _
  | k + 1, hk => by
    have h1 := run_rch h k (by omega)
    have h2 := pth_rch (h.path k (by omega))
    have e : a + ((k + 1 : Nat) : Int) * lenR r.steps = a + ((k : Int) * lenR r.steps + lenR r.steps) := by
      rw [Int.natCast_add, Int.add_mul, show ((1 : Nat) : Int) = 1 from rfl, Int.one_mul]
    rw [e]
    exact rch_trans h1 h2
theorem run_zero {ps : List PieceT} {b : Option Int} {stop a : Int} {r : RunT} (h : RunOk ps b stop a r) (hz : ∀ s ∈ r.steps, s.2 = 0) : ∀ k : Nat, k ≤ r.times → ∀ x, a ≤ x → x < a + k * lenR r.steps → SpR ps b a x
  | 0, _, x, h1, h2 => by
    rw [show ((0 : Nat) : Int) = 0 from rfl, Int.zero_mul] at h2
    omega
  | k + 1, hk, x, h1, h2 => by
    have e : a + ((k + 1 : Nat) : Int) * lenR r.steps = a + ((k : Int) * lenR r.steps + lenR r.steps) := by
      rw [Int.natCast_add, Int.add_mul, show ((1 : Nat) : Int) = 1 from rfl, Int.one_mul]
    rw [e] at h2
    by_cases c : x < a + k * lenR r.steps
    · exact run_zero h hz k (by omega) x h1 c
    · exact spr_of (run_rch h k (by omega)) (pth_zero (h.path k (by omega)) (shift_zero hz) x (by omega) h2)
theorem lvl_rch {ps : List PieceT} {b : Option Int} {stop : Int} : ∀ {rs : List RunT} {a c : Int}, Lvl ps b stop a rs c → Rch ps b a c
  | [], a, c, h => by
    obtain rfl : a = c := h
    exact .here _
  | r :: rs, a, c, h => rch_trans (run_rch h.1 r.times (Nat.le_refl _)) (lvl_rch h.2)
theorem lvl_zero {ps : List PieceT} {b : Option Int} {stop : Int} : ∀ {rs : List RunT} {a c : Int}, Lvl ps b stop a rs c → (∀ r ∈ rs, ∀ s ∈ r.steps, s.2 = 0) → ∀ x, a ≤ x → x < c → SpR ps b a x
  | [], a, c, h, _, x, h1, h2 => by
    obtain rfl : a = c := h
    omega
  | r :: rs, a, c, h, hz, x, h1, h2 => by
    by_cases c : x < a + r.times * lenR r.steps
    · exact run_zero h.1 (hz r List.mem_cons_self) r.times (Nat.le_refl _) x h1 c
    · exact spr_of (run_rch h.1 r.times (Nat.le_refl _)) (lvl_zero h.2 (fun y hy => hz y (List.mem_cons_of_mem _ hy)) x (by omega) h2)
theorem lvl_split {ps : List PieceT} {b : Option Int} {stop : Int} : ∀ {rs ts : List RunT} {a c : Int}, Lvl ps b stop a (rs ++ ts) c → ∃ m, Lvl ps b stop a rs m ∧ Lvl ps b stop m ts c
  | [], ts, a, c, h => ⟨a, rfl, h⟩
  | r :: rs, ts, a, c, h => by
    obtain ⟨m, h1, h2⟩ := lvl_split h.2
    exact ⟨m, ⟨h.1, h1⟩, h2⟩
/-- the last opener of a level, with those left over behind its window -/
theorem lvl_opener {ps : List PieceT} {b : Option Int} {stop a c : Int} {rs ts : List RunT} {r : RunT} {S1 S2 : List StepT} {s : StepT} (h : Lvl ps b stop a (rs ++ r :: ts) c) (eS : r.steps = S1 ++ s :: S2) (h0 : 0 < s.2) (hz : ∀ x ∈ S2, x.2 = 0) (hzz : ∀ r ∈ ts, ∀ s ∈ r.steps, s.2 = 0) :
    Rch ps b a (s.1 + ((r.times : Int) - 1) * lenR r.steps) ∧ WS ps b stop (s.1 + ((r.times : Int) - 1) * lenR r.steps) s.2 ∧ (∀ x, s.1 + ((r.times : Int) - 1) * lenR r.steps + s.2 ≤ x → x < c → SpR ps b a x) ∧ s.1 + ((r.times : Int) - 1) * lenR r.steps + s.2 ≤ c := by
  obtain ⟨m, h1, h2, h3⟩ := lvl_split h
  have ht := h2.times
  have hk := h2.path (r.times - 1) (by omega)
  have e1 : ((r.times - 1 : Nat) : Int) = (r.times : Int) - 1 := by omega
  have hr := run_rch h2 (r.times - 1) (by omega)
  rw [e1] at hk hr
  have e5 : ((r.times : Int) - 1) * lenR r.steps + lenR r.steps = (r.times : Int) * lenR r.steps := by rw [Int.sub_mul, Int.one_mul]; omega
  rw [e5] at hk
  generalize hd : ((r.times : Int) - 1) * lenR r.steps = d at hk hr ⊢
  have es : shift d r.steps = shift d S1 ++ (s.1 + d, s.2) :: shift d S2 := by rw [eS]; unfold shift; rw [List.map_append]; rfl
  rw [es] at hk
  obtain ⟨m2, k1, k2, k3, k4⟩ := hk.split
  have k2' : s.1 + d = m2 := k2
  have k3' : WS ps b stop (s.1 + d) s.2 := k3
  have k4' : Pth (WS ps b stop) (m2 + max s.2 1) (shift d S2) (m + r.times * lenR r.steps) := k4
  have r1 : Rch ps b a (s.1 + d) := by
    rw [k2']
    exact rch_trans (lvl_rch h1) (rch_trans hr (pth_rch k1))
  have r2 : Rch ps b a (m2 + max s.2 1) := rch_trans r1 (.on k3'.2 (by rw [k2']; exact .here _))
  have r3 : Rch ps b a (m + r.times * lenR r.steps) := rch_trans r2 (pth_rch k4')
  have l1 := rch_le (pth_rch k4')
  have l2 := rch_le (lvl_rch h3)
  refine ⟨r1, k3', fun x hx hc => ?_, by omega⟩
  by_cases cx : x < m + r.times * lenR r.steps
  · exact spr_of r2 (pth_zero k4' (shift_zero hz) x (by omega) cx)
  · exact spr_of r3 (lvl_zero h3 hzz x (by omega) hc)
/-- the last step of a level is met there -/
theorem lvl_lastR {ps : List PieceT} {b : Option Int} {stop a c : Int} {rs : List RunT} {r : RunT} {S1 : List StepT} {s : StepT} (h : Lvl ps b stop a (rs ++ [r]) c) (eS : r.steps = S1 ++ [s]) : Rch ps b a (s.1 + ((r.times : Int) - 1) * lenR r.steps) := by
  obtain ⟨m, h1, h2, h3⟩ := lvl_split h
  have ht := h2.times
  have hk := h2.path (r.times - 1) (by omega)
  have e1 : ((r.times - 1 : Nat) : Int) = (r.times : Int) - 1 := by omega
  have hr := run_rch h2 (r.times - 1) (by omega)
  rw [e1] at hk hr
  generalize ((r.times : Int) - 1) * lenR r.steps = d at hk hr ⊢
  have es : shift d r.steps = shift d S1 ++ [(s.1 + d, s.2)] := by rw [eS]; unfold shift; rw [List.map_append]; rfl
  rw [es] at hk
  obtain ⟨m2, k1, k2, k3⟩ := hk.split
  have k2' : s.1 + d = m2 := k2
  rw [k2']
  exact rch_trans (lvl_rch h1) (rch_trans hr (pth_rch k1))
end CL
set_option Elab.async false
set_option linter.all false
set_option pp.maxSteps 400
set_option maxRecDepth 100000
set_option maxHeartbeats 4000000
namespace CL
open PySem PySem.Spec PyProof.Rows L2 GE
/-! ### the windows around a person -/
/-- the last of the innermost window around, or the bound -/
def lastB (b : Option Int) (S : List StepT) : Option Int := match S.getLast? with
  | none => b
  | some s => some s.2
theorem lastB_add (b : Option Int) (S : List StepT) (s : StepT) : lastB b (S ++ [s]) = some s.2 := by unfold lastB; rw [List.getLast?_concat]
/-- the windows around x, the outermost first, where s is on the level of that bound -/
inductive Road (ps : List PieceT) : Option Int → Int → Int → List StepT → Prop
  | spare {b : Option Int} {x : Int} : WP ps b x 0 → Road ps b x x []
  | own {b : Option Int} {x w : Int} : WP ps b x w → 0 < w → Road ps b x x [(x, x + w - 1)]
  | inn {b : Option Int} {s x w : Int} {S : List StepT} : WP ps b s w → s < x → x < s + w → Road ps (some (s + w - 1)) (s + 1) x S → Road ps b s x ((s, s + w - 1) :: S)
  | skip {b : Option Int} {s x w : Int} {S : List StepT} : WP ps b s w → s + max w 1 ≤ x → Road ps b (s + max w 1) x S → Road ps b s x S
theorem road_ge {ps : List PieceT} {b : Option Int} {s x : Int} {S : List StepT} (h : Road ps b s x S) : s ≤ x := by
  induction h with
  | spare => omega
  | own => omega
  | inn => omega
  | skip => omega
theorem road_of {ps : List PieceT} {b : Option Int} {s y x : Int} {S : List StepT} (h : Rch ps b s y) (h' : Road ps b y x S) : Road ps b s x S := by
  induction h with
  | here => exact h'
  | on h1 _ ih => exact .skip h1 (road_ge (ih h')) (ih h')
theorem road_uniq {ps : List PieceT} {b : Option Int} {s x : Int} {S : List StepT} (h : Road ps b s x S) : ∀ {S' : List StepT}, Road ps b s x S' → S = S' := by
  induction h with
  | spare h =>
    intro S' h'
    cases h' with
    | spare => rfl
    | own h2 h3 => have := wp_uniq h h2; omega
    | inn h2 h3 => omega
    | skip h2 h3 => omega
  | own h h0 =>
    intro S' h'
    cases h' with
    | spare h2 => have := wp_uniq h h2; omega
    | own h2 h3 => rw [wp_uniq h h2]
    | inn h2 h3 => omega
    | skip h2 h3 => omega
  | inn h h0 h1 _ ih =>
    intro S' h'
    cases h' with
    | spare h2 => omega
    | own h2 h3 => omega
    | inn h2 h3 h4 h5 => have e := wp_uniq h h2; subst e; rw [ih h5]
    | skip h2 h3 => have := wp_uniq h h2; omega
  | skip h h0 _ ih =>
    intro S' h'
    cases h' with
    | spare h2 => omega
    | own h2 h3 => omega
    | inn h2 h3 h4 => have := wp_uniq h h2; omega
    | skip h2 h3 h4 => have e := wp_uniq h h2; subst e; exact ih h4
theorem lastB_cons (b : Option Int) (s : StepT) (S : List StepT) : lastB b (s :: S) = lastB (some s.2) S := by
  unfold lastB
  cases S with
  | nil => rfl
  | cons t S => rw [List.getLast?_cons_cons]; cases h : (t :: S).getLast? with
    | none => simp at h
    | some z => rfl
theorem las_road {ps : List PieceT} {b : Option Int} {s x : Int} {S : List StepT} (h : Road ps b s x S) : Las ps b s x (lastB b S) := by
  induction h with
  | spare h => exact .spare h
  | own h h0 => exact .own h h0
  | inn h h0 h1 _ ih => rw [lastB_cons]; exact .inn h h0 h1 ih
  | skip h h0 _ ih => exact .skip h h0 ih
theorem road_in {ps : List PieceT} {b : Option Int} {s x : Int} {S : List StepT} (h : Road ps b s x S) : ∀ z ∈ S, s ≤ z.1 ∧ z.1 ≤ x := by
  induction h with
  | spare h => intro z hz; cases hz
  | own h h0 => intro z hz; rw [List.mem_singleton.mp hz]; exact ⟨Int.le_refl _, Int.le_refl _⟩
  | inn h h0 h1 _ ih =>
    intro z hz
    rcases List.mem_cons.mp hz with rfl | hz
    · exact ⟨Int.le_refl _, by show _ ≤ _; omega⟩
    · have := ih z hz; omega
  | skip h h0 _ ih =>
    intro z hz
    have := ih z hz
    omega
end CL
set_option Elab.async false
set_option linter.all false
set_option pp.maxSteps 400
set_option maxRecDepth 100000
set_option maxHeartbeats 4000000
namespace CL
open PySem PySem.Spec PyProof.Rows L2 GE
theorem turns_ok {d : PyData} (h : isPiece d = true) : 1 ≤ (turnsD d).length ∧ ∀ x ∈ turnsD d, isPatience x = true := by
  obtain ⟨t, m, e, ht, _⟩ := piece_parts h
  unfold turnsD
  rw [e]
  show 1 ≤ ((rowsD t).getD []).length ∧ ∀ x ∈ (rowsD t).getD [], isPatience x = true
  unfold isTurns at ht
  cases z : rowsD t with
  | none => rw [z] at ht; cases ht
  | some ts =>
    rw [z] at ht
    simp only [Bool.and_eq_true, decide_eq_true_eq, List.all_eq_true] at ht
    exact ⟨ht.1.1, ht.2⟩
theorem find_pcs (n : Int) : ∀ (ds : List PyData) (f : Int), ds.all isPiece = true → (ds.take (ds.length - 1)).any (fun d => isNone (sndD d)) = false → ∀ ps pc, pcs f ds = ps ++ [pc] → under pc.2.1 n = true → ∃ pp, (pcs f ds).find? (comes n) = some pp ∧ ∃ d ∈ ds, pp.2.2 = turnsD d
  | [], f, _, _, ps, pc, e, _ => by
    have := congrArg List.length e
    simp [pcs] at this
  | d :: ds, f, ha, hn, ps, pc, e, hu => by
    have hd : isPiece d = true := by
      simp only [List.all_cons, Bool.and_eq_true] at ha
      exact ha.1
    have hds : ds.all isPiece = true := by
      simp only [List.all_cons, Bool.and_eq_true] at ha
      exact ha.2
    have ec : pcs f (d :: ds) = (f, pastO f (sndD d), turnsD d) :: pcs (f + worth (sndD d)) ds := rfl
    rw [ec, List.find?_cons]
    cases hc : comes n (f, pastO f (sndD d), turnsD d) with
    | true => exact ⟨_, rfl, d, List.mem_cons_self, rfl⟩
    | false =>
      cases ds with
      | nil =>
        have e2 : [(f, pastO f (sndD d), turnsD d)] = ps ++ [pc] := e
        have e3 : pc = (f, pastO f (sndD d), turnsD d) := by
          cases ps with
          | nil => exact (List.cons.inj e2).1.symm
          | cons x xs =>
            have := congrArg List.length e2
            simp at this
        rw [e3] at hu
        exfalso
        unfold comes at hc
        cases hp : pastO f (sndD d) with
        | none => simp [hp] at hc
        | some m =>
          simp only [hp] at hc
          rw [hp] at hu
          have h1 : decide (n < m) = true := hu
          rw [h1] at hc
          cases hc
      | cons d2 ds2 =>
        obtain ⟨ps', e4⟩ : ∃ ps', pcs (f + worth (sndD d)) (d2 :: ds2) = ps' ++ [pc] := by
          cases ps with
          | nil =>
            have := congrArg List.length e
            simp [pcs] at this
          | cons x xs => exact ⟨xs, (List.cons.inj e).2⟩
        have hn2 : ((d2 :: ds2).take ((d2 :: ds2).length - 1)).any (fun d => isNone (sndD d)) = false := by
          have : (d :: d2 :: ds2).take ((d :: d2 :: ds2).length - 1) = d :: (d2 :: ds2).take ((d2 :: ds2).length - 1) := rfl
          rw [this, List.any_cons, Bool.or_eq_false_iff] at hn
          exact hn.2
        obtain ⟨pp, h1, d', h2, h3⟩ := find_pcs n (d2 :: ds2) _ hds hn2 ps' pc e4 hu
        exact ⟨pp, h1, d', List.mem_cons_of_mem _ h2, h3⟩
theorem plan_parts {d : PyData} (h : isPlan d = true) : ∃ ds, rowsD d = some ds ∧ piecesOf d = pcs 0 ds ∧ 1 ≤ ds.length ∧ ds.length ≤ 8 ∧ ds.all isPiece = true ∧ (ds.take (ds.length - 1)).any (fun d => isNone (sndD d)) = false ∧ sumSnd ds ≤ GREAT := by
  cases z : rowsD d with
  | none => unfold isPlan at h; rw [z] at h; cases h
  | some ds =>
    have e : isPlan d = isPlanL ds := by unfold isPlan; rw [z]
    rw [e] at h
    unfold isPlanL at h
    simp only [Bool.and_eq_true, decide_eq_true_eq, Bool.not_eq_true'] at h
    obtain ⟨⟨⟨⟨l1, l8⟩, hpc⟩, hno⟩, hsum⟩ := h
    exact ⟨ds, rfl, by unfold piecesOf; rw [z]; rfl, l1, l8, hpc, hno, hsum⟩
theorem pcs_len : ∀ (f : Int) (ds : List PyData), (pcs f ds).length = ds.length
  | _, [] => rfl
  | f, d :: ds => congrArg (· + 1) (pcs_len _ ds)
theorem plan_last {d : PyData} (h : isPlan d = true) : ∃ ps pc, piecesOf d = ps ++ [pc] := by
  obtain ⟨ds, _, e, l1, _⟩ := plan_parts h
  have hl : (piecesOf d).length = ds.length := by rw [e, pcs_len]
  have ne : piecesOf d ≠ [] := fun z => by rw [z] at hl; simp at hl; omega
  exact ⟨_, _, (List.dropLast_concat_getLast ne).symm⟩
abbrev sBnd : Stmt := topS 25
theorem scBnd : FnScope ["pieces", "many"] ["pieces"] (defScope sBnd) := ⟨rfl, rfl, rfl, by decide +kernel, rfl, by decide +kernel, by decide +kernel⟩
abbrev sLstStep : Stmt := topS 26
theorem scLstStep : FnScope ["runs", "run", "person", "width"] ["runs"] (defScope sLstStep) := ⟨rfl, rfl, rfl, by decide +kernel, rfl, by decide +kernel, by decide +kernel⟩
abbrev sWins : Stmt := topS 28
theorem scWins : FnScope ["pieces", "person", "around", "start", "bound", "here", "width"] ["pieces", "person"] (defScope sWins) := ⟨rfl, rfl, rfl, by decide +kernel, rfl, by decide +kernel, by decide +kernel⟩
theorem fld_blk {X : Cx} {s : Shared} {H : Hp} {scope : Scope} {cenv : Env} {fp : List Addr} {e : Expr} {f : Str} {pos : Pos} {ta : TE} (he : PE (X.blk s H scope cenv fp) e ta) (hb : attributeBase e f (X.blk s H scope cenv fp).env (eval e (X.blk s H scope cenv fp).env) = eval e (X.blk s H scope cenv fp).env) : PE (X.blk s H scope cenv fp) (.Attribute e f pos) (tFld X.K ta f) := pe_fld he hb
/-! ### each run of a level -/
theorem lvl_le {ps : List PieceT} {b : Option Int} {stop : Int} : ∀ {rs : List RunT} {a c : Int}, Lvl ps b stop a rs c → a ≤ c ∧ ∀ r ∈ rs, ∃ a', a ≤ a' ∧ RunOk ps b stop a' r
  | [], a, c, h => by
    obtain rfl : a = c := h
    exact ⟨Int.le_refl _, fun r hr => nomatch hr⟩
  | r :: rs, a, c, h => by
    obtain ⟨h1, h2⟩ := lvl_le h.2
    have hl := lenR_pos r.steps
    have h0 : 0 ≤ (r.times : Int) * lenR r.steps := Int.mul_nonneg (by omega) (by omega)
    refine ⟨by omega, fun x hx => ?_⟩
    rcases List.mem_cons.mp hx with rfl | hx
    · exact ⟨a, Int.le_refl _, h.1⟩
    · obtain ⟨a', h3, h4⟩ := h2 x hx
      exact ⟨a', by omega, h4⟩
theorem lvl_last {ps : List PieceT} {b : Option Int} {stop : Int} : ∀ {rs : List RunT} {r : RunT} {a c : Int}, Lvl ps b stop a (rs ++ [r]) c → ∃ a', a ≤ a' ∧ RunOk ps b stop a' r ∧ c = a' + r.times * lenR r.steps
  | [], r, a, c, h => ⟨a, Int.le_refl _, h.1, (show a + r.times * lenR r.steps = c from h.2).symm⟩
  | s :: rs, r, a, c, h => by
    obtain ⟨a', h1, h2, h3⟩ := lvl_last h.2
    have hl := lenR_pos s.steps
    have h0 : 0 ≤ (s.times : Int) * lenR s.steps := Int.mul_nonneg (by omega) (by omega)
    exact ⟨a', by omega, h2, h3⟩
theorem shift_len (d : Int) (S : List StepT) : (shift d S).length = S.length := List.length_map ..
theorem wp_le {ps : List PieceT} {b : Option Int} {x w : Int} (hp : PsOk ps) (h : WP ps b x w) : 0 ≤ w ∧ w ≤ GREAT + 1 ∧ (w ≠ 0 → ∃ pc p, pc ∈ ps ∧ PyData.int p ∈ pc.2.2 ∧ w = p + 1 ∧ 0 ≤ p ∧ p ≤ GREAT ∧ ∀ m, b = some m → x + p ≤ m) := by
  obtain ⟨pc, t, hf, ht, rfl⟩ := h
  have hm := List.mem_of_find?_eq_some hf
  have htm := List.mem_of_getElem? ht
  have hpt := (hp.turns pc hm).2.2 t htm
  refine ⟨wd_nn hpt, ?_⟩
  rcases pat_cases hpt with rfl | ⟨p, rfl, h1, h2⟩
  · exact ⟨by show (0 : Int) ≤ GREAT + 1; decide, fun z => absurd rfl z⟩
  · cases b with
    | none => exact ⟨by show p + 1 ≤ GREAT + 1; omega, fun _ => ⟨pc, p, hm, htm, rfl, h1, h2, fun m e => by cases e⟩⟩
    | some m =>
      by_cases c : x + p ≤ m
      · have e : wd (some m) x (.int p) = p + 1 := if_pos c
        rw [e]
        exact ⟨by omega, fun _ => ⟨pc, p, hm, htm, rfl, h1, h2, fun m' e => by cases e; exact c⟩⟩
      · have e : wd (some m) x (.int p) = 0 := if_neg c
        rw [e]
        exact ⟨by show (0 : Int) ≤ GREAT + 1; decide, fun z => absurd rfl z⟩
/-- how far a run may go -/
theorem runOk_le {ps : List PieceT} {b : Option Int} {stop a : Int} {r : RunT} (hp : PsOk ps) (h : RunOk ps b stop a r) (h0 : 0 ≤ a) (hs : stop < 2 ^ 139) : 1 ≤ lenR r.steps ∧ lenR r.steps < 2 ^ 140 ∧ ((r.times : Int) - 1) * lenR r.steps ≤ stop - a ∧ (r.times : Int) < 2 ^ 140 := by
  have hne : r.steps.length ≠ 0 := fun z => h.ne (List.length_eq_zero_iff.mp z)
  have hl := lenR_pos r.steps
  have ht := h.times
  have hP0 := h.path 0 (by omega)
  have hw : ∀ s ∈ r.steps, s.2 ≤ GREAT + 1 := fun s hs' => by
    have := (hP0.le.2 (s.1 + (0 : Nat) * lenR r.steps, s.2) (List.mem_map.mpr ⟨s, hs', rfl⟩)).2.2.2
    exact (wp_le hp this).2.1
  have hl2 := lenR_le (m := 1000000000000000000000000000001) r.steps hw (by decide)
  have hl3 : (r.steps.length : Int) * 1000000000000000000000000000001 ≤ 8 * 1000000000000000000000000000001 := Int.mul_le_mul_of_nonneg_right (by have := h.len; omega) (by decide)
  obtain ⟨s0, S0, e0⟩ : ∃ s0 S0, r.steps = s0 :: S0 := by
    cases e : r.steps with
    | nil => exact absurd e h.ne
    | cons s0 S0 => exact ⟨s0, S0, rfl⟩
  have hk := h.path (r.times - 1) (by omega)
  have h1 : a + ((r.times - 1 : Nat) : Int) * lenR r.steps ≤ stop := by
    rw [e0] at hk
    have h2 := hk.1
    have h3 := hk.2.1.1
    rw [e0]
    have h4 : s0.1 + ((r.times - 1 : Nat) : Int) * lenR (s0 :: S0) = a + ((r.times - 1 : Nat) : Int) * lenR (s0 :: S0) := h2
    have h5 : s0.1 + ((r.times - 1 : Nat) : Int) * lenR (s0 :: S0) ≤ stop := h3
    omega
  have e1 : ((r.times - 1 : Nat) : Int) = (r.times : Int) - 1 := by omega
  rw [e1] at h1
  refine ⟨by omega, by omega, by omega, ?_⟩
  have h2 : ((r.times : Int) - 1) * 1 ≤ ((r.times : Int) - 1) * lenR r.steps := Int.mul_le_mul_of_nonneg_left (by omega) (by omega)
  omega
def spBnd : Sp := fun vs H Q _ => ∃ a ps pc, vs = [.ref a] ∧ PcsAt H a (ps ++ [pc]) ∧ Q (optV (pc.2.1.map (· - 1))) H
def spLast (C : Addr) : Sp := fun vs H Q _ => ∃ D ws ps b, ∃ start stop c : Int, ∃ rs, vs = [.ref D] ∧ H D = some (.lst ws) ∧ RunsAt C D H ws rs ∧ rs ≠ [] ∧ Lvl ps b stop start rs c ∧ PsOk ps ∧ 0 ≤ start ∧ stop < 2 ^ 139 ∧
  ∀ x w p H', Same H H' → H' p = some (.tup [.int x, .int w]) → Rch ps b start x → start ≤ x → WS ps b stop x w → x + max w 1 = c → Q (.ref p) H'
def spWins : Sp := fun vs H Q _ => ∃ a ps pc, ∃ person : Int, vs = [.ref a, .int person] ∧ PcsAt H a (ps ++ [pc]) ∧ PsOk (ps ++ [pc]) ∧ 0 ≤ person ∧ person < 2 ^ 138 ∧ (∀ x, 0 ≤ x → x ≤ person → ∃ pc', (ps ++ [pc]).find? (comes x) = some pc') ∧ (∀ q ∈ ps ++ [pc], ∀ m, q.2.1 = some m → m ≤ 2 ^ 138) ∧
  ∀ D ws S H', Same H H' → H' D = some (.lst ws) → StAt H' ws S → Road (ps ++ [pc]) (pc.2.1.map (· - 1)) 0 person S → S.length ≤ 64 → Q (.ref D) H'
def spSpareOn (C : Addr) : Sp := fun vs H Q _ => ∃ D ws ps b, ∃ start stop c : Int, ∃ rs, vs = [.ref D] ∧ H D = some (.lst ws) ∧ RunsAt C D H ws rs ∧ rs.length ≤ 20440 ∧ Lvl ps b stop start rs c ∧ PsOk ps ∧ 0 ≤ start ∧ stop < 2 ^ 139 ∧ ∀ H', Same H H' → Q (.int (rs.map fun r => (r.times : Int) * (spareR r.steps : Nat)).sum) H'
section
variable {P : Program} {w : World} {K : PySem.W.Frag} {mg : Str → Option Value} {base : Heap}
theorem ok_bnd {f : Addr} {fd : FuncData} (F : Fun K "outer_bound" "outer_bound" sBnd f fd) (CM : Cal P w K mg base 1 "many_in" ["pieces"] spMany) : FnOk P w K mg base CX0 2 f fd ["pieces"] spBnd := by
  refine F.ok scBnd (fun vs H Q E ⟨a, ps, pc, e, _⟩ => by rw [e]; rfl) (fun cdv A0 outer s H vs Q E hr h => ?_)
  obtain ⟨a, ps, pc, rfl, hp, q⟩ := h
  have nd := scBnd.nd
  refine ⟨_, (pss_cons (ps_set (i := 1) nd rfl (.inl rfl) (pe_cal (CM.mono (by decide)) hr (by rfl) (pa_cons (pv 0) pa_nil)))
    (pss_one (ps_ret (pe_ifExp (pt_cmp (pc_isN (pv 1))) pe_non (pe_op op_sub (pv 1) pe_int))))), ?_⟩
  refine ⟨.ref a, rfl, a, ps, pc, rfl, hp, ?_⟩
  cases e : pc.2.1 with
  | none => rw [e] at q; exact ⟨.non, rfl, _, rfl, iteT q⟩
  | some m => rw [e] at q; exact ⟨.int m, rfl, _, rfl, iteF ⟨.int m, rfl, m, 1, rfl, rfl, q⟩⟩
theorem ok_last {f C fI : Addr} {fd : FuncData} (F : Fun K "last_step" "last_step" sLstStep f fd) (TC : RunC K mg C fI) : FnOk P w K mg base CX0 1 f fd ["runs"] (spLast C) := by
  refine F.ok scLstStep (fun vs H Q E ⟨D, ws, ps, b, st0, stop, c, rs, e, _⟩ => by rw [e]; rfl) (fun cdv A0 outer s H vs Q E hr h => ?_)
  obtain ⟨D, ws, ps, b, start, stop, c, rs, rfl, hD, hra, hne, hlv, hps, h0, hst, q⟩ := h
  have nd := scLstStep.nd
  refine ⟨_, (pss_cons (ps_set (i := 1) nd rfl (.inl rfl) (pe_ix ix_list (pv 0) (pe_un un_neg pe_int) (fun _ _ => rfl)))
    (pss_cons (ps_asg (pe_ix ix_list (pe_fld (pv 1) rfl) (pe_un un_neg pe_int) (fun _ _ => rfl)) (pg_tup rfl (pgs_cons (pg_name (i := 2) nd rfl (.inl rfl)) (pgs_cons (pg_name (i := 3) nd rfl (.inl rfl)) pgs_nil))))
    (pss_one (ps_ret (pe_tup (pa_cons (pe_op op_add (pv 2) (pe_op op_mulW (pe_op op_sub (pe_fld (pv 1) rfl) pe_int) (pe_fld (pv 1) rfl))) (pa_cons (pv 3) pa_nil))))))), ?_⟩
  obtain ⟨rs', r, rfl⟩ : ∃ rs' r, rs = rs' ++ [r] := ⟨rs.dropLast, rs.getLast hne, (List.dropLast_concat_getLast hne).symm⟩
  obtain ⟨a', ha', hok, hc⟩ := lvl_last hlv
  obtain ⟨b1, b2, b3, b4⟩ := runOk_le hps hok (by omega) hst
  obtain ⟨v, hv, x, dx, p, vs', rfl, npD, hx, hp, hS⟩ := hra.at_ rs'.length r (by simp)
  have hl := hra.len
  obtain ⟨ws', v', rfl⟩ : ∃ ws' v', ws = ws' ++ [v'] := by
    have : ws ≠ [] := fun z => by rw [z] at hl; simp at hl
    exact ⟨ws.dropLast, ws.getLast this, (List.dropLast_concat_getLast this).symm⟩
  have hl' : ws'.length = rs'.length := by simpa using hl
  obtain rfl : v' = .ref x := by
    rw [← hl', List.getElem?_concat_length] at hv
    exact Option.some.inj hv
  obtain ⟨S', s, eS⟩ : ∃ S' s, r.steps = S' ++ [s] := ⟨r.steps.dropLast, r.steps.getLast hok.ne, (List.dropLast_concat_getLast hok.ne).symm⟩
  obtain ⟨bb, hbb, htb⟩ := hS.at_ S'.length s (by rw [eS]; simp)
  obtain ⟨vs2, v2, rfl⟩ : ∃ ws' v', vs' = ws' ++ [v'] := by
    have : vs' ≠ [] := fun z => by rw [z] at hbb; simp at hbb
    exact ⟨vs'.dropLast, vs'.getLast this, (List.dropLast_concat_getLast this).symm⟩
  have hl2 : vs2.length = S'.length := by
    have := hS.len
    rw [eS] at this
    simpa using this
  obtain rfl : v2 = .ref bb := by
    rw [← hl2, List.getElem?_concat_length] at hbb
    exact Option.some.inj hbb
  refine ⟨.ref D, rfl, 1, rfl, D, _, -1, .ref x, rfl, rfl, SqL.of hD, atI_last _ _, ?_⟩
  refine ⟨.ref x, rfl, x, C, dx, _, .ref p, rfl, hx, TC.cl, TC.nSt, rf_steps _ _ _, 1, rfl, p, _, -1, .ref bb, rfl, rfl, SqL.of hp, atI_last _ _, bb, _, rfl, SqT.of htb, rfl, .int s.1, _, rfl, .int s.2, _, rfl, rfl, ?_⟩
  refine ⟨.int s.1, rfl, .ref x, rfl, x, C, dx, _, .int (r.times : Int), rfl, hx, TC.cl, TC.nTi, rf_times _ _ _, (r.times : Int), 1, rfl, rfl, .ref x, rfl, x, C, dx, _, .int (lenR r.steps), rfl, hx, TC.cl, TC.nLe, rf_length _ _ _, (r.times : Int) - 1, lenR r.steps, rfl, rfl, wide_mul (a := 140) (b := 140) (by have := hok.times; omega) (by omega) (by decide) (by decide) (by decide), s.1, ((r.times : Int) - 1) * lenR r.steps, rfl, rfl, .int s.2, rfl, small_le (by show 2 ≤ 1000; decide), fun pr npr => ?_⟩
  have hk := hok.path (r.times - 1) (by have := hok.times; omega)
  have e1 : ((r.times - 1 : Nat) : Int) = (r.times : Int) - 1 := by have := hok.times; omega
  rw [e1] at hk
  have hm := hk.le.2 (s.1 + ((r.times : Int) - 1) * lenR r.steps, s.2) (List.mem_map.mpr ⟨s, by rw [eS]; exact List.mem_append_right _ (List.mem_singleton.mpr rfl), rfl⟩)
  have h00 : 0 ≤ ((r.times : Int) - 1) * lenR r.steps := Int.mul_nonneg (by have := hok.times; omega) (by omega)
  refine q _ _ pr _ (same_upd npr) upd_same (lvl_lastR hlv eS) (by have := hm.1; omega) hm.2.2 ?_
  -- where the last step leads
  have hsp : Pth (WS ps b stop) (a' + ((r.times : Int) - 1) * lenR r.steps) (shift (((r.times : Int) - 1) * lenR r.steps) S' ++ [(s.1 + ((r.times : Int) - 1) * lenR r.steps, s.2)]) (a' + (((r.times : Int) - 1) * lenR r.steps + lenR r.steps)) := by
    have : shift (((r.times : Int) - 1) * lenR r.steps) r.steps = shift (((r.times : Int) - 1) * lenR r.steps) S' ++ [(s.1 + ((r.times : Int) - 1) * lenR r.steps, s.2)] := by
      conv => lhs; rw [show shift (((r.times : Int) - 1) * lenR r.steps) r.steps = shift (((r.times : Int) - 1) * lenR r.steps) (S' ++ [s]) by rw [← eS]]
      unfold shift
      rw [List.map_append]
      rfl
    rw [← this]
    exact hk
  obtain ⟨m, _, h2⟩ := hsp.split
  have h3 : m + max s.2 1 = a' + (((r.times : Int) - 1) * lenR r.steps + lenR r.steps) := h2.2.2
  have h4 : s.1 + ((r.times : Int) - 1) * lenR r.steps = m := h2.1
  have h5 : (r.times : Int) * lenR r.steps = ((r.times : Int) - 1) * lenR r.steps + lenR r.steps := by rw [Int.sub_mul, Int.one_mul]; omega
  omega
end
end CL
set_option Elab.async false
set_option linter.all false
set_option pp.maxSteps 400
set_option maxRecDepth 100000
set_option maxHeartbeats 4000000
namespace CL
open PySem PySem.Spec PyProof.Rows L2 GE
theorem wd_pos {b : Option Int} {x : Int} {t : PyData} (h : 0 < wd b x t) : ∃ p, t = .int p ∧ wd b x t = p + 1 ∧ ∀ m, b = some m → x + p ≤ m := by
  cases t with
  | int p =>
    cases b with
    | none => exact ⟨p, rfl, rfl, fun m e => by cases e⟩
    | some m =>
      by_cases c : x + p ≤ m
      · have e : wd (some m) x (.int p) = p + 1 := if_pos c
        exact ⟨p, rfl, e, fun m' e' => by cases e'; exact c⟩
      · have e : wd (some m) x (.int p) = 0 := if_neg c
        rw [e] at h
        omega
  | _ => cases b <;> exact absurd h (Int.lt_irrefl 0)
theorem pt_ok {ps : List PieceT} (hp : PsOk ps) {x : Int} {t : PyData} (h : Pt ps x t) : isPatience t = true := by
  obtain ⟨pc, h1, h2⟩ := h
  exact (hp.turns pc (List.mem_of_find?_eq_some h1)).2.2 t (List.mem_of_getElem? h2)
theorem wp_pos {ps : List PieceT} {b : Option Int} {x w : Int} (h : WP ps b x w) (h0 : 0 < w) : ∃ p, Pt ps x (.int p) ∧ w = p + 1 ∧ ∀ m, b = some m → x + p ≤ m := by
  obtain ⟨t, h1, rfl⟩ := wp_pt h
  obtain ⟨p, rfl, h2, h3⟩ := wd_pos h0
  exact ⟨p, h1, h2, h3⟩
theorem wp_zero {ps : List PieceT} (hp : PsOk ps) {b : Option Int} {x : Int} {t : PyData} (h : WP ps b x 0) (ht : Pt ps x t) : t = .none ∨ ∃ p m : Int, t = .int p ∧ b = some m ∧ m < x + p := by
  obtain ⟨t', h1, h2⟩ := wp_pt h
  obtain rfl := pt_uniq ht h1
  rcases pat_cases (pt_ok hp ht) with rfl | ⟨p, rfl, h3, h4⟩
  · exact .inl rfl
  · cases b with
    | none => exact absurd (show (0 : Int) = p + 1 from h2) (by omega)
    | some m =>
      refine .inr ⟨p, m, rfl, rfl, ?_⟩
      by_cases c : x + p ≤ m
      · have e : wd (some m) x (.int p) = p + 1 := if_pos c
        omega
      · omega
theorem cut_in {ps : List PieceT} {b : Option Int} {x w c : Int} (h : WP ps b x w) (h0 : 0 < w) (hc : x + w - 1 ≤ c) : WP ps (some c) x w := by
  obtain ⟨p, h1, h2, _⟩ := wp_pos h h0
  have := pt_wp (some c) h1
  rw [show wd (some c) x (.int p) = p + 1 from if_pos (by omega), ← h2] at this
  exact this
theorem cut_zero {ps : List PieceT} (hp : PsOk ps) {b : Option Int} {x c : Int} (h : WP ps b x 0) (hb : ∀ m, b = some m → c < m) : WP ps (some c) x 0 := by
  obtain ⟨t, h1, h2⟩ := wp_pt h
  have := pt_wp (some c) h1
  have e : wd (some c) x t = 0 := by
    rcases wp_zero hp h h1 with rfl | ⟨p, m, rfl, hm, hlt⟩
    · rfl
    · have := hb m hm
      exact if_neg (by omega)
  rw [e] at this
  exact this
theorem cut_out {ps : List PieceT} {b : Option Int} {x w c : Int} (h : WP ps b x w) (h0 : 0 < w) (hc : c < x + w - 1) : WP ps (some c) x 0 := by
  obtain ⟨p, h1, h2, _⟩ := wp_pos h h0
  have := pt_wp (some c) h1
  rw [show wd (some c) x (.int p) = 0 from if_neg (by omega)] at this
  exact this
theorem wp_nn {ps : List PieceT} (hp : PsOk ps) {b : Option Int} {x w : Int} (h : WP ps b x w) : 0 ≤ w := (wp_le hp h).1
/-- between the person and the bound -/
theorem las_le {ps : List PieceT} {b l : Option Int} {s x : Int} (h : Las ps b s x l) : (∀ m, b = some m → x ≤ m) → (∀ k, l = some k → x ≤ k ∧ ∀ m, b = some m → k ≤ m) ∧ (l = none → b = none) := by
  induction h with
  | spare h => exact fun hb => ⟨fun k e => ⟨hb k e, fun m e' => (by rw [e] at e'; cases e'; omega)⟩, fun e => e⟩
  | own h h0 =>
    obtain ⟨p, _, h2, h3⟩ := wp_pos h h0
    exact fun hb => ⟨fun k e => by cases e; exact ⟨by omega, fun m e => (by have := h3 m e; omega)⟩, fun e => absurd e (by simp)⟩
  | inn h h1 h2 _ ih =>
    obtain ⟨p, _, h3, h4⟩ := wp_pos h (by omega)
    obtain ⟨i1, i2⟩ := ih fun m e => by cases e; omega
    refine fun hb => ⟨fun k e => ?_, fun e => absurd (i2 e) (by simp)⟩
    obtain ⟨j1, j2⟩ := i1 k e
    exact ⟨j1, fun m e => by have := h4 m e; have := j2 _ rfl; omega⟩
  | skip h h1 _ ih => exact ih
/-- no farther than the patience -/
theorem las_pat {ps : List PieceT} (hp : PsOk ps) {b l : Option Int} {s x : Int} {t : PyData} (h : Las ps b s x l) : Pt ps x t → (l = none → t = .none) ∧ ∀ k p : Int, l = some k → t = .int p → k ≤ x + p := by
  induction h with
  | spare h =>
    intro ht
    refine ⟨fun e => ?_, fun k p e e2 => ?_⟩
    · rcases wp_zero hp h ht with h1 | ⟨p, m, h1, h2, h3⟩
      · exact h1
      · rw [e] at h2; cases h2
    · rcases wp_zero hp h ht with h1 | ⟨p', m, h1, h2, h3⟩
      · rw [h1] at e2; cases e2
      · rw [e] at h2; cases h2; rw [h1] at e2; cases e2; omega
  | own h h0 =>
    intro ht
    refine ⟨fun e => absurd e (by simp), fun k p e e2 => ?_⟩
    obtain ⟨p', h1, h2, h3⟩ := wp_pos h h0
    have := pt_uniq ht h1
    rw [e2] at this
    cases this
    cases e
    omega
  | inn h h1 h2 _ ih => exact ih
  | skip h h1 _ ih => exact ih
theorem las_uniq {ps : List PieceT} {b l : Option Int} {s x : Int} (h : Las ps b s x l) : ∀ l', Las ps b s x l' → l = l' := by
  induction h with
  | spare h =>
    intro l' h'
    cases h' with
    | spare _ => rfl
    | own k k0 => have := wp_uniq h k; omega
    | inn k k1 => omega
    | skip k k1 => omega
  | own h h0 =>
    intro l' h'
    cases h' with
    | spare k => have := wp_uniq h k; omega
    | own k k0 => rw [wp_uniq h k]
    | inn k k1 => omega
    | skip k k1 => omega
  | inn h h1 h2 _ ih =>
    intro l' h'
    cases h' with
    | spare k => omega
    | own k k0 => omega
    | inn k k1 k2 k3 => have e := wp_uniq h k; subst e; exact ih _ k3
    | skip k k1 => have e := wp_uniq h k; subst e; omega
  | skip h h1 _ ih =>
    intro l' h'
    cases h' with
    | spare k => omega
    | own k k0 => omega
    | inn k k1 k2 => have e := wp_uniq h k; subst e; omega
    | skip k k1 k2 => have e := wp_uniq h k; subst e; exact ih _ k2
/-- whoever comes up to a last has a last no farther -/
theorem las_nest {ps : List PieceT} {b l : Option Int} {s x : Int} (h : Las ps b s x l) : ∀ (k y : Int) (t : Option Int), l = some k → x < y → y ≤ k → (∀ m, b = some m → x ≤ m) → Las ps b s y t → ∃ j, t = some j ∧ j ≤ k := by
  induction h with
  | spare h =>
    intro k y t e hy hk hb h'
    obtain ⟨i1, i2⟩ := las_le h' fun m e' => by rw [e] at e'; cases e'; omega
    cases t with
    | none => rw [i2 rfl] at e; cases e
    | some j => exact ⟨j, rfl, (i1 j rfl).2 k e⟩
  | own h h0 =>
    intro k y t e hy hk hb h'
    cases e
    cases h' with
    | spare k => omega
    | own k k0 => omega
    | inn k k1 k2 k3 =>
      have e := wp_uniq h k
      subst e
      obtain ⟨i1, i2⟩ := las_le k3 fun m e' => by cases e'; omega
      cases t with
      | none => cases i2 rfl
      | some j => exact ⟨j, rfl, (i1 j rfl).2 _ rfl⟩
    | skip k k1 => have e := wp_uniq h k; subst e; omega
  | inn h h1 h2 h3 ih =>
    intro k y t e hy hk hb h'
    have l1 := ((las_le h3 fun m e' => by cases e'; omega).1 k e).2 _ rfl
    cases h' with
    | spare k => omega
    | own k k0 => omega
    | inn k' k1 k2 k3 => have e' := wp_uniq h k'; subst e'; exact ih k y t e hy hk (fun m e' => by cases e'; omega) k3
    | skip k' k1 => have e' := wp_uniq h k'; subst e'; omega
  | skip h h1 _ ih =>
    intro k y t e hy hk hb h'
    cases h' with
    | spare k => omega
    | own k k0 => omega
    | inn k' k1 k2 => have e' := wp_uniq h k'; subst e'; omega
    | skip k' k1 k2 => have e' := wp_uniq h k'; subst e'; exact ih k y t e hy hk hb k2
/-- a bound before the other one: who is left over there has a last beyond it, whoever isn't has the same last -/
theorem las_cut {ps : List PieceT} (hp : PsOk ps) {b l : Option Int} {s x c : Int} (h : Las ps b s x l) : x ≤ c → (∀ m, b = some m → c < m) →
    (SpR ps (some c) s x ∧ ∀ k, l = some k → c < k) ∨ (¬ SpR ps (some c) s x ∧ ∃ k, l = some k ∧ k ≤ c ∧ Las ps (some c) s x (some k)) := by
  induction h with
  | spare h => exact fun hx hb => .inl ⟨.here (cut_zero hp h hb), hb⟩
  | @own b x w h h0 =>
    intro hx hb
    by_cases cx : x + w - 1 ≤ c
    · have h1 := cut_in h h0 cx
      exact .inr ⟨fun z => by have := wp_uniq (spr_wp z) h1; omega, _, rfl, cx, .own h1 h0⟩
    · exact .inl ⟨.here (cut_out h h0 (by omega)), fun k e => by cases e; omega⟩
  | @inn b l s x w h h1 h2 h3 ih =>
    intro hx hb
    by_cases cx : s + w - 1 ≤ c
    · have k1 := cut_in h (by omega) cx
      obtain ⟨i1, i2⟩ := las_le h3 fun m e' => by cases e'; omega
      refine .inr ⟨fun z => ?_, ?_⟩
      · cases z with
        | here z => omega
        | on z z1 => have e := wp_uniq k1 z; subst e; omega
      · cases l with
        | none => cases i2 rfl
        | some j => exact ⟨j, rfl, by have := (i1 j rfl).2 _ rfl; omega, .inn k1 h1 h2 h3⟩
    · have k1 := cut_out h (by omega) (show c < s + w - 1 by omega)
      have e1 : s + max (0 : Int) 1 = s + 1 := by omega
      rcases ih hx (fun m e => by cases e; omega) with ⟨i1, i2⟩ | ⟨i1, k, i2, i3, i4⟩
      · exact .inl ⟨.on k1 (by omega) (by rw [e1]; exact i1), i2⟩
      · refine .inr ⟨fun z => ?_, k, i2, i3, .skip k1 (by omega) (by rw [e1]; exact i4)⟩
        cases z with
        | here z => omega
        | on z z1 z2 => have e := wp_uniq k1 z; subst e; rw [e1] at z2; exact i1 z2
  | @skip b l s x w h h1 h3 ih =>
    intro hx hb
    have k1 : WP ps (some c) s w := by
      have := wp_nn hp h
      by_cases cw : w = 0
      · subst cw; exact cut_zero hp h hb
      · exact cut_in h (by omega) (by omega)
    rcases ih hx hb with ⟨i1, i2⟩ | ⟨i1, k, i2, i3, i4⟩
    · exact .inl ⟨.on k1 h1 i1, i2⟩
    · refine .inr ⟨fun z => ?_, k, i2, i3, .skip k1 h1 i4⟩
      cases z with
      | here z => omega
      | on z z1 z2 => have e := wp_uniq k1 z; subst e; exact i1 z2
/-- ahead of one that is met, and not left over: the last is ahead of it too -/
theorem las_before {ps : List PieceT} {b : Option Int} {s y : Int} (h : Rch ps b s y) : ∀ (x : Int) (l : Option Int), x < y → Las ps b s x l → ¬ SpR ps b s x → ∃ k, l = some k ∧ k < y := by
  induction h with
  | here => intro x l hx h'; have := las_ge h'; omega
  | on h1 h2 ih =>
    intro x l hx h' hn
    have hy := rch_le h2
    cases h' with
    | spare k => exact absurd (.here k) hn
    | own k k0 => have e := wp_uniq h1 k; subst e; exact ⟨_, rfl, by omega⟩
    | inn k k1 k2 k3 =>
      have e := wp_uniq h1 k
      subst e
      obtain ⟨i1, i2⟩ := las_le k3 fun m e' => by cases e'; omega
      cases l with
      | none => cases i2 rfl
      | some j => exact ⟨j, rfl, by have := (i1 j rfl).2 _ rfl; omega⟩
    | skip k k1 k2 => have e := wp_uniq h1 k; subst e; exact ih x l hx k2 fun z => hn (.on h1 k1 z)
/-! ### how many are left over -/
theorem pth_hi {ps : List PieceT} {bd : Int} (hp : PsOk ps) : ∀ {S : List StepT} {a c : Int}, Pth (WS ps (some bd) bd) a S c → a ≤ bd + 1 → c ≤ bd + 1
  | [], a, c, h, h1 => by
    obtain rfl : a = c := h
    exact h1
  | s :: S, a, c, h, h1 => by
    have e : s.1 = a := h.1
    refine pth_hi hp h.2.2 ?_
    have h2 := h.2.1.1
    by_cases c0 : 0 < s.2
    · obtain ⟨p, _, h3, h4⟩ := wp_pos h.2.1.2 c0
      have := h4 bd rfl
      omega
    · have := wp_nn hp h.2.1.2
      omega
theorem run_hi {ps : List PieceT} {bd a : Int} {r : RunT} (hp : PsOk ps) (h : RunOk ps (some bd) bd a r) (ha : a ≤ bd + 1) : a + (r.times : Int) * lenR r.steps ≤ bd + 1 := by
  have : ∀ k : Nat, k ≤ r.times → a + (k : Int) * lenR r.steps ≤ bd + 1 := fun k => by
    induction k with
    | zero => intro _; rw [show ((0 : Nat) : Int) = 0 from rfl, Int.zero_mul]; omega
    | succ k ih =>
      intro hk
      have := pth_hi hp (h.path k (by omega)) (ih (by omega))
      have e : ((k + 1 : Nat) : Int) * lenR r.steps = (k : Int) * lenR r.steps + lenR r.steps := by
        rw [Int.natCast_add, Int.add_mul, show ((1 : Nat) : Int) = 1 from rfl, Int.one_mul]
      rw [e]
      exact this
  exact this r.times (Nat.le_refl _)
theorem lvl_hi {ps : List PieceT} {bd : Int} (hp : PsOk ps) : ∀ {rs : List RunT} {a c : Int}, Lvl ps (some bd) bd a rs c → a ≤ bd + 1 → c ≤ bd + 1
  | [], a, c, h, h1 => by
    obtain rfl : a = c := h
    exact h1
  | r :: rs, a, c, h, h1 => lvl_hi hp h.2 (run_hi hp h.1 h1)
theorem run_wid {ps : List PieceT} {b : Option Int} {stop a : Int} {r : RunT} (hp : PsOk ps) (h : RunOk ps b stop a r) : ∀ s ∈ r.steps, 0 ≤ s.2 := fun s hs => by
  have hk := h.path 0 (by have := h.times; omega)
  have := (hk.le.2 (s.1 + ((0 : Nat) : Int) * lenR r.steps, s.2) (List.mem_map.mpr ⟨s, hs, rfl⟩)).2.2.2
  exact wp_nn hp this
def spT (rs : List RunT) : Int := (rs.map fun r => (r.times : Int) * (spareR r.steps : Nat)).sum
theorem sum_zero : ∀ {S : List StepT}, (∀ s ∈ S, s.2 = 0) → (S.map (·.2)).sum = 0
  | [], _ => rfl
  | s :: S, h => by
    rw [List.map_cons, List.sum_cons, sum_zero fun x hx => h x (List.mem_cons_of_mem _ hx), h s List.mem_cons_self]
    rfl
theorem sum_nn : ∀ {S : List StepT}, (∀ s ∈ S, 0 ≤ s.2) → 0 ≤ (S.map (·.2)).sum
  | [], _ => Int.le_refl 0
  | s :: S, h => by
    have h1 := sum_nn fun x hx => h x (List.mem_cons_of_mem _ hx)
    have h2 := h s List.mem_cons_self
    rw [List.map_cons, List.sum_cons]
    omega
theorem sum_pos : ∀ {S : List StepT} {s : StepT}, (∀ s ∈ S, 0 ≤ s.2) → s ∈ S → 0 < s.2 → 0 < (S.map (·.2)).sum
  | t :: S, s, h, hs, h0 => by
    have h2 := h t List.mem_cons_self
    rw [List.map_cons, List.sum_cons]
    rcases List.mem_cons.mp hs with rfl | hs
    · have h1 := sum_nn fun x hx => h x (List.mem_cons_of_mem _ hx)
      omega
    · have := sum_pos (fun x hx => h x (List.mem_cons_of_mem _ hx)) hs h0
      omega
theorem spT_cons (r : RunT) (rs : List RunT) : spT (r :: rs) = (r.times : Int) * (spareR r.steps : Nat) + spT rs := by unfold spT; rw [List.map_cons, List.sum_cons]
theorem spT_le {ps : List PieceT} {b : Option Int} {stop : Int} (hp : PsOk ps) : ∀ {rs : List RunT} {a c : Int}, Lvl ps b stop a rs c → spT rs ≤ c - a ∧ ((∀ r ∈ rs, ∀ s ∈ r.steps, s.2 = 0) → spT rs = c - a) ∧ ∀ r ∈ rs, ∀ s ∈ r.steps, 0 < s.2 → spT rs < c - a
  | [], a, c, h => by
    obtain rfl : a = c := h
    exact ⟨by show (0 : Int) ≤ a - a; omega, fun _ => by show (0 : Int) = a - a; omega, fun r hr => nomatch hr⟩
  | r :: rs, a, c, h => by
    obtain ⟨i1, i2, i3⟩ := spT_le hp h.2
    have hw := run_wid hp h.1
    have hs := lenR_sum r.steps hw
    have ht := h.1.times
    have s0 := sum_nn hw
    have e : (r.times : Int) * lenR r.steps = (r.times : Int) * (spareR r.steps : Nat) + (r.times : Int) * (r.steps.map (·.2)).sum := by rw [← hs, Int.mul_add]
    have m0 : 0 ≤ (r.times : Int) * (r.steps.map (·.2)).sum := Int.mul_nonneg (by omega) s0
    rw [spT_cons]
    refine ⟨by omega, fun hz => ?_, fun q hq s hs0 h0 => ?_⟩
    · have z := sum_zero (hz r List.mem_cons_self)
      have := i2 fun q hq => hz q (List.mem_cons_of_mem _ hq)
      rw [z, Int.mul_zero] at e
      omega
    · rcases List.mem_cons.mp hq with rfl | hq
      · have p := sum_pos hw hs0 h0
        have : 0 < (q.times : Int) * (q.steps.map (·.2)).sum := Int.mul_pos (by omega) p
        omega
      · have := i3 q hq s hs0 h0
        omega
end CL
set_option Elab.async false
set_option linter.all false
set_option pp.maxSteps 400
set_option maxRecDepth 100000
set_option maxHeartbeats 4000000
namespace CL
open PySem PySem.Spec PyProof.Rows L2 GE
abbrev nLo : List Str := ["runs", "run", "openers", "person", "width"]
/-! ### how many windows may lie within one another -/
def below (q : Int) : PyData → Bool
  | .int p => decide (p < q)
  | _ => false
def cnt (V : List PyData) (q : Int) : Nat := (V.filter (below q)).length
theorem cnt_mono : ∀ (V : List PyData) {p q : Int}, p ≤ q → cnt V p ≤ cnt V q
  | [], _, _, _ => Nat.le_refl 0
  | t :: V, p, q, h => by
    have ih := cnt_mono V h
    unfold cnt at ih ⊢
    rw [List.filter_cons, List.filter_cons]
    by_cases c : below p t = true
    · have c2 : below q t = true := by
        cases t with
        | int x => exact decide_eq_true (by have : x < p := of_decide_eq_true c; omega)
        | _ => cases c
      rw [if_pos c, if_pos c2, List.length_cons, List.length_cons]
      omega
    · rw [if_neg c]
      split
      · rw [List.length_cons]; omega
      · exact ih
theorem cnt_less : ∀ (V : List PyData) {p q : Int}, PyData.int p ∈ V → p < q → cnt V p < cnt V q
  | t :: V, p, q, hm, h => by
    have mono := cnt_mono V (show p ≤ q by omega)
    unfold cnt at mono ⊢
    rw [List.filter_cons, List.filter_cons]
    rcases List.mem_cons.mp hm with e | hm
    · subst e
      rw [if_neg (by show ¬ decide (p < p) = true; simp), if_pos (show below q (PyData.int p) = true from decide_eq_true h), List.length_cons]
      omega
    · have ih := cnt_less V hm h
      unfold cnt at ih
      by_cases c : below p t = true
      · have c2 : below q t = true := by
          cases t with
          | int x => exact decide_eq_true (by have : x < p := of_decide_eq_true c; omega)
          | _ => cases c
        rw [if_pos c, if_pos c2, List.length_cons, List.length_cons]
        omega
      · rw [if_neg c]
        split
        · rw [List.length_cons]; omega
        · exact ih
theorem breaks_lt {ps : List PieceT} {b : Option Int} {stop : Int} (hp : PsOk ps) (hm : ∀ q ∈ ps, ∀ m, q.2.1 = some m → m ≤ 2 ^ 138) (hs : stop < 2 ^ 139) (hb : ∀ m, b = some m → m < 2 ^ 139) : ∀ y ∈ breaks ps b stop, y < 2 ^ 139 := fun y hy => by
  unfold breaks at hy
  rcases List.mem_cons.mp hy with rfl | hy
  · exact hs
  · rcases List.mem_append.mp hy with hy | hy
    · obtain ⟨pc, h1, h2⟩ := List.mem_filterMap.mp hy
      cases e : pc.2.1 with
      | none => rw [e] at h2; cases h2
      | some m =>
        rw [e] at h2
        have e2 : m - 1 = y := Option.some.inj h2
        have := hm pc h1 m e
        omega
    · cases b with
      | none => cases hy
      | some m =>
        obtain ⟨pc, h1, h2⟩ := List.mem_flatMap.mp hy
        obtain ⟨p, h3, rfl⟩ := mem_fits.mp h2
        have h4 := (hp.turns pc h1).2.2 _ h3
        have h5 : (decide (0 ≤ p) && decide (p ≤ GREAT)) = true := h4
        simp only [Bool.and_eq_true, decide_eq_true_eq] at h5
        have := hb m rfl
        omega
theorem meas_lt {person st x : Int} {k : Nat} (hk : k = (person + 1 - st).toNat) (h1 : st ≤ x) (h2 : st ≤ person) : (person + 1 - (x + 1)).toNat < k := by omega
theorem nn_of {st x : Int} (h0 : 0 ≤ st) (h1 : st ≤ x) : 0 ≤ x + 1 := by omega
theorem in_of {x w p : Int} (h : w = p + 1) : x + w - 1 - (x + 1) < p := by omega
theorem road_next {ps : List PieceT} {b0 bd : Option Int} {st person x w : Int} {S : List StepT} (hw : WP ps bd x w) (hx : x ≤ person) (h0 : 0 < w) (hc : person < x + max w 1) (hR : Rch ps bd st x) (hL : ∀ R, Road ps bd st person R → Road ps b0 0 person (S ++ R)) :
    (x + 1 ≤ person ∧ ∀ R, Road ps (some (x + w - 1)) (x + 1) person R → Road ps b0 0 person ((S ++ [(x, x + w - 1)]) ++ R)) ∨ (person < x + 1 ∧ Road ps b0 0 person (S ++ [(x, x + w - 1)])) := by
  by_cases c : x + 1 ≤ person
  · exact .inl ⟨c, fun R h => by rw [List.append_assoc]; exact hL _ (road_of hR (.inn hw (by omega) (by omega) h))⟩
  · obtain rfl : x = person := by omega
    exact .inr ⟨by omega, hL _ (road_of hR (.own hw h0))⟩
def spLastOp (C : Addr) : Sp := fun vs H Q _ => ∃ D ws ps b, ∃ start stop c : Int, ∃ rs, vs = [.ref D] ∧ H D = some (.lst ws) ∧ RunsAt C D H ws rs ∧ Lvl ps b stop start rs c ∧ PsOk ps ∧ 0 ≤ start ∧ stop < 2 ^ 139 ∧
  ∀ v H', Same H H' → ((v = .non ∧ ∀ r ∈ rs, ∀ s ∈ r.steps, s.2 = 0) ∨ ∃ rs1 r ts S1 s S2, rs = rs1 ++ r :: ts ∧ r.steps = S1 ++ s :: S2 ∧ 0 < s.2 ∧ (∀ x ∈ S2, x.2 = 0) ∧ (∀ q ∈ ts, ∀ x ∈ q.steps, x.2 = 0) ∧ v = .int (s.1 + ((r.times : Int) - 1) * lenR r.steps)) → Q v H'
theorem last_filter : ∀ (S : List StepT), (∀ s ∈ S, 0 ≤ s.2) → ((S.filter fun s => decide (0 < s.2)) = [] ∧ ∀ s ∈ S, s.2 = 0) ∨ ∃ S1 s S2 T, S = S1 ++ s :: S2 ∧ 0 < s.2 ∧ (∀ x ∈ S2, x.2 = 0) ∧ (S.filter fun s => decide (0 < s.2)) = T ++ [s]
  | [], _ => .inl ⟨rfl, fun s h => nomatch h⟩
  | t :: S, h => by
    have h0 := h t List.mem_cons_self
    rcases last_filter S fun x hx => h x (List.mem_cons_of_mem _ hx) with ⟨e, hz⟩ | ⟨S1, s, S2, T, e1, e2, e3, e4⟩
    · by_cases c : 0 < t.2
      · exact .inr ⟨[], t, S, [], rfl, c, hz, by rw [List.filter_cons, if_pos (by simpa using c), e]; rfl⟩
      · refine .inl ⟨by rw [List.filter_cons, if_neg (by simpa using c)]; exact e, fun x hx => ?_⟩
        rcases List.mem_cons.mp hx with rfl | hx
        · omega
        · exact hz x hx
    · by_cases c : 0 < t.2
      · exact .inr ⟨t :: S1, s, S2, t :: T, by rw [e1]; rfl, e2, e3, by rw [List.filter_cons, if_pos (by simpa using c), e4]; rfl⟩
      · exact .inr ⟨t :: S1, s, S2, T, by rw [e1]; rfl, e2, e3, by rw [List.filter_cons, if_neg (by simpa using c)]; exact e4⟩
section
variable {P : Program} {w : World} {K : PySem.W.Frag} {mg : Str → Option Value} {base : Heap}
theorem ok_wins {f C : Addr} {fd : FuncData} (F : Fun K "windows_in" "windows_in" sWins f fd) (CB : Cal P w K mg base 2 "outer_bound" ["pieces"] spBnd) (CR : Cal P w K mg base 3 "runs_on" ["pieces", "start", "bound", "stop"] (spRuns C)) (CL : Cal P w K mg base 1 "last_step" ["runs"] (spLast C)) : FnOk P w K mg base CX0 4 f fd ["pieces", "person"] spWins := by
  refine F.ok scWins (fun vs H Q E ⟨a, ps, pc, person, e, _⟩ => by rw [e]; rfl) (fun cdv A0 outer s H vs Q E hr h => ?_)
  obtain ⟨a, ps0, pc0, person, rfl, hp, hps, hp0, hp1, hfind, hpast, q⟩ := h
  have nd := scWins.nd
  have sz := sz5000
  refine ⟨_, (pss_cons (ps_set (i := 2) nd rfl (.inl rfl) (pe_lst pa_nil))
    (pss_cons (ps_set (i := 3) nd rfl (.inl rfl) pe_int)
    (pss_cons (ps_set (i := 4) nd rfl (.inl rfl) (pe_cal (CB.mono (by decide)) hr (by rfl) (pa_cons (pv 0) pa_nil)))
    (pss_cons (ps_while PassesOwn.never (pt_cmpR op_le (pv 3) (pv 1) (nomark _))
    (pss_cons (ps_asg (pe_cal (CL.mono (by decide)) hr (by rfl) (pa_cons (pe_cal (CR.mono (by decide)) hr (by rfl) (pa_cons (pv 0) (pa_cons (pv 3) (pa_cons (pv 4) (pa_cons (pv 1) pa_nil))))) pa_nil)) (pg_tup rfl (pgs_cons (pg_name (i := 5) nd rfl (.inl rfl)) (pgs_cons (pg_name (i := 6) nd rfl (.inl rfl)) pgs_nil))))
    (pss_cons (ps_if (pt_cmpR op_eq (pv 6) pe_int (nomark _)) (pss_one (ps_ret (pv 2))) pss_nil)
    (pss_cons (ps_set (i := 3) nd rfl (.inl rfl) (pe_op op_add (pv 5) pe_int))
    (pss_cons (ps_set (i := 4) nd rfl (.inl rfl) (pe_op op_sub (pe_op op_add (pv 5) (pv 6)) pe_int))
    (pss_one (ps_expr (pe_bm PySem.F.plainAttrs_list PySem.F.slot_list_append PySem.F.type_list_append mt_append (pv 2) (pa_cons (pe_tup (pa_cons (pv 5) (pa_cons (pv 4) pa_nil))) pa_nil)))))))))
    (pss_one (ps_ret (pv 2))))))), ?_⟩
  generalize hV : (ps0 ++ [pc0]).flatMap (fun pc => pc.2.2) = V
  have hlast := hpast pc0 (List.mem_append_right _ (List.mem_singleton.mpr rfl))
  have hVl : ∀ q, cnt V q ≤ 64 := fun q => by
    have h1 : V.length ≤ 64 := by
      have h2 : ∀ (l : List PieceT), (∀ pc ∈ l, pc.2.2.length ≤ 8) → (l.flatMap fun pc => pc.2.2).length ≤ 8 * l.length := fun l => by
        induction l with
        | nil => intro _; exact Nat.le_refl 0
        | cons pc l ih =>
          intro h
          have i1 := ih fun x hx => h x (List.mem_cons_of_mem _ hx)
          have i3 := h pc List.mem_cons_self
          rw [List.flatMap_cons, List.length_append, List.length_cons]
          omega
      have := h2 (ps0 ++ [pc0]) fun pc hpc => (hps.turns pc hpc).2.1
      have := hps.len
      rw [← hV]
      omega
    have h2 : cnt V q ≤ V.length := List.length_filter_le _ _
    omega
  refine ⟨Nat.zero_le _, fun D nD => ?_⟩
  have s1 := same_upd (o := .lst []) nD
  have e1 : (upd H D (.lst [])) D = some (.lst []) := upd_same
  generalize upd H D (.lst []) = H1 at s1 e1
  have hpS : ∀ {H'}, Same H H' → PcsAt H' a (ps0 ++ [pc0]) := fun {H'} s => by
    obtain ⟨xs, h1, h2⟩ := hp.ex
    exact ⟨xs, s _ _ h1, RpAll.sm s h2⟩
  refine ⟨.ref a, rfl, a, ps0, pc0, rfl, hpS s1, ?_⟩
  have hb0 : ∀ m, (pc0.2.1.map (· - 1)) = some m → m < 2 ^ 139 := fun m e => by
    cases e2 : pc0.2.1 with
    | none => rw [e2] at e; cases e
    | some m' =>
      rw [e2] at e
      have e3 : m' - 1 = m := Option.some.inj e
      have := hlast m' e2
      omega
  generalize pc0.2.1.map (· - 1) = bd0 at hb0 q
  refine ⟨fun k σ H4 => ∃ ws S, ∃ st qq : Int, ∃ bd : Option Int, ∃ y5 y6, σ = [some (.ref a), some (.int person), some (.ref D), some (.int st), some (optV bd), y5, y6] ∧ Same H H4 ∧ H4 D = some (.lst ws) ∧ StAt H4 ws S ∧ 0 ≤ st ∧ S.length + cnt V qq ≤ 64 ∧
      (GREAT < qq ∨ ∃ m, bd = some m ∧ m - st < qq) ∧ (∀ m, bd = some m → m < 2 ^ 139) ∧ ((st ≤ person ∧ ∀ R, Road (ps0 ++ [pc0]) bd st person R → Road (ps0 ++ [pc0]) bd0 0 person (S ++ R)) ∨ (person < st ∧ Road (ps0 ++ [pc0]) bd0 0 person S)) ∧ k = (person + 1 - st).toNat,
      ⟨_, [], [], 0, GREAT + 1, bd0, none, none, rfl, s1, e1, ⟨rfl, fun i s h => by cases i <;> cases h⟩, Int.le_refl _, by have := hVl (GREAT + 1); show 0 + _ ≤ _; omega, .inl (by omega), hb0, .inl ⟨hp0, fun l h => h⟩, rfl⟩, fun k σ H4 ⟨ws, S, st, qq, bd, y5, y6, eσ, s4, e4, hSt, hst, hcn, hqq, hbd, hLa, hk⟩ => ?_⟩
  subst eσ
  refine ⟨.int st, rfl, .int person, rfl, st, person, rfl, rfl, _, rfl, ?_⟩
  by_cases cx : st ≤ person
  · rw [decide_eq_true cx]
    refine iteT ⟨fun σ' H' => ∃ m', m' < k ∧ ∃ ws S, ∃ st qq : Int, ∃ bd : Option Int, ∃ y5 y6, σ' = [some (.ref a), some (.int person), some (.ref D), some (.int st), some (optV bd), y5, y6] ∧ Same H H' ∧ H' D = some (.lst ws) ∧ StAt H' ws S ∧ 0 ≤ st ∧ S.length + cnt V qq ≤ 64 ∧
      (GREAT < qq ∨ ∃ m, bd = some m ∧ m - st < qq) ∧ (∀ m, bd = some m → m < 2 ^ 139) ∧ ((st ≤ person ∧ ∀ R, Road (ps0 ++ [pc0]) bd st person R → Road (ps0 ++ [pc0]) bd0 0 person (S ++ R)) ∨ (person < st ∧ Road (ps0 ++ [pc0]) bd0 0 person S)) ∧ m' = (person + 1 - st).toNat, fun σ' H' ⟨m', h1, h2⟩ => ⟨m', h1, h2⟩, ?_⟩
    refine ⟨.ref a, rfl, .int st, rfl, optV bd, rfl, .int person, rfl, a, ps0 ++ [pc0], st, person, bd, rfl, hpS s4, hps, hst, fun x h1 h2 => hfind x (by omega) h2, breaks_lt hps hpast (by omega) hbd, fun D2 ws2 rs c H5 s5 n5 e5 ra lv hc _ hrn => ?_⟩
    refine ⟨D2, ws2, ps0 ++ [pc0], bd, st, person, c, rs, rfl, e5, ra, fun z => by have := hrn z; omega, lv, hps, hst, by omega, fun x w p H6 s6 e6 hRc hx hws hxc => ?_⟩
    refine ⟨p, _, rfl, SqT.of e6, rfl, .int x, _, rfl, .int w, _, rfl, rfl, ?_⟩
    have s46 := s5.trans s6
    have s06 := s4.trans s46
    have e6D := s46 _ _ e4
    obtain ⟨w0, w1, w2⟩ := wp_le hps hws.2
    have hLs : ∀ R, Road (ps0 ++ [pc0]) bd st person R → Road (ps0 ++ [pc0]) bd0 0 person (S ++ R) := by
      rcases hLa with ⟨_, h⟩ | ⟨h, _⟩
      · exact h
      · omega
    refine ⟨.int w, rfl, rfl, _, rfl, ite2 (fun e => ?_) (fun e => ?_)⟩
    · have hw0 : w = 0 := by
        have := of_decide_eq_true e
        first | exact this | (cases this; rfl) | exact V.int.inj this
      have hxp := hws.1
      obtain rfl : x = person := by rw [hw0] at hxc; omega
      refine ⟨.ref D, rfl, q D ws S H6 s06 e6D (hSt.kt (KT.of s46)) ?_ (by omega)⟩
      have := hLs [] (road_of hRc (.spare (by have := hws.2; rw [hw0] at this; exact this)))
      rw [List.append_nil] at this
      exact this
    · have hw0 : w ≠ 0 := fun z => e (decide_eq_true (by rw [z]))
      obtain ⟨pc1, p1, hm1, hp1', hw1, hp10, hp11, hfit⟩ := w2 hw0
      have hxp := hws.1
      have hp1V : PyData.int p1 ∈ V := by rw [← hV]; exact List.mem_flatMap.mpr ⟨pc1, hm1, hp1'⟩
      have hpq : p1 < qq := by
        rcases hqq with h | ⟨m, rfl, h⟩
        · omega
        · have := hfit m rfl
          omega
      have hcl := cnt_less V hp1V hpq
      refine ⟨.int x, rfl, x, 1, rfl, rfl, ?_⟩
      refine ⟨.int x, rfl, .int w, rfl, x, w, rfl, rfl, x + w, 1, rfl, rfl, ?_⟩
      refine ⟨.ref D, rfl, .inl ⟨rfl, _, SqL.of e6D⟩, .int x, rfl, .int (x + w - 1), rfl, small_le (by show 2 ≤ 1000; decide), fun u nu => ?_⟩
      have s7 := same_upd (o := .tup [.int x, .int (x + w - 1)]) nu
      have eu : (upd H6 u (.tup [.int x, .int (x + w - 1)])) u = some (.tup [.int x, .int (x + w - 1)]) := upd_same
      generalize upd H6 u (.tup [.int x, .int (x + w - 1)]) = H7 at s7 eu
      have e7D := s7 _ _ e6D
      refine ⟨D, _, .ref u, rfl, rfl, e7D, by rw [hSt.len]; omega, ?_⟩
      have k78 : KT H7 (upd H7 D (.lst (ws ++ [.ref u]))) := KT.upd fun xs z => by rw [e7D] at z; cases z
      have hlt : (person + 1 - (x + 1)).toNat < k := meas_lt hk hx cx
      have hx1 : 0 ≤ x + 1 := nn_of hst hx
      have hq2 : x + w - 1 - (x + 1) < p1 := in_of hw1
      have hLn := road_next hws.2 hxp (by omega) (by omega) hRc hLs
      refine ⟨(person + 1 - (x + 1)).toNat, hlt, ws ++ [.ref u], S ++ [(x, x + w - 1)], x + 1, p1, some (x + w - 1), _, _, rfl, fun p o hp' => ?_, upd_same, ?_, hx1, ?_, .inr ⟨_, rfl, hq2⟩, fun m e => ?_, hLn, rfl⟩
      · rw [upd_ne (fun z => by rw [z, nD] at hp'; cases hp')]
        exact s7 _ _ (s06 _ _ hp')
      · exact (hSt.kt ((KT.of (s46.trans s7)).trans k78)).snoc (b := u) (s := (x, x + w - 1)) (k78 _ _ eu)
      · rw [List.length_append, List.length_singleton]
        omega
      · cases e
        have : GREAT = 1000000000000000000000000000000 := rfl
        omega
  · rw [decide_eq_false cx]
    refine iteF ⟨.ref D, rfl, q D ws S H4 s4 e4 hSt ?_ (by omega)⟩
    rcases hLa with ⟨h, _⟩ | ⟨_, h⟩
    · exact absurd h cx
    · exact h
end
end CL
set_option Elab.async false
set_option linter.all false
set_option pp.maxSteps 400
set_option maxRecDepth 100000
set_option maxHeartbeats 4000000
namespace CL
open PySem PySem.Spec PyProof.Rows L2 GE
/-! ### a plan's pieces -/
theorem turns_hi {d : PyData} (h : isPiece d = true) : (turnsD d).length ≤ 8 := by
  unfold isPiece at h
  unfold turnsD
  cases e : rowsD d with
  | none => exact Nat.zero_le _
  | some xs =>
    rw [e] at h
    match xs, h with
    | [t, m], h =>
      simp only [Bool.and_eq_true] at h
      have h1 := h.1
      unfold isTurns at h1
      cases e2 : rowsD t with
      | none => rw [e2] at h1; cases h1
      | some ts =>
        rw [e2] at h1
        simp only [Bool.and_eq_true, decide_eq_true_eq] at h1
        show ((rowsD t).getD []).length ≤ 8
        rw [e2]
        exact h1.1.2
theorem worth_snd {d : PyData} (h : isPiece d = true) : 0 ≤ worth (sndD d) := by
  unfold isPiece at h
  unfold sndD
  cases e : rowsD d with
  | none => exact Int.le_refl 0
  | some xs =>
    rw [e] at h
    match xs, h with
    | [t, m], h =>
      simp only [Bool.and_eq_true] at h
      show 0 ≤ worth m
      cases m with
      | int i => exact of_decide_eq_true h.2
      | _ => exact Int.le_refl 0
theorem pcs_past : ∀ (f : Int) (ds : List PyData), ds.all isPiece = true → ∀ q ∈ pcs f ds, ∀ m, q.2.1 = some m → m ≤ f + sumSnd ds
  | _, [], _, q, hq, _, _ => nomatch hq
  | f, d :: ds, h, q, hq, m, e => by
    rw [List.all_cons, Bool.and_eq_true] at h
    have h0 := worth_snd h.1
    have es : sumSnd (d :: ds) = worth (sndD d) + sumSnd ds := rfl
    have hs : 0 ≤ sumSnd ds := by
      have z : ∀ ds : List PyData, ds.all isPiece = true → 0 ≤ sumSnd ds := fun ds => by
        induction ds with
        | nil => intro _; exact Int.le_refl 0
        | cons d ds ih =>
          intro h
          rw [List.all_cons, Bool.and_eq_true] at h
          have := ih h.2
          have := worth_snd h.1
          show 0 ≤ worth (sndD d) + sumSnd ds
          omega
      exact z ds h.2
    have hq' : q ∈ (f, pastO f (sndD d), turnsD d) :: pcs (f + worth (sndD d)) ds := hq
    rcases List.mem_cons.mp hq' with rfl | hq'
    · have e2 : pastO f (sndD d) = some m := e
      cases e3 : sndD d with
      | int i =>
        rw [e3] at e2 h0
        have e4 : f + i = m := Option.some.inj e2
        rw [es, e3]
        show m ≤ f + (i + sumSnd ds)
        omega
      | _ => rw [e3] at e2; cases e2
    · have := pcs_past (f + worth (sndD d)) ds h.2 q hq' m e
      rw [es]
      omega
structure PlOk (ps : List PieceT) (pc : PieceT) : Prop where
  ok : PsOk (ps ++ [pc])
  find : ∀ x : Int, under pc.2.1 x = true → ∃ pc', (ps ++ [pc]).find? (comes x) = some pc'
  past : ∀ q ∈ ps ++ [pc], ∀ m, q.2.1 = some m → m ≤ 2 ^ 138
theorem plOk {d : PyData} (h : isPlan d = true) {ps : List PieceT} {pc : PieceT} (e : piecesOf d = ps ++ [pc]) : PlOk ps pc := by
  obtain ⟨ds, _, e2, l1, l8, hpc, hno, hsum⟩ := plan_parts h
  rw [e2] at e
  have hall := List.all_eq_true.mp hpc
  have k1 : PsOk (pcs 0 ds) := ⟨by rw [pcs_len]; exact l8, fun q hq => by
    have z : ∀ (f : Int) (ds : List PyData), (∀ d ∈ ds, isPiece d = true) → ∀ q ∈ pcs f ds, ∃ d, isPiece d = true ∧ q.2.2 = turnsD d := fun f ds => by
      induction ds generalizing f with
      | nil => intro _ q hq; cases hq
      | cons d ds ih =>
        intro h q hq
        have hq' : q ∈ (f, pastO f (sndD d), turnsD d) :: pcs (f + worth (sndD d)) ds := hq
        rcases List.mem_cons.mp hq' with rfl | hq'
        · exact ⟨d, h d List.mem_cons_self, rfl⟩
        · exact ih _ (fun y hy => h y (List.mem_cons_of_mem _ hy)) q hq'
    obtain ⟨d', h1, h2⟩ := z 0 ds hall q hq
    obtain ⟨t1, t2⟩ := turns_ok h1
    rw [h2]
    exact ⟨t1, turns_hi h1, t2⟩⟩
  have k2 : ∀ x : Int, under pc.2.1 x = true → ∃ pc', (pcs 0 ds).find? (comes x) = some pc' := fun x hx => by
    obtain ⟨pp, h1, _⟩ := find_pcs x ds 0 hpc hno ps pc e hx
    exact ⟨pp, h1⟩
  have k3 : ∀ q ∈ pcs 0 ds, ∀ m, q.2.1 = some m → m ≤ 2 ^ 138 := fun q hq m em => by
    have := pcs_past 0 ds hpc q hq m em
    have h3 : sumSnd ds ≤ 1000000000000000000000000000000 := hsum
    omega
  rw [e] at k1 k2 k3
  exact ⟨k1, k2, k3⟩
theorem under_le {o : Option Int} {x y : Int} (h : under o y = true) (hxy : x ≤ y) : under o x = true := by
  cases o with
  | none => rfl
  | some m =>
    have : y < m := of_decide_eq_true h
    exact decide_eq_true (by omega)
def spLastIn : Sp := fun vs H Q _ => ∃ a ps pc, ∃ person : Int, vs = [.ref a, .int person] ∧ PcsAt H a (ps ++ [pc]) ∧ PlOk ps pc ∧ 0 ≤ person ∧ person < 2 ^ 138 ∧ under pc.2.1 person = true ∧ ∀ l H', Same H H' → Las (ps ++ [pc]) (pc.2.1.map (· - 1)) 0 person l → Q (optV l) H'
/-- a number that is not too far -/
def Near (c : PyData) : Prop := ∀ n : Int, c = .int n → n < 2 ^ 138
def spLastOf (P1 P2 C C2 : Addr) : Sp := fun vs H Q E => ∃ v u d c, vs = [v, u] ∧ Rp H v d ∧ Rp H u c ∧ Near c ∧ Tb P1 P2 H ∧ (isPlan d = false → ∀ H', Ex H H' → Tb P1 P2 H' → E (.ref C) none H') ∧
  (isPlan d = true → ∃ ps pc, piecesOf d = ps ++ [pc] ∧ (personOk pc.2.1 c = false → ∀ H', Ex H H' → Tb P1 P2 H' → E (.ref C2) none H') ∧ (personOk pc.2.1 c = true → ∀ n l H', c = .int n → Las (ps ++ [pc]) (pc.2.1.map (· - 1)) 0 n l → Ex H H' → Tb P1 P2 H' → Q (optV l) H'))
section
variable {P : Program} {w : World} {K : PySem.W.Frag} {mg : Str → Option Value} {base : Heap}
end
end CL
set_option Elab.async false
set_option linter.all false
set_option pp.maxSteps 400
set_option maxRecDepth 100000
set_option maxHeartbeats 4000000
namespace CL
open PySem PySem.Spec PyProof.Rows L2 GE
theorem PcsAt.sm {H H' : Hp} {a : Addr} {ps : List PieceT} (h : PcsAt H a ps) (s : Same H H') : PcsAt H' a ps := by
  obtain ⟨xs, h1, h2⟩ := h.ex
  exact ⟨xs, s _ _ h1, RpAll.sm s h2⟩
theorem person_int {o : Option Int} {c : PyData} (z : personOk o c = true) : ∃ n : Int, c = .int n ∧ 0 ≤ n ∧ under o n = true := by
  cases c with
  | int n =>
    rw [personOk_int, Bool.and_eq_true, decide_eq_true_eq] at z
    exact ⟨n, rfl, z.1, z.2⟩
  | _ => cases z
theorem moment_int {o : Option Int} {c : PyData} (z : momentOk o c = true) : ∃ n : Int, c = .int n ∧ 0 ≤ n ∧ n ≤ GREAT ∧ upto o n = true := by
  cases c with
  | int n =>
    rw [momentOk_int] at z
    simp only [Bool.and_eq_true, decide_eq_true_eq] at z
    exact ⟨n, rfl, z.1.1, z.1.2, z.2⟩
  | _ => cases z
/-- how many went past by then, by the last -/
def pastV (l : Option Int) (n m : Int) : Int := match l with
  | none => m - 1 - n
  | some k => (if m - 1 < k then m - 1 else k) - n
def spWent (P1 P2 C C2 C3 : Addr) : Sp := fun vs H Q E => ∃ v u y d c c', vs = [v, u, y] ∧ Rp H v d ∧ Rp H u c ∧ Rp H y c' ∧ Near c ∧ Tb P1 P2 H ∧ (isPlan d = false → ∀ H', Ex H H' → Tb P1 P2 H' → E (.ref C) none H') ∧
  (isPlan d = true → ∃ ps pc, piecesOf d = ps ++ [pc] ∧ (personOk pc.2.1 c = false → ∀ H', Ex H H' → Tb P1 P2 H' → E (.ref C2) none H') ∧ (personOk pc.2.1 c = true → (momentOk pc.2.1 c' = false → ∀ H', Ex H H' → Tb P1 P2 H' → E (.ref C3) none H') ∧
    (momentOk pc.2.1 c' = true → ∀ n m : Int, c = .int n → c' = .int m → (m ≤ n → ∀ H', Ex H H' → Tb P1 P2 H' → E (.ref C3) none H') ∧ (n < m → ∀ l H', Las (ps ++ [pc]) (pc.2.1.map (· - 1)) 0 n l → Ex H H' → Tb P1 P2 H' → Q (.int (pastV l n m)) H'))))
/-- who stands ahead, by the last of the older one -/
def whoV (l : Option Int) (older newer : Int) : Int := match l with
  | none => newer
  | some k => if k ≥ newer then newer else older
def spWho (P1 P2 C C2 C4 : Addr) : Sp := fun vs H Q E => ∃ v u y d c c', vs = [v, u, y] ∧ Rp H v d ∧ Rp H u c ∧ Rp H y c' ∧ Near c ∧ Near c' ∧ Tb P1 P2 H ∧ (isPlan d = false → ∀ H', Ex H H' → Tb P1 P2 H' → E (.ref C) none H') ∧
  (isPlan d = true → ∃ ps pc, piecesOf d = ps ++ [pc] ∧ (personOk pc.2.1 c = false → ∀ H', Ex H H' → Tb P1 P2 H' → E (.ref C2) none H') ∧ (personOk pc.2.1 c = true → (personOk pc.2.1 c' = false → ∀ H', Ex H H' → Tb P1 P2 H' → E (.ref C2) none H') ∧
    (personOk pc.2.1 c' = true → ∀ n m : Int, c = .int n → c' = .int m → (n = m → ∀ H', Ex H H' → Tb P1 P2 H' → E (.ref C4) none H') ∧ (n ≠ m → ∀ l H', Las (ps ++ [pc]) (pc.2.1.map (· - 1)) 0 (if m < n then m else n) l → Ex H H' → Tb P1 P2 H' → Q (.int (whoV l (if m < n then m else n) (if m > n then m else n))) H'))))
def spRunsTo (P1 P2 C C3 CR : Addr) : Sp := fun vs H Q E => ∃ v u d c, vs = [v, u] ∧ Rp H v d ∧ Rp H u c ∧ Tb P1 P2 H ∧ (isPlan d = false → ∀ H', Ex H H' → Tb P1 P2 H' → E (.ref C) none H') ∧
  (isPlan d = true → ∃ ps pc, piecesOf d = ps ++ [pc] ∧ (momentOk pc.2.1 c = false → ∀ H', Ex H H' → Tb P1 P2 H' → E (.ref C3) none H') ∧
    (momentOk pc.2.1 c = true → ∀ m : Int, c = .int m → ∀ D ws rs cc H', Ex H H' → Tb P1 P2 H' → H' D = some (.lst ws) → RunsAt CR D H' ws rs → rs.length ≤ 20440 → Lvl (ps ++ [pc]) (some (m - 1)) (m - 1) 0 rs cc → m - 1 < cc → Q (.ref D) H'))
/-- how many are left over on a level from s to before e -/
inductive Cnt (ps : List PieceT) (b : Option Int) : Int → Int → Int → Prop
  | here (x : Int) : Cnt ps b x x 0
  | on {s e w n : Int} : WP ps b s w → Cnt ps b (s + max w 1) e n → Cnt ps b s e ((if w = 0 then 1 else 0) + n)
theorem cnt_le {ps : List PieceT} {b : Option Int} {s e n : Int} (h : Cnt ps b s e n) : s ≤ e := by
  induction h with
  | here => omega
  | on _ _ ih => omega
theorem cnt_trans {ps : List PieceT} {b : Option Int} {s e n : Int} (h : Cnt ps b s e n) : ∀ {f k : Int}, Cnt ps b e f k → Cnt ps b s f (n + k) := by
  induction h with
  | here => intro f k h'; rw [Int.zero_add]; exact h'
  | on h1 _ ih => intro f k h'; rw [Int.add_assoc]; exact .on h1 (ih h')
theorem cnt_uniq {ps : List PieceT} {b : Option Int} {s e n : Int} (h : Cnt ps b s e n) : ∀ {n'}, Cnt ps b s e n' → n = n' := by
  induction h with
  | here =>
    intro n' h'
    cases h' with
    | here => rfl
    | on h1 h2 => have := cnt_le h2; omega
  | on h1 h2 ih =>
    intro n' h'
    cases h' with
    | here => have := cnt_le h2; omega
    | on h3 h4 => have e := wp_uniq h1 h3; subst e; rw [ih h4]
theorem spareR_cons (s : StepT) (S : List StepT) : (spareR (s :: S) : Int) = (if s.2 = 0 then 1 else 0) + (spareR S : Nat) := by
  unfold spareR
  rw [List.filter_cons]
  by_cases c : s.2 = 0
  · rw [if_pos (by simpa using c), if_pos c, List.length_cons]; omega
  · rw [if_neg (by simpa using c), if_neg c]; omega
theorem cnt_pth {ps : List PieceT} {b : Option Int} {stop : Int} : ∀ {S : List StepT} {a c : Int}, Pth (WS ps b stop) a S c → Cnt ps b a c (spareR S : Nat)
  | [], a, c, h => by
    obtain rfl : a = c := h
    exact .here _
  | s :: S, a, c, h => by
    have e : s.1 = a := h.1
    rw [spareR_cons]
    exact .on (e ▸ h.2.1.2) (cnt_pth h.2.2)
theorem spareR_shift (d : Int) : ∀ S : List StepT, spareR (shift d S) = spareR S
  | [] => rfl
  | s :: S => by
    have h := spareR_shift d S
    have e1 := spareR_cons s S
    have e2 := spareR_cons (s.1 + d, s.2) (shift d S)
    have e3 : shift d (s :: S) = (s.1 + d, s.2) :: shift d S := rfl
    rw [e3]
    have e4 : (if (s.1 + d, s.2).2 = 0 then (1 : Int) else 0) = if s.2 = 0 then 1 else 0 := rfl
    omega
theorem cnt_run {ps : List PieceT} {b : Option Int} {stop a : Int} {r : RunT} (h : RunOk ps b stop a r) : ∀ k : Nat, k ≤ r.times → Cnt ps b a (a + k * lenR r.steps) ((k : Int) * (spareR r.steps : Nat))
  | 0, _ => by
    rw [show ((0 : Nat) : Int) = 0 from rfl, Int.zero_mul, Int.zero_mul, Int.add_zero]
    exact .here _
  | k + 1, hk => by
    have h1 := cnt_run h k (by omega)
    have h2 := cnt_pth (h.path k (by omega))
    rw [spareR_shift] at h2
    have e : a + ((k + 1 : Nat) : Int) * lenR r.steps = a + ((k : Int) * lenR r.steps + lenR r.steps) := by
      rw [Int.natCast_add, Int.add_mul, show ((1 : Nat) : Int) = 1 from rfl, Int.one_mul]
    have e2 : ((k + 1 : Nat) : Int) * (spareR r.steps : Nat) = (k : Int) * (spareR r.steps : Nat) + (spareR r.steps : Nat) := by
      rw [Int.natCast_add, Int.add_mul, show ((1 : Nat) : Int) = 1 from rfl, Int.one_mul]
    rw [e, e2]
    exact cnt_trans h1 h2
theorem cnt_lvl {ps : List PieceT} {b : Option Int} {stop : Int} : ∀ {rs : List RunT} {a c : Int}, Lvl ps b stop a rs c → Cnt ps b a c (spT rs)
  | [], a, c, h => by
    obtain rfl : a = c := h
    exact .here _
  | r :: rs, a, c, h => by
    rw [spT_cons]
    exact cnt_trans (cnt_run h.1 r.times (Nat.le_refl _)) (cnt_lvl h.2)
/-- how many aren't safe -/
def Uns (ps : List PieceT) (m n : Int) : Prop := Cnt ps (some (m - 1)) 0 m n
/-- the one farthest back that has no patience left, or none -/
def Ref (ps : List PieceT) (m : Int) (o : Option Int) : Prop := (o = none ∧ ∀ x, 0 ≤ x → x < m → SpR ps (some (m - 1)) 0 x) ∨ ∃ who w, o = some who ∧ Rch ps (some (m - 1)) 0 who ∧ WP ps (some (m - 1)) who w ∧ 0 < w ∧ who + w ≤ m ∧ ∀ x, who + w ≤ x → x < m → SpR ps (some (m - 1)) 0 x
theorem uns_of {ps : List PieceT} {m cc : Int} {rs : List RunT} (hp : PsOk ps) (lv : Lvl ps (some (m - 1)) (m - 1) 0 rs cc) (h0 : 0 ≤ m) (hcc : m - 1 < cc) : Uns ps m (spT rs) := by
  have h1 := lvl_hi hp lv (by omega)
  have h2 := cnt_lvl lv
  obtain rfl : cc = m := by omega
  exact h2
def spUnsafe (P1 P2 C C3 : Addr) : Sp := fun vs H Q E => ∃ v u d c, vs = [v, u] ∧ Rp H v d ∧ Rp H u c ∧ Tb P1 P2 H ∧ (isPlan d = false → ∀ H', Ex H H' → Tb P1 P2 H' → E (.ref C) none H') ∧
  (isPlan d = true → ∃ ps pc, piecesOf d = ps ++ [pc] ∧ (momentOk pc.2.1 c = false → ∀ H', Ex H H' → Tb P1 P2 H' → E (.ref C3) none H') ∧ (momentOk pc.2.1 c = true → ∀ m n H', c = .int m → Uns (ps ++ [pc]) m n → Ex H H' → Tb P1 P2 H' → Q (.int n) H'))
def spRefuser (P1 P2 C C3 : Addr) : Sp := fun vs H Q E => ∃ v u d c, vs = [v, u] ∧ Rp H v d ∧ Rp H u c ∧ Tb P1 P2 H ∧ (isPlan d = false → ∀ H', Ex H H' → Tb P1 P2 H' → E (.ref C) none H') ∧
  (isPlan d = true → ∃ ps pc, piecesOf d = ps ++ [pc] ∧ (momentOk pc.2.1 c = false → ∀ H', Ex H H' → Tb P1 P2 H' → E (.ref C3) none H') ∧ (momentOk pc.2.1 c = true → ∀ m o H', c = .int m → Ref (ps ++ [pc]) m o → Ex H H' → Tb P1 P2 H' → Q (optV o) H'))
section
variable {P : Program} {w : World} {K : PySem.W.Frag} {mg : Str → Option Value} {base : Heap}
end
end CL
set_option Elab.async false
set_option linter.all false
set_option pp.maxSteps 400
set_option maxRecDepth 100000
set_option maxHeartbeats 4000000
namespace CL
open PySem PySem.Spec PyProof.Rows L2 GE
abbrev sWinAr : Stmt := topS 29
theorem scWinAr : FnScope ["plan", "person", "pieces"] ["plan", "person"] (defScope sWinAr) := ⟨rfl, rfl, rfl, by decide +kernel, rfl, by decide +kernel, by decide +kernel⟩
/-- the window that a person opens, the last of those around it, or none -/
def WinV (H : Hp) (n : Int) (S : List StepT) (x : V) : Prop := (∃ b l, S.getLast? = some (n, l) ∧ x = .ref b ∧ H b = some (.tup [.int n, .int l])) ∨ ((∀ l, S.getLast? ≠ some (n, l)) ∧ x = .non)
def spWinOf (P1 P2 C C2 : Addr) : Sp := fun vs H Q E => ∃ v u d c, vs = [v, u] ∧ Rp H v d ∧ Rp H u c ∧ Near c ∧ Tb P1 P2 H ∧ (isPlan d = false → ∀ H', Ex H H' → Tb P1 P2 H' → E (.ref C) none H') ∧
  (isPlan d = true → ∃ ps pc, piecesOf d = ps ++ [pc] ∧ (personOk pc.2.1 c = false → ∀ H', Ex H H' → Tb P1 P2 H' → E (.ref C2) none H') ∧ (personOk pc.2.1 c = true → ∀ n S x H', c = .int n → Road (ps ++ [pc]) (pc.2.1.map (· - 1)) 0 n S → WinV H' n S x → Ex H H' → Tb P1 P2 H' → Q x H'))
def spWinAr (P1 P2 C C2 : Addr) : Sp := fun vs H Q E => ∃ v u d c, vs = [v, u] ∧ Rp H v d ∧ Rp H u c ∧ Near c ∧ Tb P1 P2 H ∧ (isPlan d = false → ∀ H', Ex H H' → Tb P1 P2 H' → E (.ref C) none H') ∧
  (isPlan d = true → ∃ ps pc, piecesOf d = ps ++ [pc] ∧ (personOk pc.2.1 c = false → ∀ H', Ex H H' → Tb P1 P2 H' → E (.ref C2) none H') ∧ (personOk pc.2.1 c = true → ∀ n D ws S H', c = .int n → Ex H H' → Tb P1 P2 H' → H' D = some (.lst ws) → StAt H' ws S → S.length ≤ 64 → Road (ps ++ [pc]) (pc.2.1.map (· - 1)) 0 n S → Q (.ref D) H'))
section
variable {P : Program} {w : World} {K : PySem.W.Frag} {mg : Str → Option Value} {base : Heap}
theorem ok_winAr {f P1 P2 C C2 : Addr} {fd : FuncData} (F : Fun K "windows_around" "windows_around" sWinAr f fd) (CP : CalX P w K mg base 9 "pieces_of" ["plan"] (spPieces P1 P2 C)) (CK : CalX P w K mg base 2 "check_person" ["pieces", "person"] (spCkP C2)) (CI : Cal P w K mg base 4 "windows_in" ["pieces", "person"] spWins) :
    FnOk P w K mg base (L2.CX P w) 10 f fd ["plan", "person"] (spWinAr P1 P2 C C2) := by
  refine F.okX scWinAr (fun vs H Q E ⟨v, u, d, c, e, _⟩ => by rw [e]; rfl) (fun cdv A outer s H vs Q E hr h => ?_)
  obtain ⟨v, u, d, c, rfl, hR, hU, hn, hT, qE0, q⟩ := h
  have nd := scWinAr.nd
  refine ⟨_, (pss_cons (ps_set (i := 2) nd rfl (.inl rfl) (pe_calX (CP.mono (by decide)) hr (by rfl) (passes_call (takes_of rfl rfl rfl rfl) fun _ _ _ _ h => h) (pa_cons (pv 0) pa_nil)))
    (pss_cons (ps_expr (pe_calX (CK.mono (by decide)) hr (by rfl) (passes_call (takes_of rfl rfl rfl rfl) fun _ _ _ _ h => h) (pa_cons (pv 2) (pa_cons (pv 1) pa_nil))))
    (pss_one (ps_ret (pe_cal (CI.mono (by decide)) hr (by rfl) (pa_cons (pv 2) (pa_cons (pv 1) pa_nil))))))), ?_⟩
  refine ⟨v, rfl, v, d, rfl, hR, hT, qE0, fun z0 p H1 e1 t1 _ rp => ?_⟩
  obtain ⟨ps, pc, hps, qE, q⟩ := q z0
  have hU1 := Rp.ex e1 c u hU
  have hpl := plOk z0 hps
  rw [hps] at rp
  obtain ⟨a, ea, h⟩ := PcsAt.of rp
  obtain rfl : p = a := V.ref.inj ea
  refine ⟨.ref p, rfl, u, rfl, p, u, ps, pc, c, rfl, h, hU1, fun z H2 s2 => qE z H2 (e1.trans (Ex.of s2)) (t1.same s2), fun z H2 s2 => ?_⟩
  obtain ⟨n, rfl, n0, nu⟩ : ∃ n : Int, c = .int n ∧ 0 ≤ n ∧ under pc.2.1 n = true := by
    cases c with
    | int n =>
      rw [personOk_int, Bool.and_eq_true, decide_eq_true_eq] at z
      exact ⟨n, rfl, z.1, z.2⟩
    | _ => cases z
  cases hU1
  obtain ⟨xs, hx1, hx2⟩ := h.ex
  refine ⟨.ref p, rfl, .int n, rfl, p, ps, pc, n, rfl, ⟨xs, s2 _ _ hx1, RpAll.sm s2 hx2⟩, hpl.ok, n0, hn n rfl, fun x _ hx => hpl.find x (under_le nu hx), hpl.past, fun D ws S H3 s3 eD hS hRd h64 => ?_⟩
  have e3 := e1.trans (Ex.of (s2.trans s3))
  have t3 := t1.same (s2.trans s3)
  exact q z n D ws S H3 rfl e3 t3 eD hS h64 hRd
end
end CL
set_option Elab.async false
set_option linter.all false
set_option pp.maxSteps 900
set_option maxRecDepth 100000
set_option maxHeartbeats 4000000
namespace CL
open PySem PySem.Spec PyProof.Rows L2 GE
abbrev sSaW : Stmt := topS 30
abbrev sIsAr : Stmt := topS 31
theorem scSaW : FnScope ["thing", "window"] ["thing", "window"] (defScope sSaW) := ⟨rfl, rfl, rfl, by decide +kernel, rfl, by decide +kernel, by decide +kernel⟩
theorem scIsAr : FnScope ["plan", "person", "thing", "around"] ["plan", "person", "thing"] (defScope sIsAr) := ⟨rfl, rfl, rfl, by decide +kernel, rfl, by decide +kernel, by decide +kernel⟩
theorem FunC.okX {P : Program} {w : World} {K : PySem.W.Frag} {mg : Str → Option Value} {base : Heap} {x qual : Str} {st : Stmt} {f c : Addr} {fd : FuncData} {N ps : List Str} {k : Nat} {sp : Sp} (F : FunC K x qual st f fd c) (S : FnScope N ps (defScope st)) (len : ∀ vs H Q E, sp vs H Q E → vs.length = ps.length)
    (hbody : ∀ (A : Around) (outer : List Env) (s : Shared) (H : Hp) (vs : List V) (Q : VK) (E : XK), Room k (A.deeper (envOfC qual (defScope st) s.heap.objs.size f (.ref c))) → sp vs H Q E →
      ∃ t, PSs (cxOf (L2.CX P w) P w K mg base N qual (defScope st) f (.ref c) A outer s H E) (defBody st) t ∧ t { nx := fun _ H' => Q .non H', rt := Q } (start N vs) H) : FnOk P w K mg base (L2.CX P w) (k + 1) f fd ps sp := by
  obtain ⟨oc, od, kV, doc, pm, an, ct, osl, rfl, lk, hcd⟩ := F.ex
  exact fn_of lk hcd S len fun A outer s H vs Q E hr hsp => hbody A outer s H vs Q E hr hsp
theorem nd3w : (["at", "thing", "window"] : List Str).Nodup := by decide +kernel
theorem nd3a : (["at", "thing", "around"] : List Str).Nodup := by decide +kernel
theorem ixT_gx {X : Cx} {A : Around} {N : List Str} {s : Shared} {H : Hp} {cenv : Env} {fp : List Addr} {pn : List (Addr × Obj)} : IxR (gx X A N s H cenv fp pn) (rIxT X.K) := ix_tup
theorem ixL_gx {X : Cx} {A : Around} {N : List Str} {s : Shared} {H : Hp} {cenv : Env} {fp : List Addr} {pn : List (Addr × Obj)} : IxR (gx X A N s H cenv fp pn) (rIxL X.K) := ix_list
theorem turn_rngV {α : Type} {n : Nat} {ζ : L2.St} {g : TG} {tt : TT} {te : TE} {Out : α → V → Hp → (α → Hp → Prop) → Prop} {Fin : α → Hp → Prop} (Pv : α → Nat → Hp → Prop)
    (step : ∀ a i H, i < n → Pv a i H → g (.int (0 + (i : Int))) ζ H fun σ2 H2 => GV.Keeps ζ σ2 ∧ tt σ2 H2 fun b H3 => if b = true then te σ2 H3 fun y H4 => Out a y H4 (fun a' H' => Pv a' (i + 1) H') else Pv a (i + 1) H3)
    (done : ∀ a H, Pv a n H → Fin a H) : GV.TurnV (Itr 0 n) ζ g tt te Out Fin (fun a i m H => m = n - i ∧ i ≤ n ∧ Pv a i H) := by
  rintro a i m H ⟨rfl, hi, p⟩
  by_cases hlt : i < n
  · refine .inr ⟨hlt, fun a' H' => Pv a' (i + 1) H', fun a' H' p' => ⟨n - (i + 1), by omega, rfl, hlt, p'⟩, fun x H' y => ?_⟩
    obtain ⟨rfl, rfl⟩ : H' = H ∧ x = .int (0 + (i : Int)) := y
    exact step a i _ hlt p
  · have e : i = n := by omega
    subst e
    exact .inl ⟨Nat.le_refl _, done a H p⟩
def stepD (z : StepT) : PyData := .tuple [.int z.1, .int z.2]
theorem rp_steps {H : Hp} : ∀ {ws : List V} {Z : List StepT}, StAt H ws Z → RpAll H ws (Z.map stepD)
  | [], [], _ => .nil
  | w :: ws, z :: Z, h => by
    obtain ⟨b, hb, ht⟩ := h.at_ 0 z rfl
    cases hb
    exact .cons (.tup ht (.cons (.int _) (.cons (.int _) .nil))) (rp_steps ⟨by have := h.len; simpa using this, fun i s hs => h.at_ (i + 1) s hs⟩)
  | [], z :: Z, h => absurd h.len (by simp)
  | w :: ws, [], h => absurd h.len (by simp)
theorem StAt.ex {H H' : Hp} {ws : List V} {Z : List StepT} (h : StAt H ws Z) (e : Ex H H') : StAt H' ws Z := ⟨h.len, fun i s hs => by
  obtain ⟨b, h1, h2⟩ := h.at_ i s hs
  exact ⟨b, h1, e.tup h2⟩⟩
end CL
set_option Elab.async false
set_option linter.all false
set_option pp.maxSteps 900
set_option maxRecDepth 100000
set_option maxHeartbeats 4000000
namespace CL
open PySem PySem.Spec PyProof.Rows L2 GE
/-! ### is_around of anything (for k18; put in the place of Tb's ok_same, ok_isAr) -/
def intIs (d : PyData) (n : Int) : Bool := match d with
  | .int i => decide (i = n)
  | _ => false
/-- whether anything is that window -/
def sameW (d : PyData) (z : StepT) : Bool := match rowsD d with
  | some [a, b] => intIs a z.1 && intIs b z.2
  | _ => false
/-- whether anything is the list of these windows -/
def sameWs : List PyData → List StepT → Bool
  | [], [] => true
  | d :: ds, z :: S => sameW d z && sameWs ds S
  | _, _ => false
def arD (d : PyData) (S : List StepT) : Bool := match rowsD d with
  | some ds => sameWs ds S
  | none => false
theorem rix {K : PySem.W.Frag} {H : Hp} {b : Addr} {xs : List V} {i : Int} {v : V} {Q : VK} (st : StSeq H b xs) (h : atI xs i = some v) (q : Q v H) : rIx K (.ref b) (.int i) H Q := by
  rcases st.or with h1 | h1
  · exact .inl ⟨b, _, i, v, rfl, rfl, SqL.of h1, h, q⟩
  · exact .inr (.inl ⟨b, _, i, v, rfl, rfl, SqT.of h1, h, q⟩)
theorem ixS_gx {X : Cx} {A : Around} {N : List Str} {s : Shared} {H : Hp} {cenv : Env} {fp : List Addr} {pn : List (Addr × Obj)} : IxR (gx X A N s H cenv fp pn) (rIx X.K) := ix_seq
def spSameD (P3 : Addr) : Sp := fun vs H Q _ => ∃ (v : V) (c : Addr) (d : PyData) (z : StepT), vs = [v, .ref c] ∧ Rp H v d ∧ H c = some (.tup [.int z.1, .int z.2]) ∧ GxR.TabG H P3 ∧ ∀ H', Ex H H' → Q (.bl (sameW d z)) H'
theorem sameW_len {d : PyData} {ds : List PyData} {z : StepT} (h : rowsD d = some ds) (n : ds.length ≠ 2) : sameW d z = false := by
  unfold sameW
  rw [h]
  match ds, n with
  | [], _ => rfl
  | [_], _ => rfl
  | [_, _], n => exact absurd rfl n
  | _ :: _ :: _ :: _, _ => rfl
section
variable {P : Program} {w : World} {K : PySem.W.Frag} {mg : Str → Option Value} {base : Heap}
theorem ok_sameD {f c P3 : Addr} {fd : FuncData} (F : FunC K "is_same_window" "is_same_window" sSaW f fd c) (T : Nm mg) (hrange : mg "range" = none) (TB : GxR.TabB base mg c P3) (CR : Cal P w K mg base 1 "is_row" ["thing"] (spOne isRow)) (CW : Cal P w K mg base 1 "is_whole" ["thing"] (spOne isWhole)) : FnOk P w K mg base CX0 4 f fd ["thing", "window"] (spSameD P3) := by
  refine F.ok scSaW (fun vs H Q E ⟨_, _, _, _, e, _⟩ => by rw [e]; rfl) (fun A outer s H vs Q E hr h => ?_)
  obtain ⟨v, c, d, z, rfl, hR, hc, hT, q⟩ := h
  have nd := scSaW.nd
  refine ⟨_, (pss_cons (ps_if (PW.pt (pw_or (pt_not (pt_val (pe_cal (CR.mono (by decide)) hr (by rfl) (pa_cons (pv 0) pa_nil)))) (pw_or1 (pt_cmpR op_ne (pe_callB call_len_seq (by rfl) T.len PySem.boot_len (pa_cons (pv 0) pa_nil)) (pe_callB call_len_seq (by rfl) T.len PySem.boot_len (pa_cons (pv 1) pa_nil)) (nomark _))))) (pss_one (ps_ret pe_bl)) pss_nil)
    (pss_one (ps_ret (GV.pe_allV (caps := [none, some 0, some 1]) (N := ["at", "thing", "window"]) hr (by rfl) T.all TB rfl (by exact ⟨rfl, rfl, by decide +kernel, rfl, by
        intro y hy e
        simp only [List.mem_cons, List.not_mem_nil, or_false] at hy
        rcases hy with rfl | rfl | rfl | rfl | rfl <;> first
          | exact absurd e (by decide)
          | exact ⟨_, rfl⟩⟩) (by exact ⟨rfl, fun i k h => match i, h with
          | 0, h => by cases h
          | 1, h => by cases h; exact ⟨"thing", _, rfl, rfl, rfl, .inl rfl, rfl, rfl⟩
          | 2, h => by cases h; exact ⟨"window", _, rfl, rfl, rfl, .inl rfl, rfl, rfl⟩
          | n + 3, h => by cases h⟩) (pi_range1 (by rfl) hrange (pa_cons (pe_callB call_len_seq (by rfl) T.len PySem.boot_len (pa_cons (pv 1) pa_nil)) pa_nil))
      (fun A s H C code fp pn rY => pg_name (i := 0) nd3w rfl (.inl rfl) (.inr rfl)) (fun A s H C code fp pn rY => pts_nil)
      (fun A s H C code fp pn rY => pe_and (pe_cal (CW.mono (by decide)) rY (by rfl) (pa_cons (pe_ix ixS_gx (pv 1) (pv 0) (fun _ _ => rfl)) pa_nil)) (pe_one (pe_cmpR op_eq (pe_ix ixS_gx (pv 1) (pv 0) (fun _ _ => rfl)) (pe_ix ixT_gx (pv 2) (pv 0) (fun _ _ => rfl)) (nomark _)))))))), ?_⟩
  refine ⟨v, rfl, v, d, rfl, hR, fun H1 s1 => ⟨isRow d, rfl, ?_⟩⟩
  have tT := tabG_same s1 hT
  have hc1 := s1 _ _ hc
  have hR1 := Rp.sm s1 hR
  cases hds : rowsD d with
  | none =>
    have e0 : isRow d = false := by unfold isRow; rw [hds]; rfl
    rw [e0]
    refine iteT (iteT ?_)
    have r := q H1 (Ex.of s1)
    rw [show sameW d z = false by unfold sameW; rw [hds]] at r
    exact r
  | some ds =>
    have e0 : isRow d = true := by unfold isRow; rw [hds]; rfl
    rw [e0]
    obtain ⟨b, xs, rfl, hA, hso⟩ := hR1.rows hds
    have hst : StSeq H1 b xs := ⟨hso⟩
    have hlen := hA.length
    refine iteF ⟨.ref b, rfl, b, xs, rfl, hst.sq, .ref c, rfl, c, _, rfl, .inr (SqT.of hc1), rfl, _, rfl, ite2 (fun e5 => ?_) (fun e5 => ?_)⟩
    · have r := q H1 (Ex.of s1)
      rw [sameW_len hds fun n => by
        rw [hlen, n] at e5
        simp at e5] at r
      exact r
    have l2 : ds.length = 2 := Classical.byContradiction fun n => e5 (by
      rw [hlen]
      simp only [Bool.not_eq_true', decide_eq_false_iff_not, V.int.injEq]
      show ¬ (ds.length : Int) = 2
      omega)
    clear e5
    obtain ⟨d0, d1, rfl⟩ : ∃ d0 d1, ds = [d0, d1] := by
      match ds, l2 with
      | [a, b], _ => exact ⟨a, b, rfl⟩
    have hsw : sameW d z = (intIs d0 z.1 && intIs d1 z.2) := by unfold sameW; rw [hds]
    cases hA with
    | @cons x0 _ _ _ hr0 hA1 =>
    cases hA1 with
    | @cons x1 _ _ _ hr1 hA2 =>
    cases hA2
    refine ⟨.ref c, rfl, c, _, rfl, .inr (SqT.of hc1), 2, rfl, by decide, by decide, tT, fun H2 tb => ⟨_, ⟨2, rfl, Nat.zero_le _, ex_tabbed tT tb, .inl rfl⟩, turn_rngV (n := 2) (fun _ i H => Ex H1 H ∧ (i = 0 ∨ i = 1 ∧ intIs d0 z.1 = true ∨ i = 2 ∧ intIs d0 z.1 = true ∧ intIs d1 z.2 = true)) (fun _ i H hi hP => ?_) (fun _ H hP => ?_)⟩⟩
    · obtain ⟨eH, hP⟩ := hP
      have hst2 := hst.ex eH
      have hc2 := eH.tup hc1
      have bad : ∀ {G : Hp}, Ex H1 G → (intIs d0 z.1 && intIs d1 z.2) = false → Q (.bl false) G := fun {G} eG hne => by
        have r := q G ((Ex.of s1).trans eG)
        rw [hsw, hne] at r
        exact r
      refine ⟨fun j v hj => ?_, ?_⟩
      · match j with
        | 0 => cases hj
        | 1 => exact hj
        | 2 => exact hj
        | j + 3 => exact hj
      refine yesT ?_
      have one : ∀ {x : V} {dx : PyData} {n : Int} {k : Nat} {σ : L2.St} {te : TE}, True := fun {x dx n k σ te} => trivial
      rcases hP with rfl | ⟨rfl, hx⟩ | ⟨rfl, hx, hy⟩
      · refine ⟨.ref b, rfl, .int 0, rfl, rix hst2 (v := x0) rfl ?_⟩
        refine ⟨x0, d0, rfl, Rp.ex eH _ _ hr0, fun H6 s6 => ⟨isWhole d0, rfl, ?_⟩⟩
        have e6 := eH.trans (Ex.of s6)
        have hst6 := hst2.ex (Ex.of s6)
        cases d0 with
        | int i0 =>
          cases hr0
          refine iteT ?_
          refine ⟨.ref b, rfl, .int 0, rfl, rix hst6 (v := .int i0) rfl ?_⟩
          refine ⟨.ref c, rfl, .int 0, rfl, c, _, 0, .int z.1, rfl, rfl, SqT.of (s6 _ _ hc2), rfl, rfl, ?_⟩
          refine ⟨decide (V.int i0 = V.int z.1), rfl, ?_⟩
          by_cases hh : i0 = z.1
          · rw [show decide (V.int i0 = V.int z.1) = true by simp [hh]]
            exact iteT ⟨e6, .inr (.inl ⟨rfl, decide_eq_true hh⟩)⟩
          · rw [show decide (V.int i0 = V.int z.1) = false by simp [hh]]
            refine iteF (bad e6 ?_)
            rw [show intIs (.int i0) z.1 = false from decide_eq_false hh, Bool.false_and]
        | _ => exact iteF ⟨false, rfl, iteF (bad e6 rfl)⟩
      · refine ⟨.ref b, rfl, .int 1, rfl, rix hst2 (v := x1) rfl ?_⟩
        refine ⟨x1, d1, rfl, Rp.ex eH _ _ hr1, fun H6 s6 => ⟨isWhole d1, rfl, ?_⟩⟩
        have e6 := eH.trans (Ex.of s6)
        have hst6 := hst2.ex (Ex.of s6)
        cases d1 with
        | int i1 =>
          cases hr1
          refine iteT ?_
          refine ⟨.ref b, rfl, .int 1, rfl, rix hst6 (v := .int i1) rfl ?_⟩
          refine ⟨.ref c, rfl, .int 1, rfl, c, _, 1, .int z.2, rfl, rfl, SqT.of (s6 _ _ hc2), rfl, rfl, ?_⟩
          refine ⟨decide (V.int i1 = V.int z.2), rfl, ?_⟩
          by_cases hh : i1 = z.2
          · rw [show decide (V.int i1 = V.int z.2) = true by simp [hh]]
            exact iteT ⟨e6, .inr (.inr ⟨rfl, hx, decide_eq_true hh⟩)⟩
          · rw [show decide (V.int i1 = V.int z.2) = false by simp [hh]]
            refine iteF (bad e6 ?_)
            rw [show intIs (.int i1) z.2 = false from decide_eq_false hh, Bool.and_false]
        | _ => exact iteF ⟨false, rfl, iteF (bad e6 (by rw [Bool.and_eq_false_iff]; exact .inr rfl))⟩
      · omega
    · obtain ⟨eH, hP⟩ := hP
      have r := q H ((Ex.of s1).trans eH)
      rcases hP with h | ⟨h, _⟩ | ⟨_, hx, hy⟩
      · omega
      · omega
      · rw [hsw, hx, hy] at r
        exact r
end
end CL
set_option Elab.async false
set_option linter.all false
set_option pp.maxSteps 900
set_option maxRecDepth 100000
set_option maxHeartbeats 4000000
namespace CL
open PySem PySem.Spec PyProof.Rows L2 GE
theorem sameWs_snoc : ∀ {ds : List PyData} {S : List StepT} {d : PyData} {z : StepT}, ds.length = S.length → sameWs (ds ++ [d]) (S ++ [z]) = (sameWs ds S && sameW d z)
  | [], [], d, z, _ => by
    show (sameW d z && true) = (true && sameW d z)
    rw [Bool.and_true, Bool.true_and]
  | a :: ds, y :: S, d, z, h => by
    show (sameW a y && sameWs (ds ++ [d]) (S ++ [z])) = ((sameW a y && sameWs ds S) && sameW d z)
    rw [sameWs_snoc (by simpa using h), Bool.and_assoc]
  | [], _ :: _, _, _, h => absurd h (by simp)
  | _ :: _, [], _, _, h => absurd h (by simp)
theorem sameWs_get : ∀ {ds : List PyData} {S : List StepT}, sameWs ds S = true → ∀ {i : Nat} {d : PyData} {z : StepT}, ds[i]? = some d → S[i]? = some z → sameW d z = true
  | [], [], _, i, d, z, h, _ => by cases h
  | a :: ds, y :: S, h, i, d, z, h1, h2 => by
    have h : (sameW a y && sameWs ds S) = true := h
    rw [Bool.and_eq_true] at h
    cases i with
    | zero => cases h1; cases h2; exact h.1
    | succ i => exact sameWs_get h.2 (i := i) h1 h2
  | [], _ :: _, h, _, _, _, _, _ => by cases h
  | _ :: _, [], h, _, _, _, _, _ => by cases h
theorem sameWs_len : ∀ {ds : List PyData} {S : List StepT}, sameWs ds S = true → ds.length = S.length
  | [], [], _ => rfl
  | a :: ds, y :: S, h => by
    have h : (sameW a y && sameWs ds S) = true := h
    rw [Bool.and_eq_true] at h
    rw [List.length_cons, List.length_cons, sameWs_len h.2]
  | [], _ :: _, h => by cases h
  | _ :: _, [], h => by cases h
def spIsArD (P1 P2 P3 P4 C C2 : Addr) : Sp := fun vs H Q E => ∃ v u y d c dt, vs = [v, u, y] ∧ Rp H v d ∧ Rp H u c ∧ Rp H y dt ∧ Near c ∧ Tb P1 P2 H ∧ GxR.TabG H P3 ∧ GxR.TabG H P4 ∧ (isPlan d = false → ∀ H', Ex H H' → Tb P1 P2 H' → E (.ref C) none H') ∧
  (isPlan d = true → ∃ ps pc, piecesOf d = ps ++ [pc] ∧ (personOk pc.2.1 c = false → ∀ H', Ex H H' → Tb P1 P2 H' → E (.ref C2) none H') ∧ (personOk pc.2.1 c = true → ∀ n S H', c = .int n → Road (ps ++ [pc]) (pc.2.1.map (· - 1)) 0 n S → Ex H H' → Q (.bl (arD dt S)) H'))
section
variable {P : Program} {w : World} {K : PySem.W.Frag} {mg : Str → Option Value} {base : Heap}
theorem ok_isArD {f c P1 P2 P3 P4 C C2 : Addr} {fd : FuncData} (F : FunC K "is_around" "is_around" sIsAr f fd c) (T : Nm mg) (hrange : mg "range" = none) (TB : GxR.TabB base mg c P4) (CR : Cal P w K mg base 1 "is_row" ["thing"] (spOne isRow)) (CS : Cal P w K mg base 4 "is_same_window" ["thing", "window"] (spSameD P3)) (CW : CalX P w K mg base 10 "windows_around" ["plan", "person"] (spWinAr P1 P2 C C2)) :
    FnOk P w K mg base (L2.CX P w) 11 f fd ["plan", "person", "thing"] (spIsArD P1 P2 P3 P4 C C2) := by
  refine F.okX scIsAr (fun vs H Q E ⟨_, _, _, _, _, _, e, _⟩ => by rw [e]; rfl) (fun A outer s H vs Q E hr h => ?_)
  obtain ⟨v, u, y, d, c, dt, rfl, hR, hU, hY, hn, hT, hT3, hT4, qE0, q⟩ := h
  have nd := scIsAr.nd
  refine ⟨_, (pss_cons (ps_set (i := 3) nd rfl (.inr rfl) (pe_calX CW hr (by rfl) (passes_call (takes_of rfl rfl rfl rfl) fun _ _ _ _ h => h) (pa_cons (pv 0) (pa_cons (pv 1) pa_nil))))
    (pss_cons (ps_if (PW.pt (pw_or (pt_not (pt_val (pe_cal (CR.mono (by decide)) hr (by rfl) (pa_cons (pv 2) pa_nil)))) (pw_or1 (pt_cmpR op_ne (pe_callB call_len_seq (by rfl) T.len PySem.boot_len (pa_cons (pv 2) pa_nil)) (pe_callB call_len_seq (by rfl) T.len PySem.boot_len (pa_cons (pv 3) pa_nil)) (nomark _))))) (pss_one (ps_ret pe_bl)) pss_nil)
    (pss_one (ps_ret (GV.pe_allV (caps := [none, some 2, some 3]) (N := ["at", "thing", "around"]) hr (by rfl) T.all TB rfl (by exact ⟨rfl, rfl, by decide +kernel, rfl, by
        intro y hy e
        simp only [List.mem_cons, List.not_mem_nil, or_false] at hy
        rcases hy with rfl | rfl | rfl | rfl | rfl <;> first
          | exact absurd e (by decide)
          | exact ⟨_, rfl⟩⟩) (by exact ⟨rfl, fun i k h => match i, h with
          | 0, h => by cases h
          | 1, h => by cases h; exact ⟨"thing", _, rfl, rfl, rfl, .inl rfl, rfl, rfl⟩
          | 2, h => by cases h; exact ⟨"around", _, rfl, rfl, rfl, .inl rfl, rfl, rfl⟩
          | n + 3, h => by cases h⟩) (pi_range1 (by rfl) hrange (pa_cons (pe_callB call_len_seq (by rfl) T.len PySem.boot_len (pa_cons (pv 3) pa_nil)) pa_nil))
      (fun A s H C code fp pn rY => pg_name (i := 0) nd3a rfl (.inl rfl) (.inr rfl)) (fun A s H C code fp pn rY => pts_nil)
      (fun A s H C code fp pn rY => pe_cal (CS.mono (by decide)) rY (by rfl) (pa_cons (pe_ix ixS_gx (pv 1) (pv 0) (fun _ _ => rfl)) (pa_cons (pe_ix ixL_gx (pv 2) (pv 0) (fun _ _ => rfl)) pa_nil)))))))), ?_⟩
  refine ⟨v, rfl, u, rfl, v, u, d, c, rfl, hR, hU, hn, hT, qE0, fun z0 => ?_⟩
  obtain ⟨ps, pc, hps, qE, q⟩ := q z0
  refine ⟨ps, pc, hps, qE, fun z n D2 us S H1 en e1 t1 eD2 hS hl64 hRd => ?_⟩
  have q := fun H' => q z n S H' en hRd
  have hY1 := Rp.ex e1 _ _ hY
  refine ⟨y, rfl, y, dt, rfl, hY1, fun H2 s2 => ⟨isRow dt, rfl, ?_⟩⟩
  have e2 := e1.trans (Ex.of s2)
  have eU2 := s2 _ _ eD2
  have hS2 := hS.ex (Ex.of s2)
  have hY2 := Rp.sm s2 hY1
  cases hds : rowsD dt with
  | none =>
    have e0 : isRow dt = false := by unfold isRow; rw [hds]; rfl
    rw [e0]
    refine iteT (iteT ?_)
    have r := q H2 e2
    rw [show arD dt S = false by unfold arD; rw [hds]] at r
    exact r
  | some ds =>
    have e0 : isRow dt = true := by unfold isRow; rw [hds]; rfl
    rw [e0]
    have har : arD dt S = sameWs ds S := by unfold arD; rw [hds]
    obtain ⟨b, xs, rfl, hA, hso⟩ := hY2.rows hds
    have hst : StSeq H2 b xs := ⟨hso⟩
    have hlen := hA.length
    have l2 := hS.len
    refine iteF ⟨.ref b, rfl, b, xs, rfl, hst.sq, .ref D2, rfl, D2, us, rfl, .inl (SqL.of eU2), rfl, _, rfl, ite2 (fun c => ?_) (fun c => ?_)⟩
    · have r := q H2 e2
      have hne : sameWs ds S = false := Bool.eq_false_iff.mpr fun z => by
        have := sameWs_len z
        rw [show xs.length = us.length by omega] at c
        simp at c
      rw [har, hne] at r
      exact r
    have hl : xs.length = us.length := Classical.byContradiction fun hne => c (by
      simp only [Bool.not_eq_true', decide_eq_false_iff_not, V.int.injEq]
      omega)
    clear c
    have g2 := tabG_ex hT4 e2
    refine ⟨.ref D2, rfl, D2, us, rfl, .inl (SqL.of eU2), (us.length : Int), rfl, by omega, by omega, g2, fun H3 tb => ⟨_, ⟨us.length, rfl, Nat.zero_le _, ex_tabbed g2 tb, rfl⟩, turn_rngV (n := us.length) (fun _ i H => Ex H2 H ∧ sameWs (ds.take i) (S.take i) = true) (fun _ i H hi hP => ?_) (fun _ H hP => ?_)⟩⟩
    · obtain ⟨eH, hP⟩ := hP
      refine ⟨fun j v hj => ?_, ?_⟩
      · match j with
        | 0 => cases hj
        | 1 => exact hj
        | 2 => exact hj
        | j + 3 => exact hj
      refine yesT ?_
      obtain ⟨xi, hxi⟩ : ∃ xi, xs[i]? = some xi := ⟨_, List.getElem?_eq_getElem (by omega)⟩
      obtain ⟨di, hdi, hRi⟩ := hA.get hxi
      obtain ⟨si, hsi⟩ : ∃ si, S[i]? = some si := ⟨_, List.getElem?_eq_getElem (by omega)⟩
      obtain ⟨c1, hc1, hc2⟩ := hS2.at_ i si hsi
      rw [Int.zero_add]
      refine ⟨.ref b, rfl, .int (i : Int), rfl, rix (hst.ex eH) (atI_nat hxi) ?_⟩
      refine ⟨.ref D2, rfl, .int (i : Int), rfl, D2, us, (i : Int), .ref c1, rfl, rfl, SqL.of (eH.lst eU2), atI_nat hc1, ?_⟩
      refine ⟨xi, c1, di, si, rfl, Rp.ex eH _ _ hRi, eH.tup hc2, tabG_ex (tabG_ex hT3 e2) eH, fun H5 e5 => ⟨_, rfl, ?_⟩⟩
      cases hh : sameW di si with
      | true =>
        refine iteT ⟨eH.trans e5, ?_⟩
        rw [List.take_add_one, List.take_add_one, hdi, hsi]
        show sameWs (ds.take i ++ [di]) (S.take i ++ [si]) = true
        rw [sameWs_snoc (by rw [List.length_take, List.length_take]; omega), hP, hh]
        rfl
      | false =>
        refine iteF ?_
        have r := q H5 ((e2.trans eH).trans e5)
        have hne : sameWs ds S = false := Bool.eq_false_iff.mpr fun z => by rw [sameWs_get z hdi hsi] at hh; cases hh
        rw [har, hne] at r
        exact r
    · obtain ⟨eH, hP⟩ := hP
      rw [List.take_of_length_le (by omega), List.take_of_length_le (by omega)] at hP
      have r := q H (e2.trans eH)
      rw [har, hP] at r
      exact r
end
end CL
set_option Elab.async false
set_option linter.all false
set_option pp.maxSteps 900
set_option maxRecDepth 100000
set_option maxHeartbeats 4000000
namespace CL
open PySem PySem.Spec PyProof.Rows L2 GE
/-! ### repr of lists tells them apart (for k18) -/
/-- what stands behind an item: a comma, or a bracket that closes -/
def Stop (r : List Nat) : Prop := ∃ c t, r = c :: t ∧ (c = 44 ∨ c = 93)
theorem flat_pf : ∀ {t t' r r' : List Nat}, (44 ∉ t ∧ 93 ∉ t) → (44 ∉ t' ∧ 93 ∉ t') → Stop r → Stop r' → t ++ r = t' ++ r' → t = t' ∧ r = r'
  | [], [], r, r', _, _, _, _, e => ⟨rfl, e⟩
  | [], y :: t', r, r', _, h', hr, _, e => by
    obtain ⟨c, u, rfl, hc⟩ := hr
    have e1 : c = y := (List.cons.inj e).1
    rcases hc with h | h
    · exact absurd (by rw [← e1, h]; exact List.mem_cons_self) h'.1
    · exact absurd (by rw [← e1, h]; exact List.mem_cons_self) h'.2
  | x :: t, [], r, r', h, _, _, hr', e => by
    obtain ⟨c, u, rfl, hc⟩ := hr'
    have e1 : x = c := (List.cons.inj e).1
    rcases hc with h2 | h2
    · exact absurd (by rw [e1, h2]; exact List.mem_cons_self) h.1
    · exact absurd (by rw [e1, h2]; exact List.mem_cons_self) h.2
  | x :: t, y :: t', r, r', h, h', hr, hr', e => by
    obtain ⟨e1, e2⟩ := List.cons.inj e
    obtain ⟨i1, i2⟩ := flat_pf (t := t) (t' := t') ⟨fun z => h.1 (List.mem_cons_of_mem _ z), fun z => h.2 (List.mem_cons_of_mem _ z)⟩ ⟨fun z => h'.1 (List.mem_cons_of_mem _ z), fun z => h'.2 (List.mem_cons_of_mem _ z)⟩ hr hr' e2
    rw [e1, i1]
    exact ⟨rfl, i2⟩
theorem box_pf : ∀ {t t' r r' : List Nat}, 93 ∉ t → 93 ∉ t' → t ++ 93 :: r = t' ++ 93 :: r' → t = t' ∧ r = r'
  | [], [], r, r', _, _, e => ⟨rfl, (List.cons.inj e).2⟩
  | [], y :: t', r, r', _, h', e => by
    have e1 : 93 = y := (List.cons.inj e).1
    exact absurd (by rw [← e1]; exact List.mem_cons_self) h'
  | x :: t, [], r, r', h, _, e => by
    have e1 : x = 93 := (List.cons.inj e).1
    exact absurd (by rw [e1]; exact List.mem_cons_self) h
  | x :: t, y :: t', r, r', h, h', e => by
    obtain ⟨e1, e2⟩ := List.cons.inj e
    obtain ⟨i1, i2⟩ := box_pf (fun z => h (List.mem_cons_of_mem _ z)) (fun z => h' (List.mem_cons_of_mem _ z)) e2
    rw [e1, i1]
    exact ⟨rfl, i2⟩
/-- an item's text: a number, a truth, None; or a list of such -/
def Item (t : List Nat) : Prop := (t ≠ [] ∧ 44 ∉ t ∧ 93 ∉ t ∧ 91 ∉ t) ∨ ∃ u, t = 91 :: (u ++ [93]) ∧ 93 ∉ u
theorem Item.ne {t : List Nat} (h : Item t) : t ≠ [] := by
  rcases h with h | ⟨u, rfl, _⟩
  · exact h.1
  · exact List.cons_ne_nil _ _
theorem Item.no93 {t : List Nat} (h : Item t) : ∀ {r}, t ≠ 93 :: r := fun {r} e => by
  rcases h with h | ⟨u, e2, _⟩
  · exact h.2.2.1 (by rw [e]; exact List.mem_cons_self)
  · rw [e2] at e
    cases e
theorem item_pf {t t' r r' : List Nat} (h : Item t) (h' : Item t') (hr : Stop r) (hr' : Stop r') (e : t ++ r = t' ++ r') : t = t' ∧ r = r' := by
  rcases h with ⟨n, a, b, c⟩ | ⟨u, rfl, hu⟩
  · rcases h' with ⟨_, a', b', _⟩ | ⟨u', rfl, _⟩
    · exact flat_pf ⟨a, b⟩ ⟨a', b'⟩ hr hr' e
    · cases t with
      | nil => exact absurd rfl n
      | cons x t =>
        have e1 : x = 91 := (List.cons.inj e).1
        exact absurd (by rw [e1]; exact List.mem_cons_self) c
  · rcases h' with ⟨n', _, _, c'⟩ | ⟨u', rfl, hu'⟩
    · cases t' with
      | nil => exact absurd rfl n'
      | cons x t' =>
        have e1 : 91 = x := (List.cons.inj e).1
        exact absurd (by rw [← e1]; exact List.mem_cons_self) c'
    · have e2 : (u ++ [93]) ++ r = (u' ++ [93]) ++ r' := (List.cons.inj e).2
      rw [List.append_assoc, List.append_assoc] at e2
      obtain ⟨i1, i2⟩ := box_pf hu hu' e2
      rw [i1]
      exact ⟨rfl, i2⟩
/-- items with commas between -/
def jn : List (List Nat) → List Nat
  | [] => []
  | [t] => t
  | t :: u :: ts => t ++ (44 :: 32 :: jn (u :: ts))
theorem jn_stop (u : List Nat) (ts : List (List Nat)) (r : List Nat) : ∃ v, jn (u :: ts) ++ 93 :: r = u ++ v ∧ Stop v := by
  cases ts with
  | nil => exact ⟨93 :: r, rfl, 93, r, rfl, .inr rfl⟩
  | cons w ts => exact ⟨44 :: 32 :: jn (w :: ts) ++ 93 :: r, by show (u ++ (44 :: 32 :: jn (w :: ts))) ++ 93 :: r = _; rw [List.append_assoc], 44, _, rfl, .inl rfl⟩
theorem jn_pf : ∀ {ts us : List (List Nat)} {r r' : List Nat}, (∀ t ∈ ts, Item t) → (∀ t ∈ us, Item t) → jn ts ++ 93 :: r = jn us ++ 93 :: r' → ts = us ∧ r = r'
  | [], [], r, r', _, _, e => ⟨rfl, (List.cons.inj e).2⟩
  | [], u :: us, r, r', _, h', e => by
    obtain ⟨v, e1, _⟩ := jn_stop u us r'
    rw [e1] at e
    have hu := h' u List.mem_cons_self
    cases hc : u with
    | nil => exact absurd hc hu.ne
    | cons x u2 =>
      rw [hc] at e
      have e2 : 93 = x := (List.cons.inj e).1
      exact absurd (by rw [hc, ← e2]) (hu.no93 (r := u2))
  | t :: ts, [], r, r', h, _, e => by
    obtain ⟨v, e1, _⟩ := jn_stop t ts r
    rw [e1] at e
    have ht := h t List.mem_cons_self
    cases hc : t with
    | nil => exact absurd hc ht.ne
    | cons x t2 =>
      rw [hc] at e
      have e2 : x = 93 := (List.cons.inj e).1
      exact absurd (by rw [hc, e2]) (ht.no93 (r := t2))
  | [t], [u], r, r', h, h', e => by
    obtain ⟨i1, i2⟩ := item_pf (h t List.mem_cons_self) (h' u List.mem_cons_self) ⟨93, r, rfl, .inr rfl⟩ ⟨93, r', rfl, .inr rfl⟩ e
    rw [i1]
    exact ⟨rfl, (List.cons.inj i2).2⟩
  | [t], u :: u2 :: us, r, r', h, h', e => by
    have e : t ++ 93 :: r = (u ++ (44 :: 32 :: jn (u2 :: us))) ++ 93 :: r' := e
    rw [List.append_assoc] at e
    obtain ⟨_, i2⟩ := item_pf (h t List.mem_cons_self) (h' u List.mem_cons_self) ⟨93, r, rfl, .inr rfl⟩ ⟨44, _, rfl, .inl rfl⟩ e
    exact absurd (List.cons.inj i2).1 (by decide)
  | t :: t2 :: ts, [u], r, r', h, h', e => by
    have e : (t ++ (44 :: 32 :: jn (t2 :: ts))) ++ 93 :: r = u ++ 93 :: r' := e
    rw [List.append_assoc] at e
    obtain ⟨_, i2⟩ := item_pf (h t List.mem_cons_self) (h' u List.mem_cons_self) ⟨44, _, rfl, .inl rfl⟩ ⟨93, r', rfl, .inr rfl⟩ e
    exact absurd (List.cons.inj i2).1 (by decide)
  | t :: t2 :: ts, u :: u2 :: us, r, r', h, h', e => by
    have e : (t ++ (44 :: 32 :: jn (t2 :: ts))) ++ 93 :: r = (u ++ (44 :: 32 :: jn (u2 :: us))) ++ 93 :: r' := e
    rw [List.append_assoc, List.append_assoc] at e
    obtain ⟨i1, i2⟩ := item_pf (h t List.mem_cons_self) (h' u List.mem_cons_self) ⟨44, _, rfl, .inl rfl⟩ ⟨44, _, rfl, .inl rfl⟩ e
    have i3 : jn (t2 :: ts) ++ 93 :: r = jn (u2 :: us) ++ 93 :: r' := (List.cons.inj (List.cons.inj i2).2).2
    obtain ⟨j1, j2⟩ := jn_pf (fun z hz => h z (List.mem_cons_of_mem _ hz)) (fun z hz => h' z (List.mem_cons_of_mem _ hz)) i3
    rw [i1, j1]
    exact ⟨rfl, j2⟩
def txt (d : PyData) : List Nat := d.shown.cps.toList
theorem join_jn : ∀ xs : List PyData, (Str.join ", " (PyData.shownAll xs)).cps.toList = jn (xs.map txt)
  | [] => by
    rw [PyData.shownAll_nil]
    rfl
  | [x] => by
    rw [PyData.shownAll_cons, PyData.shownAll_nil]
    rfl
  | x :: y :: xs => by
    have i := join_jn (y :: xs)
    rw [PyData.shownAll_cons] at i
    rw [PyData.shownAll_cons, PyData.shownAll_cons]
    show (PyData.shown x ++ ", " ++ Str.join ", " (PyData.shown y :: PyData.shownAll xs)).cps.toList = txt x ++ (44 :: 32 :: jn ((y :: xs).map txt))
    rw [cps_toList_append, cps_toList_append, signs_sep, i, List.append_assoc]
    rfl
theorem txt_list (xs : List PyData) : txt (.list xs) = 91 :: (jn (xs.map txt) ++ [93]) := by
  unfold txt
  rw [PyData.shown_list, cps_toList_append, cps_toList_append, signs_lbrack, signs_rbrack, join_jn]
  rfl
/-- lists of items have one text only if their items have -/
theorem list_txt {xs ys : List PyData} (hx : ∀ x ∈ xs, Item (txt x)) (hy : ∀ y ∈ ys, Item (txt y)) (e : (PyData.list xs).shown = (PyData.list ys).shown) : xs.map txt = ys.map txt := by
  have e2 : txt (.list xs) = txt (.list ys) := by unfold txt; rw [e]
  rw [txt_list, txt_list] at e2
  refine (jn_pf (r := []) (r' := []) (fun t ht => ?_) (fun t ht => ?_) (List.cons.inj e2).2).1
  · obtain ⟨x, h1, rfl⟩ := List.mem_map.mp ht
    exact hx x h1
  · obtain ⟨y, h1, rfl⟩ := List.mem_map.mp ht
    exact hy y h1
end CL
set_option Elab.async false
set_option linter.all false
set_option pp.maxSteps 900
set_option maxRecDepth 100000
set_option maxHeartbeats 4000000
namespace CL
open PySem PySem.Spec PyProof.Rows L2 GE
theorem txt_nat (n : Nat) : txt (.int (n : Int)) = TL.numL n := by
  unfold txt
  rw [PyData.shown_int]
  exact TL.tl_num n
theorem nat_txt {m n : Nat} (h : txt (.int (m : Int)) = txt (.int (n : Int))) : m = n := by
  rw [txt_nat, txt_nat] at h
  exact TL.numL_inj h
theorem item_nat (n : Nat) : Item (txt (.int (n : Int))) := by
  rw [txt_nat]
  exact .inl ⟨TL.numL_ne n, TL.numL_free (.inl (by decide)), TL.numL_free (.inr (by decide)), TL.numL_free (.inr (by decide))⟩
theorem item_bool (b : Bool) : Item (txt (.bool b)) := by
  refine .inl ⟨?_, shown_bool_free (.inl (by decide)) b, shown_bool_free (.inr (.inr (.inr rfl))) b, shown_bool_free (.inr (.inr (.inl rfl))) b⟩
  unfold txt
  rw [PyData.shown_bool]
  cases b with
  | true =>
    have e : (Str.ofString "True").cps.toList = [84, 114, 117, 101] := by decide
    show (Str.ofString "True").cps.toList ≠ []
    rw [e]
    exact List.cons_ne_nil _ _
  | false =>
    have e : (Str.ofString "False").cps.toList = [70, 97, 108, 115, 101] := by decide
    show (Str.ofString "False").cps.toList ≠ []
    rw [e]
    exact List.cons_ne_nil _ _
theorem item_none : Item (txt .none) := by
  refine .inl ⟨?_, shown_none_free (.inl (by decide)), shown_none_free (.inr (.inr (.inr rfl))), shown_none_free (.inr (.inr (.inl rfl)))⟩
  unfold txt
  rw [PyData.shown_none]
  have e : (("None" : String) : Str).cps.toList = [78, 111, 110, 101] := by decide
  rw [e]
  exact List.cons_ne_nil _ _
theorem jn_free {k : Nat} (h44 : k ≠ 44) (h32 : k ≠ 32) : ∀ {ts : List (List Nat)}, (∀ t ∈ ts, k ∉ t) → k ∉ jn ts
  | [], _ => fun z => nomatch z
  | [t], h => h t List.mem_cons_self
  | t :: u :: ts, h => fun z => by
    have z : k ∈ t ++ (44 :: 32 :: jn (u :: ts)) := z
    rcases List.mem_append.mp z with z | z
    · exact h t List.mem_cons_self z
    · rcases List.mem_cons.mp z with z | z
      · exact h44 z
      · rcases List.mem_cons.mp z with z | z
        · exact h32 z
        · exact jn_free h44 h32 (fun y hy => h y (List.mem_cons_of_mem _ hy)) z
/-- a list of things whose texts hold no bracket that closes -/
theorem item_list {xs : List PyData} (h : ∀ x ∈ xs, 93 ∉ txt x) : Item (txt (.list xs)) := by
  refine .inr ⟨_, txt_list xs, jn_free (by decide) (by decide) fun t ht => ?_⟩
  obtain ⟨x, h1, rfl⟩ := List.mem_map.mp ht
  exact h x h1
/-- the same items, where two lists of lists have one text -/
theorem rows_txt {xs ys : List PyData} (hx : ∀ x ∈ xs, Item (txt x)) (hy : ∀ y ∈ ys, Item (txt y)) (e : (PyData.list xs).shown = (PyData.list ys).shown) : xs.length = ys.length ∧ ∀ (i : Nat) (a b : PyData), xs[i]? = some a → ys[i]? = some b → txt a = txt b := by
  have h := list_txt hx hy e
  refine ⟨by have := congrArg List.length h; rwa [List.length_map, List.length_map] at this, fun i a b h1 h2 => ?_⟩
  have h3 := congrArg (fun l => l[i]?) h
  have h3 : (xs.map txt)[i]? = (ys.map txt)[i]? := h3
  rw [List.getElem?_map, List.getElem?_map, h1, h2] at h3
  exact Option.some.inj h3
/-- a list of two numbers has its own text -/
theorem pair_txt {a b c d : Nat} (e : txt (.list [.int (a : Int), .int (b : Int)]) = txt (.list [.int (c : Int), .int (d : Int)])) : a = c ∧ b = d := by
  rw [txt_list, txt_list] at e
  have hi : ∀ {m n : Nat}, ∀ t ∈ [PyData.int (m : Int), .int (n : Int)].map txt, Item t := fun {m n} t ht => by
    obtain ⟨x, h1, rfl⟩ := List.mem_map.mp ht
    rcases List.mem_cons.mp h1 with rfl | h1
    · exact item_nat m
    · rw [List.mem_singleton.mp h1]
      exact item_nat n
  have h := (jn_pf (r := []) (r' := []) hi hi (List.cons.inj e).2).1
  obtain ⟨h1, h2⟩ := List.cons.inj h
  exact ⟨nat_txt h1, nat_txt (List.cons.inj h2).1⟩
end CL
set_option Elab.async false
set_option linter.all false
set_option pp.maxSteps 400
set_option maxRecDepth 100000
set_option maxHeartbeats 4000000
namespace CL
open PySem PySem.Spec PyProof.Rows L2 GE
/-! ### who stands where, of those from s on up to the bound -/
inductive At (ps : List PieceT) : Int → Int → Int → Int → Prop
  | spare {bd x : Int} : WP ps (some bd) x 0 → At ps bd x x (bd - x)
  | own {bd x w : Int} : WP ps (some bd) x w → 0 < w → At ps bd x x (w - 1)
  | inn {bd s x w p : Int} : WP ps (some bd) s w → s < x → x < s + w → At ps (s + w - 1) (s + 1) x p → At ps bd s x p
  | skip {bd s x w p : Int} : WP ps (some bd) s w → s + max w 1 ≤ x → At ps bd (s + max w 1) x p → At ps bd s x (w + p)
theorem at_ge {ps : List PieceT} {bd s x p : Int} (h : At ps bd s x p) : s ≤ x := by
  induction h with
  | spare => omega
  | own => omega
  | inn => omega
  | skip => omega
/-- each place is one of as many as there are people -/
theorem at_in {ps : List PieceT} (hp : PsOk ps) {bd s x p : Int} (h : At ps bd s x p) : x ≤ bd → 0 ≤ p ∧ p ≤ bd - s := by
  induction h with
  | spare h => intro hx; omega
  | own h h0 =>
    intro hx
    obtain ⟨q, _, h2, h3⟩ := wp_pos h h0
    have := h3 _ rfl
    omega
  | inn h h1 h2 _ ih =>
    intro hx
    obtain ⟨q, _, h3, h4⟩ := wp_pos h (by omega)
    have := h4 _ rfl
    have := ih (by omega)
    omega
  | skip h h1 _ ih =>
    intro hx
    have := wp_nn hp h
    have := ih hx
    omega
theorem at_uniq {ps : List PieceT} {bd s x p : Int} (h : At ps bd s x p) : ∀ {p'}, At ps bd s x p' → p = p' := by
  induction h with
  | spare h =>
    intro p' h'
    cases h' with
    | spare _ => rfl
    | own k k0 => have := wp_uniq h k; omega
    | inn k k1 => omega
    | skip k k1 => omega
  | own h h0 =>
    intro p' h'
    cases h' with
    | spare k => have := wp_uniq h k; omega
    | own k k0 => rw [wp_uniq h k]
    | inn k k1 => omega
    | skip k k1 => omega
  | inn h h1 h2 _ ih =>
    intro p' h'
    cases h' with
    | spare k => omega
    | own k k0 => omega
    | inn k k1 k2 k3 => have e := wp_uniq h k; subst e; exact ih k3
    | skip k k1 => have e := wp_uniq h k; subst e; omega
  | skip h h1 _ ih =>
    intro p' h'
    cases h' with
    | spare k => omega
    | own k k0 => omega
    | inn k k1 k2 => have e := wp_uniq h k; subst e; omega
    | skip k k1 k2 => have e := wp_uniq h k; subst e; rw [ih k2]
/-- nobody shares a place -/
theorem at_one {ps : List PieceT} (hp : PsOk ps) {bd s x p : Int} (h : At ps bd s x p) : ∀ {x' p' : Int}, x ≤ bd → x' ≤ bd → p = p' → At ps bd s x' p' → x = x' := by
  induction h with
  | spare h =>
    intro x' p' hx hx' e h'
    cases h' with
    | spare _ => rfl
    | own k k0 => rfl
    | inn k k1 k2 => have := wp_uniq h k; omega
    | skip k k1 k2 =>
      have := wp_uniq h k
      have := at_in hp k2 hx'
      omega
  | own h h0 =>
    intro x' p' hx hx' e h'
    cases h' with
    | spare k => rfl
    | own k k0 => rfl
    | inn k k1 k2 k3 =>
      have := wp_uniq h k
      have := at_in hp k3 (by omega)
      omega
    | skip k k1 k2 =>
      have := wp_uniq h k
      have := at_in hp k2 hx'
      omega
  | inn h h1 h2 h3 ih =>
    intro x' p' hx hx' e h'
    have hr := at_in hp h3 (by omega)
    cases h' with
    | spare k => have := wp_uniq h k; omega
    | own k k0 => have := wp_uniq h k; omega
    | inn k k1 k2 k3 => have e2 := wp_uniq h k; subst e2; exact ih (by omega) (by omega) e k3
    | skip k k1 k2 =>
      have e2 := wp_uniq h k
      subst e2
      have := at_in hp k2 hx'
      omega
  | skip h h1 h3 ih =>
    intro x' p' hx hx' e h'
    have hr := at_in hp h3 hx
    cases h' with
    | spare k => have := wp_uniq h k; omega
    | own k k0 => have := wp_uniq h k; omega
    | inn k k1 k2 k3 =>
      have e2 := wp_uniq h k
      subst e2
      have := at_in hp k3 (by omega)
      omega
    | skip k k1 k2 => have e2 := wp_uniq h k; subst e2; exact ih hx hx' (by omega) k2
theorem cnt_rch {ps : List PieceT} {b : Option Int} {s e n : Int} (h : Cnt ps b s e n) : Rch ps b s e := by
  induction h with
  | here => exact .here _
  | on h1 _ ih => exact .on h1 ih
theorem rch_cnt {ps : List PieceT} {b : Option Int} {s e : Int} (h : Rch ps b s e) : ∃ n, Cnt ps b s e n := by
  induction h with
  | here => exact ⟨0, .here _⟩
  | on h1 _ ih =>
    obtain ⟨n, hn⟩ := ih
    exact ⟨_, .on h1 hn⟩
/-- behind those ahead on the level -/
theorem at_of {ps : List PieceT} (hp : PsOk ps) {bd s e n : Int} {b : Option Int} (h : Cnt ps b s e n) : b = some bd → ∀ {x p : Int}, At ps bd e x p → At ps bd s x (e - s - n + p) := by
  induction h with
  | here => intro hb x p h'; rw [show ∀ y : Int, y - y - 0 + p = p by intro y; omega]; exact h'
  | @on s e w n h1 h2 ih =>
    intro hb x p h'
    subst hb
    have w0 := wp_nn hp h1
    have h3 := ih rfl h'
    have h4 := At.skip h1 (at_ge h3) h3
    have e2 : w + (e - (s + max w 1) - n + p) = e - s - ((if w = 0 then 1 else 0) + n) + p := by split <;> omega
    rw [e2] at h4
    exact h4
/-- of the people up to the last step of a level -/
theorem cnt_last {ps : List PieceT} {b : Option Int} {s x w c k : Int} (h : Cnt ps b s c k) (hR : Rch ps b s x) (hw : WP ps b x w) (hc : x + max w 1 = c) : ∃ n, Cnt ps b s x n ∧ k = n + (if w = 0 then 1 else 0) := by
  obtain ⟨n, hn⟩ := rch_cnt hR
  refine ⟨n, hn, ?_⟩
  have h1 : Cnt ps b x c ((if w = 0 then 1 else 0) + 0) := .on hw (by rw [hc]; exact .here _)
  have := cnt_uniq h (cnt_trans hn h1)
  omega
end CL
set_option Elab.async false
set_option linter.all false
set_option pp.maxSteps 400
set_option maxRecDepth 100000
set_option maxHeartbeats 4000000
namespace CL
open PySem PySem.Spec PyProof.Rows L2 GE
/-- whether it is a number from 0 on, below m -/
def stOk (m : Int) : PyData → Bool
  | .int n => decide (0 ≤ n) && decide (n < m)
  | _ => false
theorem stOk_int {m : Int} {c : PyData} (h : stOk m c = true) : ∃ n : Int, c = .int n ∧ 0 ≤ n ∧ n < m := by
  cases c with
  | int n =>
    have h : (decide (0 ≤ n) && decide (n < m)) = true := h
    simp only [Bool.and_eq_true, decide_eq_true_eq] at h
    exact ⟨n, rfl, h.1, h.2⟩
  | _ => cases h
def spPlaceOf (P1 P2 C C3 CX : Addr) : Sp := fun vs H Q E => ∃ v u y d c c', vs = [v, u, y] ∧ Rp H v d ∧ Rp H u c ∧ Rp H y c' ∧ Tb P1 P2 H ∧ (isPlan d = false → ∀ H', Ex H H' → Tb P1 P2 H' → E (.ref C) none H') ∧
  (isPlan d = true → ∃ ps pc, piecesOf d = ps ++ [pc] ∧ (momentOk pc.2.1 c = false → ∀ H', Ex H H' → Tb P1 P2 H' → E (.ref C3) none H') ∧ (momentOk pc.2.1 c = true → ∀ m : Int, c = .int m →
    (stOk m c' = false → ∀ H', Ex H H' → Tb P1 P2 H' → E (.ref CX) none H') ∧ (stOk m c' = true → ∀ n x H', c' = .int n → At (ps ++ [pc]) (m - 1) 0 n x → Ex H H' → Tb P1 P2 H' → Q (.int x) H')))
def spPersonAt (P1 P2 C C3 CX : Addr) : Sp := fun vs H Q E => ∃ v u y d c c', vs = [v, u, y] ∧ Rp H v d ∧ Rp H u c ∧ Rp H y c' ∧ Tb P1 P2 H ∧ (isPlan d = false → ∀ H', Ex H H' → Tb P1 P2 H' → E (.ref C) none H') ∧
  (isPlan d = true → ∃ ps pc, piecesOf d = ps ++ [pc] ∧ (momentOk pc.2.1 c = false → ∀ H', Ex H H' → Tb P1 P2 H' → E (.ref C3) none H') ∧ (momentOk pc.2.1 c = true → ∀ m : Int, c = .int m →
    (stOk m c' = false → ∀ H', Ex H H' → Tb P1 P2 H' → E (.ref CX) none H') ∧ (stOk m c' = true → ∀ n x H', c' = .int n → At (ps ++ [pc]) (m - 1) 0 x n → 0 ≤ x → x < m → Ex H H' → Tb P1 P2 H' → Q (.int x) H')))
theorem RunsAt.sm {C D : Addr} {H H' : Hp} {vs : List V} {rs : List RunT} {ws : List V} (h : RunsAt C D H vs rs) (hD : H D = some (.lst ws)) (s : Same H H') : RunsAt C D H' vs rs := h.kd hD fun b o _ e => s b o e
theorem PcsAt.sm' {H H' : Hp} {a : Addr} {ps : List PieceT} (hp : PcsAt H a ps) (s : Same H H') : PcsAt H' a ps := by
  obtain ⟨xs, h1, h2⟩ := hp.ex
  exact ⟨xs, s _ _ h1, RpAll.sm s h2⟩
/-- behind the last step of a level -/
theorem place_next {ps : List PieceT} (hp : PsOk ps) {bd st n x w c ns pl m : Int} (hns : Cnt ps (some bd) st x ns) (hw : WP ps (some bd) x w) (hx : x ≤ n) (hxc : x + max w 1 = c) (hc : n < c) (hA : ∀ p, At ps bd st n p → At ps (m - 1) 0 n (pl + p)) :
    (w = 0 → At ps (m - 1) 0 n (pl + bd - st - ns)) ∧ (0 < w → ((x + 1 ≤ n ∧ ∀ p, At ps (x + w - 1) (x + 1) n p → At ps (m - 1) 0 n (pl + (x - st - ns) + p)) ∨ (n < x + 1 ∧ At ps (m - 1) 0 n (pl + (x - st - ns) + (x + w - 1) - n)))) := by
  refine ⟨fun h0 => ?_, fun h0 => ?_⟩
  · subst h0
    obtain rfl : x = n := by omega
    have h1 := hA _ (at_of hp hns rfl (.spare hw))
    rw [show pl + bd - st - ns = pl + (x - st - ns + (bd - x)) by omega]
    exact h1
  · by_cases cx : x + 1 ≤ n
    · refine .inl ⟨cx, fun p h => ?_⟩
      have h1 := hA _ (at_of hp hns rfl (.inn hw (by omega) (by omega) h))
      rw [show pl + (x - st - ns) + p = pl + (x - st - ns + p) by omega]
      exact h1
    · obtain rfl : x = n := by omega
      refine .inr ⟨by omega, ?_⟩
      have h1 := hA _ (at_of hp hns rfl (.own hw h0))
      rw [show pl + (x - st - ns) + (x + w - 1) - x = pl + (x - st - ns + (w - 1)) by omega]
      exact h1
section
variable {P : Program} {w : World} {K : PySem.W.Frag} {mg : Str → Option Value} {base : Heap}
end
end CL
set_option Elab.async false
set_option linter.all false
set_option pp.maxSteps 400
set_option maxRecDepth 100000
set_option maxHeartbeats 4000000
namespace CL
open PySem PySem.Spec PyProof.Rows L2 GE
abbrev nSpareAt : List Str := ["runs", "number", "at", "gone", "spare", "person", "width"]
abbrev nWinAt : List Str := ["runs", "place", "at", "gone", "step", "opener"]
def wnT (rs : List RunT) : Int := (rs.map fun r => (r.times : Int) * (lenR r.steps - (spareR r.steps : Nat))).sum
theorem wnT_cons (r : RunT) (rs : List RunT) : wnT (r :: rs) = (r.times : Int) * (lenR r.steps - (spareR r.steps : Nat)) + wnT rs := by unfold wnT; rw [List.map_cons, List.sum_cons]
/-- how many there are on a level, all together -/
theorem lvl_sum {ps : List PieceT} {b : Option Int} {stop : Int} : ∀ {rs : List RunT} {a c : Int}, Lvl ps b stop a rs c → spT rs + wnT rs = c - a
  | [], a, c, h => by
    obtain rfl : a = c := h
    show (0 : Int) + 0 = a - a
    omega
  | r :: rs, a, c, h => by
    have ih := lvl_sum h.2
    rw [spT_cons, wnT_cons, Int.mul_sub]
    omega
theorem run_step {ps : List PieceT} {b : Option Int} {stop a : Int} {r : RunT} (h : RunOk ps b stop a r) {s : StepT} (hs : s ∈ r.steps) {k : Nat} (hk : k < r.times) : a + k * lenR r.steps ≤ s.1 + k * lenR r.steps ∧ WS ps b stop (s.1 + k * lenR r.steps) s.2 := by
  have := (h.path k hk).le.2 (s.1 + k * lenR r.steps, s.2) (List.mem_map.mpr ⟨s, hs, rfl⟩)
  exact ⟨this.1, this.2.2⟩
theorem run_wid2 {ps : List PieceT} {b : Option Int} {stop a : Int} {r : RunT} (hp : PsOk ps) (h : RunOk ps b stop a r) : ∀ s ∈ r.steps, 0 ≤ s.2 ∧ s.2 ≤ GREAT + 1 := fun s hs => by
  have := wp_le hp (run_step h hs (k := 0) h.times).2.2
  exact ⟨this.1, this.2.1⟩
theorem div_ok {i j : Int} (h0 : 0 ≤ i) (hi : i < 2 ^ 1000) (hj : 0 < j) : CDivP i j := divp_ok hj (by
  have := PyProof.Rows.intBits_le (k := 1000) (a := i) (by omega)
  omega)
theorem filt_at {S : List StepT} {k : Nat} (h : k < spareR S) : ∃ a, ((S.filter fun s => decide (s.2 = 0)).map (·.1)).map V.int = ((S.filter fun s => decide (s.2 = 0)).map (·.1)).map V.int ∧ (((S.filter fun s => decide (s.2 = 0)).map (·.1)).map V.int)[k]? = some (.int a) := by
  unfold spareR at h
  refine ⟨((S.filter fun s => decide (s.2 = 0)).map (·.1))[k]'(by rw [List.length_map]; exact h), rfl, ?_⟩
  rw [List.getElem?_map, List.getElem?_eq_getElem (by rw [List.length_map]; exact h)]
  rfl
theorem widths_sum {S : List StepT} (h : ∀ s ∈ S, 0 ≤ s.2) : (S.map (·.2)).sum = lenR S - (spareR S : Nat) := by
  have := lenR_sum S h
  omega
theorem take_split {α : Type} {xs : List α} {i : Nat} {x : α} (h : xs[i]? = some x) : xs = xs.take i ++ x :: xs.drop (i + 1) := by
  conv => lhs; rw [← List.take_append_drop i xs]
  obtain ⟨hl, e⟩ := List.getElem?_eq_some_iff.mp h
  rw [List.drop_eq_getElem_cons hl, e]
theorem spT_take {rs : List RunT} {i : Nat} {r : RunT} (h : rs[i]? = some r) : spT (rs.take (i + 1)) = spT (rs.take i) + (r.times : Int) * (spareR r.steps : Nat) := by
  rw [List.take_add_one, h]
  unfold spT
  rw [List.map_append, List.sum_append]
  simp
theorem wnT_take {rs : List RunT} {i : Nat} {r : RunT} (h : rs[i]? = some r) : wnT (rs.take (i + 1)) = wnT (rs.take i) + (r.times : Int) * (lenR r.steps - (spareR r.steps : Nat)) := by
  rw [List.take_add_one, h]
  unfold wnT
  rw [List.map_append, List.sum_append]
  simp
theorem lenR_shift (d : Int) : ∀ S : List StepT, lenR (shift d S) = lenR S
  | [] => rfl
  | s :: S => by
    have h := lenR_shift d S
    have e3 : shift d (s :: S) = (s.1 + d, s.2) :: shift d S := rfl
    rw [e3, lenR_cons, lenR_cons, h]
/-- a step of a level, with those ahead of it -/
theorem lvl_at {ps : List PieceT} {b : Option Int} {stop start c : Int} {rs : List RunT} {i g : Nat} {r : RunT} {S1 S2 : List StepT} {s : StepT} (h : Lvl ps b stop start rs c) (hi : rs[i]? = some r) (hg : g < r.times) (eS : r.steps = S1 ++ s :: S2) :
    Cnt ps b start (s.1 + (g : Int) * lenR r.steps) (spT (rs.take i) + ((g : Int) * (spareR r.steps : Nat) + (spareR S1 : Nat))) ∧ WS ps b stop (s.1 + (g : Int) * lenR r.steps) s.2 ∧ s.1 + (g : Int) * lenR r.steps - start = wnT (rs.take i) + spT (rs.take i) + (g : Int) * lenR r.steps + lenR S1 := by
  rw [take_split hi] at h
  obtain ⟨m, h1, h2, h3⟩ := lvl_split h
  have hk := h2.path g hg
  have c1 := cnt_lvl h1
  have c2 := cnt_run h2 g (by omega)
  have l1 := lvl_sum h1
  generalize hd : (g : Int) * lenR r.steps = d at hk c2 ⊢
  have es : shift d r.steps = shift d S1 ++ (s.1 + d, s.2) :: shift d S2 := by rw [eS]; unfold shift; rw [List.map_append]; rfl
  rw [es] at hk
  obtain ⟨m2, k1, k2, k3, k4⟩ := hk.split
  have k2' : s.1 + d = m2 := k2
  have k3' : WS ps b stop (s.1 + d) s.2 := k3
  have c3 := cnt_pth k1
  rw [spareR_shift] at c3
  have e3 := k1.end_
  rw [lenR_shift] at e3
  rw [← k2'] at c3
  refine ⟨cnt_trans c1 (cnt_trans c2 c3), k3', by omega⟩
theorem spareR_nil : spareR [] = 0 := rfl
theorem filt_split : ∀ {S : List StepT} {k : Nat}, k < spareR S → ∃ S1 s S2, S = S1 ++ s :: S2 ∧ s.2 = 0 ∧ spareR S1 = k ∧ (((S.filter fun s => decide (s.2 = 0)).map (·.1)).map V.int)[k]? = some (.int s.1)
  | [], k, h => absurd h (by rw [spareR_nil]; omega)
  | t :: S, k, h => by
    have ec := spareR_cons t S
    by_cases c : t.2 = 0
    · rw [if_pos c] at ec
      have ef : ((t :: S).filter fun s => decide (s.2 = 0)) = t :: S.filter fun s => decide (s.2 = 0) := by rw [List.filter_cons, if_pos (by simpa using c)]
      cases k with
      | zero => exact ⟨[], t, S, rfl, c, rfl, by rw [ef]; rfl⟩
      | succ k =>
        obtain ⟨S1, s, S2, e1, e2, e3, e4⟩ := filt_split (S := S) (k := k) (by omega)
        refine ⟨t :: S1, s, S2, by rw [e1]; rfl, e2, ?_, by rw [ef]; exact e4⟩
        have := spareR_cons t S1
        rw [if_pos c] at this
        omega
    · rw [if_neg c] at ec
      have ef : ((t :: S).filter fun s => decide (s.2 = 0)) = S.filter fun s => decide (s.2 = 0) := by rw [List.filter_cons, if_neg (by simpa using c)]
      obtain ⟨S1, s, S2, e1, e2, e3, e4⟩ := filt_split (S := S) (k := k) (by omega)
      refine ⟨t :: S1, s, S2, by rw [e1]; rfl, e2, ?_, by rw [ef]; exact e4⟩
      have := spareR_cons t S1
      rw [if_neg c] at this
      omega
def spSpareAt (C : Addr) : Sp := fun vs H Q _ => ∃ D ws ps b, ∃ start stop c k : Int, ∃ rs, vs = [.ref D, .int k] ∧ H D = some (.lst ws) ∧ RunsAt C D H ws rs ∧ Lvl ps b stop start rs c ∧ PsOk ps ∧ 0 ≤ start ∧ stop < 2 ^ 139 ∧ k < 2 ^ 139 ∧ 0 ≤ k ∧ k < spT rs ∧ ∀ x H', Same H H' → Cnt ps b start x k → WP ps b x 0 → x ≤ stop → Q (.int x) H'
def spWinAt (C : Addr) : Sp := fun vs H Q _ => ∃ D ws ps b, ∃ start stop c k : Int, ∃ rs, vs = [.ref D, .int k] ∧ H D = some (.lst ws) ∧ RunsAt C D H ws rs ∧ Lvl ps b stop start rs c ∧ PsOk ps ∧ 0 ≤ start ∧ stop < 2 ^ 139 ∧ k < 2 ^ 139 ∧ 0 ≤ k ∧ k < wnT rs ∧
  ∀ (op w pl n : Int) p H', Same H H' → H' p = some (.tup [.int op, .int (op + w - 1), .int pl]) → start ≤ op → WS ps b stop op w → 0 < w → 0 ≤ pl → pl < w → Cnt ps b start op n → k = op - start - n + pl → Q (.ref p) H'
theorem drop_at {α : Type} {xs : List α} {i : Nat} {x : α} (h : xs[i]? = some x) : xs.drop i = x :: xs.drop (i + 1) := by
  obtain ⟨hl, e⟩ := List.getElem?_eq_some_iff.mp h
  rw [List.drop_eq_getElem_cons hl, e]
section
variable {P : Program} {w : World} {K : PySem.W.Frag} {mg : Str → Option Value} {base : Heap}
end
end CL
set_option Elab.async false
set_option linter.all false
set_option pp.maxSteps 400
set_option maxRecDepth 100000
set_option maxHeartbeats 4000000
namespace CL
open PySem PySem.Spec PyProof.Rows L2 GE
theorem meas13 {m st op pl bd : Int} {k : Nat} (hk : k = (m - st).toNat) (h1 : st ≤ op) (h2 : st + pl ≤ bd) (h3 : 0 ≤ pl) (h4 : bd ≤ m - 1) : (m - (op + 1)).toNat < k := by omega
theorem person_spare {ps : List PieceT} (hp : PsOk ps) {bd st pl x m n : Int} (hc : Cnt ps (some bd) st x (bd - st - pl)) (hw : WP ps (some bd) x 0) (hx : x ≤ bd) (hA : ∀ x, x ≤ bd → At ps bd st x pl → At ps (m - 1) 0 x n) : At ps (m - 1) 0 x n := by
  refine hA x hx ?_
  have h := at_of hp hc rfl (.spare hw)
  rw [show x - st - (bd - st - pl) + (bd - x) = pl by omega] at h
  exact h
theorem person_next {ps : List PieceT} (hp : PsOk ps) {bd st pl op wd pl' nw m n p1 : Int} (hc : Cnt ps (some bd) st op nw) (hw : WP ps (some bd) op wd) (h0 : 0 < wd) (hp0 : 0 ≤ pl') (hp1 : pl' < wd) (hk : pl = op - st - nw + pl') (hf : op + p1 ≤ bd) (hw1 : wd = p1 + 1) (hb : bd ≤ m - 1) (hs : 0 ≤ st) (ho : st ≤ op) (hA : ∀ x, x ≤ bd → At ps bd st x pl → At ps (m - 1) 0 x n) :
    ((op + 1 + pl' ≤ op + wd - 1 ∧ ∀ x, x ≤ op + wd - 1 → At ps (op + wd - 1) (op + 1) x pl' → At ps (m - 1) 0 x n) ∨ (op + wd - 1 < op + 1 + pl' ∧ At ps (m - 1) 0 (op + 1 - 1) n ∧ 0 ≤ op + 1 - 1 ∧ op + 1 - 1 < m)) := by
  by_cases c : op + 1 + pl' ≤ op + wd - 1
  · refine .inl ⟨c, fun x hx h => hA x (by omega) ?_⟩
    have h2 := at_ge h
    have h1 := at_of hp hc rfl (.inn hw (by omega) (by omega) h)
    rw [← hk] at h1
    exact h1
  · refine .inr ⟨by omega, ?_, by omega, by omega⟩
    rw [show op + 1 - 1 = op by omega]
    have h1 := at_of hp hc rfl (.own hw h0)
    rw [show op - st - nw + (wd - 1) = pl by omega] at h1
    exact hA op (by omega) h1
section
variable {P : Program} {w : World} {K : PySem.W.Frag} {mg : Str → Option Value} {base : Heap}
end
end CL
set_option Elab.async false
set_option linter.all false
set_option maxRecDepth 100000
set_option maxHeartbeats 4000000
namespace CL
open PySem PySem.Spec PyProof.Rows L2 GE
abbrev sSpring : Stmt := topS 33
abbrev sDraw : Stmt := topS 34
theorem scSpring : FnScope ["script", "figures", "stir", "cell"] ["script"] (defScope sSpring) := ⟨rfl, rfl, rfl, by decide +kernel, rfl, by decide +kernel, by decide +kernel⟩
theorem scDraw : FnScope ["spring", "many", "found", "stir"] ["spring", "many"] (defScope sDraw) := ⟨rfl, rfl, rfl, by decide +kernel, rfl, by decide +kernel, by decide +kernel⟩
abbrev MSP : Int := 2305843009213693951
abbrev P60 : Int := 1000000000000000000000000000000000000000000000000000000000000
theorem p60 : (10 : Int) ^ (60 : Int).toNat = P60 := by decide +kernel
theorem t64 : (2 : Int) ^ 64 = 18446744073709551616 := by decide +kernel
/-- the spring: figures, a number stirred, how many draws -/
structure ReelAt (H : Hp) (r : Addr) : Prop where
  ex : ∃ f st n : Int, H r = some (.lst [.int f, .int st, .int n]) ∧ 0 ≤ st ∧ st < MSP
/-- all but the spring stays -/
structure Mv (r : Addr) (H H' : Hp) : Prop where
  keep : ∀ b o, b ≠ r → H b = some o → H' b = some o
theorem Mv.refl (r : Addr) (H : Hp) : Mv r H H := ⟨fun _ _ _ h => h⟩
theorem Mv.of {r : Addr} {H H' : Hp} (s : Same H H') : Mv r H H' := ⟨fun b o _ h => s b o h⟩
theorem Mv.trans {r : Addr} {H H1 H2 : Hp} (a : Mv r H H1) (b : Mv r H1 H2) : Mv r H H2 := ⟨fun c o n h => b.keep c o n (a.keep c o n h)⟩
theorem ReelAt.same {r : Addr} {H H' : Hp} (s : Same H H') (hr : ReelAt H r) : ReelAt H' r := by
  obtain ⟨f, st, n, er, h⟩ := hr
  exact ⟨f, st, n, s _ _ er, h⟩
theorem ReelAt.some {r : Addr} {H : Hp} (hr : ReelAt H r) : H r ≠ none := by
  obtain ⟨f, st, n, er, h⟩ := hr
  rw [er]
  exact nofun
theorem ReelAt.new {r p : Addr} {H : Hp} (hr : ReelAt H r) (np : H p = none) : p ≠ r := fun z => hr.some (by rw [← z]; exact np)
theorem ReelAt.store {r p : Addr} {H : Hp} {o : HO} (hr : ReelAt H r) (f : p ≠ r) : ReelAt (upd H p o) r := by
  obtain ⟨f', st, n, er, h⟩ := hr
  exact ⟨f', st, n, by rw [upd_ne (Ne.symm f)]; exact er, h⟩
theorem ReelAt.kx {r : Addr} {H H' : Hp} (h : ReelAt H r) (e : Ex H H') : ReelAt H' r := by
  obtain ⟨f, st, n, er, h⟩ := h
  exact ⟨f, st, n, e.lst er, h⟩
theorem mem_keep {r b : Addr} {H H' : Hp} (m : Mv r H H') (n : b ≠ r) (h : H b ≠ none) : H' b ≠ none := fun z => by
  cases q : H b with
  | none => exact h q
  | some o =>
    rw [m.keep b o n q] at z
    cases z
def spDraw (r : Addr) : Sp := fun vs H Q _ => ∃ m : Int, vs = [.ref r, .int m] ∧ ReelAt H r ∧ 1 ≤ m ∧ m < 2 ^ 140 ∧ ∀ x H', ReelAt H' r → Mv r H H' → 0 ≤ x → x < m → Q (.int x) H'
def spSpring (K : PySem.W.Frag) : Sp := fun vs H Q _ => ∃ (a : Addr) (ns : List Int), vs = [.ref a] ∧ SqL K H a (ns.map V.int) ∧ ns.length ≤ 63 ∧ ∀ r H', Same H H' → H r = none → ReelAt H' r → Q (.ref r) H'
theorem nat_two60 : (1000000000000000000000000000000000000000000000000000000000000 : Nat) ≤ 2 ^ 200 := by decide +kernel
theorem fig_step {f c : Int} {i : Nat} (h0 : 0 ≤ f) (h : f.natAbs < 2 ^ (200 * i)) : 0 ≤ f * P60 + c % P60 ∧ (f * P60 + c % P60).natAbs < 2 ^ (200 * (i + 1)) := by
  have c0 := Int.emod_nonneg c (show P60 ≠ 0 by decide)
  have c1 := Int.emod_lt_of_pos c (show 0 < P60 by decide)
  obtain ⟨F, rfl⟩ : ∃ F : Nat, f = (F : Int) := ⟨f.toNat, by omega⟩
  obtain ⟨R, hR⟩ : ∃ R : Nat, c % P60 = (R : Int) := ⟨(c % P60).toNat, by omega⟩
  rw [hR] at c1 ⊢
  have hF : F < 2 ^ (200 * i) := h
  have hR2 : R < 1000000000000000000000000000000000000000000000000000000000000 := by
    have : (R : Int) < 1000000000000000000000000000000000000000000000000000000000000 := c1
    omega
  have e : ((F : Int) * P60 + (R : Int)) = ((F * 1000000000000000000000000000000000000000000000000000000000000 + R : Nat) : Int) := by
    rw [Int.natCast_add, Int.natCast_mul]
    rfl
  rw [e]
  refine ⟨Int.natCast_nonneg _, ?_⟩
  rw [Int.natAbs_natCast]
  have e2 : 2 ^ (200 * (i + 1)) = 2 ^ (200 * i) * 2 ^ 200 := by rw [← Nat.pow_add]; rfl
  rw [e2]
  have h1 : (F + 1) * 1000000000000000000000000000000000000000000000000000000000000 ≤ 2 ^ (200 * i) * 2 ^ 200 := Nat.mul_le_mul hF nat_two60
  rw [Nat.succ_mul] at h1
  omega
theorem fig_stay {f : Int} {i : Nat} (h : f.natAbs < 2 ^ (200 * i)) : f.natAbs < 2 ^ (200 * (i + 1)) := Nat.lt_of_lt_of_le h (Nat.pow_le_pow_right (by decide) (by omega))
theorem log_p60 : P60.natAbs < 2 ^ 200 := by decide +kernel
section
variable {P : Program} {w : World} {K : PySem.W.Frag} {mg : Str → Option Value} {base : Heap}
theorem ok_draw {f r : Addr} {fd : FuncData} (F : Fun K "_law_draw" "_law_draw" sDraw f fd) : FnOk P w K mg base CX0 1 f fd ["spring", "many"] (spDraw r) := by
  refine F.ok scDraw (fun vs H Q E ⟨m, e, _⟩ => by rw [e]; rfl) (fun cdv A outer s H vs Q E hr h => ?_)
  obtain ⟨m, rfl, ⟨f, st, n, er, st0, st1⟩, m1, m2, q⟩ := h
  have nd := scDraw.nd
  refine ⟨_, pss_cons (ps_if (pt_cmpR op_gt (pe_ix ix_list (pv 0) pe_int (fun _ _ => rfl)) pe_int (nomark _))
      (pss_cons (ps_set (i := 2) nd rfl (.inl rfl) (pe_op op_mod (pe_ix ix_list (pv 0) pe_int (fun _ _ => rfl)) (pv 1)))
      (pss_cons (ps_asg (pe_op op_fdivW (pe_ix ix_list (pv 0) pe_int (fun _ _ => rfl)) (pv 1)) (pg_sub (pv 0) pe_int set_list))
      (pss_one (ps_ret (pv 2))))) pss_nil)
    (pss_cons (ps_asg (pe_op op_add (pe_ix ix_list (pv 0) pe_int (fun _ _ => rfl)) pe_int) (pg_sub (pv 0) pe_int set_list))
    (pss_cons (ps_set (i := 3) nd rfl (.inl rfl) (pe_op op_mod (pe_op op_mul (pe_ix ix_list (pv 0) pe_int (fun _ _ => rfl)) (pe_ix ix_list (pv 0) pe_int (fun _ _ => rfl))) pe_int))
    (pss_cons (ps_asg (pe_op op_mod (pe_op op_add (pe_op op_add (pv 3) (pe_op op_mul (pe_op op_mul pe_int (pe_ix ix_list (pv 0) pe_int (fun _ _ => rfl))) (pe_ix ix_list (pv 0) pe_int (fun _ _ => rfl)))) pe_int) pe_int) (pg_sub (pv 0) pe_int set_list))
    (pss_one (ps_ret (pe_op op_mod (pe_op op_fdiv (pe_ix ix_list (pv 0) pe_int (fun _ _ => rfl)) pe_int) (pv 1))))))), ?_⟩
  have mdiv : CDivW f m := wide_div (b := 140) (by omega) (by omega) (by decide) (by decide)
  have st1' : st < 2305843009213693951 := st1
  refine ⟨.ref r, rfl, r, _, 0, .int f, rfl, rfl, SqL.of er, atI_nat (j := 0) rfl, f, 0, rfl, rfl, decide (0 < f), rfl, ite2 (fun _ => ?_) (fun _ => ?_)⟩
  · refine ⟨.ref r, rfl, r, _, 0, .int f, rfl, rfl, SqL.of er, atI_nat (j := 0) rfl, .int m, rfl, f, m, rfl, rfl, (by show (0 : Int) < m; omega), ?_⟩
    refine ⟨.ref r, rfl, r, _, 0, .int f, rfl, rfl, SqL.of er, atI_nat (j := 0) rfl, .int m, rfl, f, m, rfl, rfl, mdiv, .ref r, rfl, r, _, 0, 0, rfl, rfl, er, rfl, .int (f % m), rfl, ?_⟩
    exact q _ _ ⟨f / m, st, n, upd_same, st0, st1⟩ ⟨fun b o nb e => by rw [upd_ne nb]; exact e⟩ (Int.emod_nonneg _ (by omega)) (Int.emod_lt_of_pos _ (by omega))
  · refine ⟨.ref r, rfl, r, _, 2, .int n, rfl, rfl, SqL.of er, atI_nat (j := 2) rfl, n, 1, rfl, rfl, .ref r, rfl, r, _, 2, 2, rfl, rfl, er, rfl, ?_⟩
    have m2' : ∀ b o, b ≠ r → H b = some o → upd H r (.lst [.int f, .int st, .int (n + 1)]) b = some o := fun b o nb e => by rw [upd_ne nb]; exact e
    have er2 : (upd H r (.lst [.int f, .int st, .int (n + 1)])) r = some (.lst [.int f, .int st, .int (n + 1)]) := upd_same
    show tSeq _ _ _ _ (upd H r (.lst [.int f, .int st, .int (n + 1)]))
    generalize hH2 : upd H r (.lst [.int f, .int st, .int (n + 1)]) = H2 at m2' er2
    refine ⟨.ref r, rfl, r, _, 1, .int st, rfl, rfl, SqL.of er2, atI_nat (j := 1) rfl, .ref r, rfl, r, _, 1, .int st, rfl, rfl, SqL.of er2, atI_nat (j := 1) rfl, st, st, rfl, rfl, .inl ⟨by rw [t64]; omega, by rw [t64]; omega⟩, _, _, rfl, rfl, (by show (0 : Int) < 2305843009213693951; decide), ?_⟩
    refine ⟨_, rfl, .ref r, rfl, r, _, 2, .int (n + 1), rfl, rfl, SqL.of er2, atI_nat (j := 2) rfl, 7919, n + 1, rfl, rfl, .inl ⟨by decide, by decide⟩, .ref r, rfl, r, _, 1, .int st, rfl, rfl, SqL.of er2, atI_nat (j := 1) rfl, _, st, rfl, rfl, .inr ⟨by rw [t64]; omega, by rw [t64]; omega⟩, _, _, rfl, rfl, _, 104729, rfl, rfl, _, _, rfl, rfl, (by show (0 : Int) < 2305843009213693951; decide), .ref r, rfl, r, _, 1, 1, rfl, rfl, er2, rfl, ?_⟩
    generalize hz : (st * st % 2305843009213693951 + 7919 * (n + 1) * st + 104729) = z2
    have z0 := Int.emod_nonneg z2 (show MSP ≠ 0 by decide)
    have z1 := Int.emod_lt_of_pos z2 (show 0 < MSP by decide)
    generalize hH3 : upd H2 r (HO.lst ([V.int f, V.int st, V.int (n + 1)].set 1 ((fun i j => V.int (i % j)) z2 2305843009213693951))) = H3
    have er3 : H3 r = some (.lst [.int f, .int (z2 % MSP), .int (n + 1)]) := by
      rw [← hH3, upd_same]
      rfl
    have m3 : ∀ b o, b ≠ r → H b = some o → H3 b = some o := fun b o nb e => by
      rw [← hH3, upd_ne nb]
      exact m2' b o nb e
    generalize hz : z2 % MSP = z at z0 z1 er3
    refine ⟨.ref r, rfl, r, _, 1, .int z, rfl, rfl, SqL.of er3, atI_nat (j := 1) rfl, z, 65537, rfl, rfl, ⟨by decide, by decide⟩, .int m, rfl, _, m, rfl, rfl, (by show (0 : Int) < m; omega), ?_⟩
    exact q _ H3 ⟨f, z, n + 1, er3, z0, z1⟩ ⟨m3⟩ (Int.emod_nonneg _ (by omega)) (Int.emod_lt_of_pos _ (by omega))
end
end CL
set_option Elab.async false
set_option linter.all false
set_option maxRecDepth 100000
set_option maxHeartbeats 4000000
namespace CL
open PySem PySem.Spec PyProof.Rows L2 GE
section
variable {P : Program} {w : World} {K : PySem.W.Frag} {mg : Str → Option Value} {base : Heap}
theorem ok_spring {f : Addr} {fd : FuncData} (F : Fun K "_law_spring" "_law_spring" sSpring f fd) (habs : mg "abs" = none) : FnOk P w K mg base CX0 1 f fd ["script"] (spSpring K) := by
  refine F.ok scSpring (fun vs H Q E ⟨a, ns, e, _⟩ => by rw [e]; rfl) (fun cdv A outer s H vs Q E hr h => ?_)
  obtain ⟨a, ns, rfl, hS, hlen, q⟩ := h
  have nd := scSpring.nd
  refine ⟨_, pss_cons (ps_set (i := 1) nd rfl (.inl rfl) pe_int) (pss_cons (ps_set (i := 2) nd rfl (.inl rfl) pe_int)
    (pss_cons (ps_for PassesOwn.never rfl (pi_list (pe_slice sl_list (pv 0) po_none (po_some pe_int))) (pg_name (i := 3) nd rfl (.inl rfl))
      (pss_cons (ps_if (pt_cmpR op_ge (pe_callB call_abs (by rfl) habs boot_abs (pa_cons (pv 3) pa_nil)) (pe_op op_pow pe_int pe_int) (nomark _))
        (pss_one (ps_set (i := 1) nd rfl (.inl rfl) (pe_op op_add (pe_op op_mulW (pv 1) (pe_op op_pow pe_int pe_int)) (pe_op op_mod (pe_callB call_abs (by rfl) habs boot_abs (pa_cons (pv 3) pa_nil)) (pe_op op_pow pe_int pe_int))))) pss_nil)
      (pss_one (ps_set (i := 2) nd rfl (.inl rfl) (pe_op op_mod (pe_op op_add (pe_op op_add (pe_op op_mul (pv 2) pe_int) (pe_op op_mod (pv 3) pe_int)) pe_int) pe_int)))))
    (pss_one (ps_ret (pe_lst (pa_cons (pv 1) (pa_cons (pv 2) (pa_cons pe_int pa_nil)))))))), ?_⟩
  have cut : cutV (ns.map V.int) none (some 63) = ns.map V.int := (cut_to _ 63).trans (List.take_of_length_le (by rw [List.length_map]; exact hlen))
  refine ⟨.ref a, rfl, 63, rfl, a, _, rfl, hS, fun p np => ?_⟩
  rw [cut]
  have s1 : Same H (upd H p (.lst (ns.map V.int))) := same_upd np
  have ep : (upd H p (.lst (ns.map V.int))) p = some (.lst (ns.map V.int)) := upd_same
  generalize hH1 : upd H p (.lst (ns.map V.int)) = H1 at s1 ep
  refine ⟨p, rfl, ⟨_, SqL.of ep⟩, for_list (xs := ns.map V.int) (fun i σ H2 => H2 = H1 ∧ ∃ f st y3, σ = [some (.ref a), some (.int f), some (.int st), y3] ∧ 0 ≤ f ∧ f.natAbs < 2 ^ (200 * i) ∧ 0 ≤ st ∧ st < MSP) ⟨rfl, 0, 88651, none, rfl, by decide, by decide, by decide, by decide⟩
    (fun i σ H2 _ ⟨e, _⟩ => by rw [e]; exact SqL.of ep) (fun i x σ H2 hx ⟨e, f, st, y3, es, f0, f1, h0, h1⟩ => ?_) (fun σ H2 ⟨e, f, st, y3, es, f0, f1, h0, h1⟩ => ?_)⟩
  · subst e es
    obtain ⟨c, rfl⟩ : ∃ c, x = .int c := by
      rw [List.getElem?_map] at hx
      cases q : ns[i]? with
      | none => rw [q] at hx; cases hx
      | some c => rw [q] at hx; cases hx; exact ⟨c, rfl⟩
    have hi : i < 63 := by
      have := (List.getElem?_eq_some_iff.mp hx).1
      rw [List.length_map] at this
      omega
    have fin : ∀ st2 : Int, 0 ≤ st2 % 2305843009213693951 ∧ st2 % 2305843009213693951 < MSP := fun st2 => ⟨Int.emod_nonneg _ (by decide), Int.emod_lt_of_pos _ (by decide)⟩
    refine ⟨.int c, rfl, c, rfl, 10, 18, rfl, rfl, ⟨by decide, by decide, by decide⟩, _, _, rfl, rfl, _, rfl, ite2 (fun _ => ?_) (fun _ => ?_)⟩
    · obtain ⟨g0, g1⟩ := fig_step (c := if c < 0 then -c else c) f0 f1
      refine ⟨.int f, rfl, 10, 60, rfl, rfl, ⟨by decide, by decide, by decide⟩, f, _, rfl, rfl, ?_, .int c, rfl, c, rfl, 10, 60, rfl, rfl, ⟨by decide, by decide, by decide⟩, _, _, rfl, rfl, (by show (0 : Int) < (10 : Int) ^ (60 : Int).toNat; rw [p60]; decide), _, _, rfl, rfl, ?_⟩
      · show CMulW f ((10 : Int) ^ (60 : Int).toNat)
        rw [p60]
        exact wide_mul (a := 200 * 63) (b := 200) (Nat.lt_of_lt_of_le f1 (Nat.pow_le_pow_right (by decide) (by omega))) log_p60 (by decide) (by decide) (by decide)
      refine ⟨.int st, rfl, st, 69069, rfl, rfl, .inr ⟨by decide, by decide⟩, .int c, rfl, c, _, rfl, rfl, (by show (0 : Int) < 2305843009213693921; decide), _, _, rfl, rfl, _, 7, rfl, rfl, _, _, rfl, rfl, (by show (0 : Int) < 2305843009213693951; decide), ?_⟩
      rw [p60]
      exact ⟨rfl, _, _, some (.int c), rfl, g0, g1, (fin _).1, (fin _).2⟩
    · refine ⟨.int st, rfl, st, 69069, rfl, rfl, .inr ⟨by decide, by decide⟩, .int c, rfl, c, _, rfl, rfl, (by show (0 : Int) < 2305843009213693921; decide), _, _, rfl, rfl, _, 7, rfl, rfl, _, _, rfl, rfl, (by show (0 : Int) < 2305843009213693951; decide), ?_⟩
      exact ⟨rfl, _, _, some (.int c), rfl, f0, fig_stay f1, (fin _).1, (fin _).2⟩
  · subst e es
    refine ⟨.int f, rfl, .int st, rfl, small_le (by show 3 ≤ 1000; decide), fun r nr => ?_⟩
    exact q r _ (s1.trans (same_upd nr)) (s1.free nr) ⟨f, st, 0, upd_same, h0, h1⟩
end
end CL
set_option Elab.async false
set_option linter.all false
set_option maxRecDepth 100000
set_option maxHeartbeats 4000000
namespace CL
open PySem PySem.Spec PyProof.Rows L2 GE
/-! ### a text said over -/
def repS (a : Str) (n : Nat) : Str := ⟨(List.replicate n a.cps).foldl (· ++ ·) #[]⟩
theorem op_repS {X : Cx} : OpR X (binaryOp .Mult) (fun x y H Q => ∃ (a : Str) (n : Nat), x = .str a ∧ y = .int (n : Int) ∧ a.length = 1 ∧ n ≤ 1000 ∧ Q (.str (repS a n)) H) := by
  intro pins s σ H x y v u Q I rx ry h
  obtain ⟨a, n, rfl, rfl, ha, hn, q⟩ := h
  obtain ⟨t, rfl⟩ := rx
  obtain ⟨t', rfl⟩ := ry
  have sz : 1000 ≤ sizeLine := by decide
  have p63 : (2 : Int) ^ 63 = 9223372036854775808 := by decide
  refine P.mul_str ?_ (fun h1 h2 => ?_) (fun h1 h2 => ?_) ?_
  · rw [p63, decide_eq_false (by omega), decide_eq_false (by omega)]
    rfl
  · rw [ha]
    have h3 : (1 : Int) ≤ (2 ^ 63 - 1) / (n : Int) := by
      rw [Int.le_ediv_iff_mul_le (by omega), p63]
      omega
    show ¬ ((1 : Nat) : Int) > (2 ^ 63 - 1) / (n : Int)
    omega
  · rw [ha]
    exact decide_eq_false (by show ¬ 1 * ((n : Int)).toNat > sizeLine; rw [Int.toNat_natCast]; omega)
  · by_cases h0 : (n : Int) < 1
    · rw [if_pos h0]
      have : n = 0 := by omega
      subst this
      exact ⟨Nat.zero_le _, .str (repS a 0), H, I.tok _, ⟨_, rfl⟩, q⟩
    · rw [if_neg h0]
      by_cases h1 : n = 1
      · subst h1
        rw [if_pos (by rfl)]
        have e : repS a 1 = a := by
          show (⟨#[] ++ a.cps⟩ : Str) = a
          rw [Array.empty_append]
        rw [e] at q
        exact ⟨.str a, H, I, ⟨_, rfl⟩, q⟩
      · rw [if_neg (by rw [ha]; simp; omega)]
        have e2 : ((n : Int)).toNat = n := Int.toNat_natCast n
        rw [e2]
        refine ⟨?_, .str (repS a n), H, I.tok _, ⟨_, rfl⟩, q⟩
        have hl : ∀ (k : Nat) (acc : Array Nat), ((List.replicate k a.cps).foldl (· ++ ·) acc).size = acc.size + k := by
          intro k
          induction k with
          | zero => intro acc; rfl
          | succ k ih =>
            intro acc
            rw [List.replicate_succ, List.foldl_cons, ih, Array.size_append]
            have ha' : a.cps.size = 1 := ha
            omega
        show ((List.replicate n a.cps).foldl (· ++ ·) #[]).size ≤ sizeLine
        rw [hl]
        show 0 + n ≤ sizeLine
        omega
theorem rep_zero : ∀ (k : Nat) (acc : Array Nat), ((List.replicate k #[48]).foldl (· ++ ·) acc).toList = acc.toList ++ List.replicate k 48
  | 0, acc => by simp
  | k + 1, acc => by
    rw [List.replicate_succ, List.foldl_cons, rep_zero k, Array.toList_append, List.replicate_succ]
    simp
theorem zero_cps : (PySem.Str.ofString "0") = ⟨#[48]⟩ := by decide +kernel
theorem one_cps : (PySem.Str.ofString "1") = ⟨#[49]⟩ := by decide +kernel
theorem ten_cps (n : Nat) : (PySem.Str.ofString "1" ++ repS (PySem.Str.ofString "0") n).cps.toList = 49 :: List.replicate n 48 := by
  rw [zero_cps, one_cps]
  show (#[49] ++ (List.replicate n #[48]).foldl (· ++ ·) #[]).toList = _
  rw [Array.toList_append, rep_zero]
  rfl
theorem val_zero : ∀ (k acc : Nat), (List.replicate k 48).foldl (fun acc c => acc * 10 + (c - 48)) acc = acc * 10 ^ k
  | 0, acc => by simp
  | k + 1, acc => by
    rw [List.replicate_succ, List.foldl_cons, val_zero k, Nat.pow_succ]
    show (acc * 10 + 0) * 10 ^ k = acc * (10 ^ k * 10)
    rw [Nat.add_zero, Nat.mul_assoc, Nat.mul_comm 10]
theorem ten_text {n : Nat} (h : n ≤ 30) : PySem.intText? (PySem.Str.ofString "1" ++ repS (PySem.Str.ofString "0") n) = some (((10 ^ n : Nat)) : Int) := by
  have e := ten_cps n
  have hl : (PySem.Str.ofString "1" ++ repS (PySem.Str.ofString "0") n).length = n + 1 := by
    show (PySem.Str.ofString "1" ++ repS (PySem.Str.ofString "0") n).cps.size = _
    rw [← Array.length_toList, e]
    simp
  rw [PySem.intText_digits (by rw [e]; intro c hc; rcases List.mem_cons.mp hc with h | h
                               · subst h; decide
                               · rw [(List.mem_replicate.mp h).2]; decide) (by rw [e]; exact List.cons_ne_nil _ _) (by omega), e]
  unfold NumText.digitsVal
  rw [List.foldl_cons, val_zero]
  show some (((0 * 10 + (49 - 48)) * 10 ^ n : Nat) : Int) = _
  rw [show (0 * 10 + (49 - 48)) = 1 from rfl, Nat.one_mul]
theorem ten_len {n : Nat} (h : n ≤ 30) : (PySem.Str.ofString "1" ++ repS (PySem.Str.ofString "0") n).length ≤ 640 := by
  have e := ten_cps n
  have hl : (PySem.Str.ofString "1" ++ repS (PySem.Str.ofString "0") n).length = n + 1 := by
    show (PySem.Str.ofString "1" ++ repS (PySem.Str.ofString "0") n).cps.size = _
    rw [← Array.length_toList, e]
    simp
  omega
theorem rep_len {n : Nat} (h : n ≤ 30) : (PySem.Str.ofString "1").length + (repS (PySem.Str.ofString "0") n).length ≤ sizeLine := by
  have e := ten_len h
  have e2 : (PySem.Str.ofString "1" ++ repS (PySem.Str.ofString "0") n).length = (PySem.Str.ofString "1").length + (repS (PySem.Str.ofString "0") n).length := by
    show ((PySem.Str.ofString "1").cps ++ (repS (PySem.Str.ofString "0") n).cps).size = _
    rw [Array.size_append]
    rfl
  have : 640 ≤ sizeLine := by decide
  omega
theorem ten_le {n : Nat} (h : n ≤ 30) : (((10 ^ n : Nat)) : Int) ≤ GREAT := by
  have h1 : 10 ^ n ≤ 10 ^ 30 := Nat.pow_le_pow_right (by decide) h
  have h2 : ((10 ^ 30 : Nat) : Int) = GREAT := by decide +kernel
  omega
theorem ten_le29 {n : Nat} (h : n ≤ 29) : (((10 ^ n : Nat)) : Int) ≤ 100000000000000000000000000000 := by
  have h1 : 10 ^ n ≤ 10 ^ 29 := Nat.pow_le_pow_right (by decide) h
  have h2 : ((10 ^ 29 : Nat) : Int) = 100000000000000000000000000000 := by decide +kernel
  omega
/-! ### values that may be none -/
def pvO : Option Int → V
  | none => .non
  | some i => .int i
def pdO : Option Int → PyData
  | none => .none
  | some i => .int i
def goodO : Option Int → Prop
  | none => True
  | some i => 0 ≤ i ∧ i ≤ GREAT
abbrev sPatL : Stmt := topS 38
abbrev P29 : Int := 100000000000000000000000000000
theorem scPatL : FnScope ["spring", "wide", "some"] ["spring", "wide"] (defScope sPatL) := ⟨rfl, rfl, rfl, by decide +kernel, rfl, by decide +kernel, by decide +kernel⟩
def spPatL (r : Addr) : Sp := fun vs H Q _ => ∃ m : Int, vs = [.ref r, .int m] ∧ ReelAt H r ∧ 0 ≤ m ∧ m ≤ P29 ∧ ∀ o H', ReelAt H' r → Mv r H H' → goodO o → Q (pvO o) H'
theorem t140 : (2 : Int) ^ 140 = 1393796574908163946345982392040522594123776 := by decide +kernel
section
variable {P : Program} {w : World} {K : PySem.W.Frag} {mg : Str → Option Value} {base : Heap}
theorem ok_patL {f r : Addr} {fd : FuncData} (F : Fun K "_law_patience" "_law_patience" sPatL f fd) (T : Nm mg) (CD : Cal P w K mg base 1 "_law_draw" ["spring", "many"] (spDraw r)) : FnOk P w K mg base CX0 2 f fd ["spring", "wide"] (spPatL r) := by
  refine F.ok scPatL (fun vs H Q E ⟨m, e, _⟩ => by rw [e]; rfl) (fun cdv A outer s H vs Q E hr h => ?_)
  obtain ⟨m, rfl, hre, m0, m1, q⟩ := h
  have nd := scPatL.nd
  refine ⟨_, pss_cons (ps_set (i := 2) nd rfl (.inl rfl) (pe_lst (pa_cons (pe_cal CD hr (by rfl) (pa_cons (pv 0) (pa_cons pe_int pa_nil))) (pa_cons (pe_cal CD hr (by rfl) (pa_cons (pv 0) (pa_cons (pe_op op_add (pv 1) pe_int) pa_nil))) (pa_cons (pv 1)
      (pa_cons (pe_callTy call_int_str (by rfl) T.int PyProof.Rows.boot_int (pa_cons (pe_op op_add_str pe_str (pe_op op_repS pe_str (pe_cal CD hr (by rfl) (pa_cons (pv 0) (pa_cons pe_int pa_nil))))) pa_nil)) (pa_cons pe_non pa_nil)))))))
    (pss_cons (ps_set (i := 2) nd rfl (.inl rfl) (pe_op op_cat (pv 2) (pe_lst (pa_cons (pe_cal CD hr (by rfl) (pa_cons (pv 0) (pa_cons (pe_op op_add (pe_op op_pow pe_int pe_int) pe_int) pa_nil))) (pa_cons (pe_cal CD hr (by rfl) (pa_cons (pv 0) (pa_cons (pe_op op_add (pe_op op_mul pe_int (pv 1)) pe_int) pa_nil)))
      (pa_cons (pe_op op_pow pe_int pe_int) pa_nil))))))
    (pss_one (ps_ret (pe_ix ix_list (pv 2) (pe_cal CD hr (by rfl) (pa_cons (pv 0) (pa_cons pe_int pa_nil))) (fun _ _ => rfl))))), ?_⟩
  have m1' : m ≤ 100000000000000000000000000000 := m1
  refine ⟨.ref r, rfl, 3, rfl, hre, by decide, by decide, fun x1 H1 r1 v1 a1 b1 => ?_⟩
  refine ⟨.ref r, rfl, .int m, rfl, m, 1, rfl, rfl, m + 1, rfl, r1, by omega, by rw [t140]; omega, fun x2 H2 r2 v2 a2 b2 => ?_⟩
  refine ⟨.int m, rfl, .ref r, rfl, 31, rfl, r2, by decide, by decide, fun x3 H3 r3 v3 a3 b3 => ?_⟩
  obtain ⟨n, rfl⟩ : ∃ n : Nat, x3 = (n : Int) := ⟨x3.toNat, by omega⟩
  have hn : n ≤ 30 := by omega
  refine ⟨_, n, rfl, rfl, (by rw [show ("0" : Str) = ⟨#[48]⟩ from zero_cps]; rfl), by omega, _, _, rfl, rfl, rep_len hn, _, _, rfl, ten_text hn, ten_len hn, small_le (by show 5 ≤ 1000; decide), fun p np => ?_⟩
  have s3 : Same H3 (upd H3 p (.lst [.int x1, .int x2, .int m, .int ((10 ^ n : Nat) : Int), .non])) := same_upd np
  have e3 : (upd H3 p (.lst [.int x1, .int x2, .int m, .int ((10 ^ n : Nat) : Int), .non])) p = some (.lst [.int x1, .int x2, .int m, .int ((10 ^ n : Nat) : Int), .non]) := upd_same
  show tSeq _ _ _ _ (upd H3 p (.lst [.int x1, .int x2, .int m, .int ((10 ^ n : Nat) : Int), .non]))
  generalize hH4 : upd H3 p (.lst [.int x1, .int x2, .int m, .int ((10 ^ n : Nat) : Int), .non]) = H4 at s3 e3
  have r4 := r3.same s3
  have npr : p ≠ r := r3.new np
  refine ⟨.ref p, rfl, .ref r, rfl, 10, 30, rfl, rfl, ⟨by decide, by decide, by decide⟩, _, 1, rfl, rfl, _, rfl, r4, by rw [p30]; decide, by rw [p30, t140]; decide, fun x5 H5 r5 v5 a5 b5 => ?_⟩
  refine ⟨.ref r, rfl, .int m, rfl, 2, m, rfl, rfl, .inl ⟨by decide, by decide⟩, _, 3, rfl, rfl, 2 * m + 3, rfl, r5, by omega, by rw [t140]; omega, fun x6 H6 r6 v6 a6 b6 => ?_⟩
  refine ⟨10, 30, rfl, rfl, ⟨by decide, by decide, by decide⟩, small_le (by show 3 ≤ 1000; decide), fun p2 np2 => ?_⟩
  rw [p30] at b5
  show rCat (.ref p) (.ref p2) (upd H6 p2 (.lst [.int x5, .int x6, .int ((10 : Int) ^ (30 : Int).toNat)])) _
  rw [p30]
  have s7 : Same H6 (upd H6 p2 (.lst [.int x5, .int x6, .int GREAT])) := same_upd np2
  have e7 : (upd H6 p2 (.lst [.int x5, .int x6, .int GREAT])) p2 = some (.lst [.int x5, .int x6, .int GREAT]) := upd_same
  generalize hH7 : upd H6 p2 (.lst [.int x5, .int x6, .int GREAT]) = H7 at s7 e7
  have e3' := s7 _ _ (v6.keep _ _ npr (v5.keep _ _ npr e3))
  refine ⟨p, p2, _, _, rfl, rfl, e3', e7, small_le (by show 8 ≤ 1000; decide), fun p3 np3 => ?_⟩
  have s8 : Same H7 (upd H7 p3 (.lst ([.int x1, .int x2, .int m, .int ((10 ^ n : Nat) : Int), .non] ++ [.int x5, .int x6, .int GREAT]))) := same_upd np3
  have e8 : (upd H7 p3 (.lst ([.int x1, .int x2, .int m, .int ((10 ^ n : Nat) : Int), .non] ++ [.int x5, .int x6, .int GREAT]))) p3 = some (.lst ([some x1, some x2, some m, some (((10 ^ n : Nat) : Int)), none, some x5, some x6, some GREAT].map pvO)) := upd_same
  generalize hH8 : upd H7 p3 (.lst ([.int x1, .int x2, .int m, .int ((10 ^ n : Nat) : Int), .non] ++ [.int x5, .int x6, .int GREAT])) = H8 at s8 e8
  have r8 := (r6.same s7).same s8
  have npr3 : p3 ≠ r := (r6.same s7).new np3
  refine ⟨.ref p3, rfl, .ref r, rfl, 8, rfl, r8, by decide, by decide, fun x9 H9 r9 v9 a9 b9 => ?_⟩
  obtain ⟨k, rfl⟩ : ∃ k : Nat, x9 = (k : Int) := ⟨x9.toNat, by omega⟩
  have hk : k < 8 := by omega
  have e9 := v9.keep _ _ npr3 e8
  have g1 : ∀ {i : Int}, 0 ≤ i → i ≤ GREAT → goodO (some i) := fun a b => ⟨a, b⟩
  have G30 : (1000000000000000000000000000000 : Int) = GREAT := rfl
  have t1 := ten_le hn
  have hall : ∀ o ∈ ([some x1, some x2, some m, some (((10 ^ n : Nat) : Int)), none, some x5, some x6, some GREAT] : List (Option Int)), goodO o := by
    intro o ho
    simp only [List.mem_cons, List.not_mem_nil, or_false] at ho
    rcases ho with rfl | rfl | rfl | rfl | rfl | rfl | rfl | rfl
    · exact g1 a1 (by omega)
    · exact g1 a2 (by omega)
    · exact g1 m0 (by omega)
    · exact g1 (Int.natCast_nonneg _) t1
    · trivial
    · exact g1 a5 (by omega)
    · exact g1 a6 (by omega)
    · exact g1 (by omega) (by omega)
  obtain ⟨o, ho⟩ : ∃ o, ([some x1, some x2, some m, some (((10 ^ n : Nat) : Int)), none, some x5, some x6, some GREAT] : List (Option Int))[k]? = some o := ⟨_, List.getElem?_eq_getElem (by simpa using hk)⟩
  refine ⟨p3, _, (k : Int), pvO o, rfl, rfl, SqL.of e9, atI_nat (by rw [List.getElem?_map, ho]; rfl), ?_⟩
  refine q o H9 r9 ?_ (hall o (List.mem_of_getElem? ho))
  exact (v1.trans v2).trans (v3.trans ((Mv.of s3).trans (v5.trans (v6.trans ((Mv.of s7).trans ((Mv.of s8).trans v9))))))
end
end CL
set_option Elab.async false
set_option linter.all false
set_option maxRecDepth 100000
set_option maxHeartbeats 4000000
namespace CL
open PySem PySem.Spec PyProof.Rows L2 GE
/-- W is tracked, the spring in it -/
structure Wk (W : Addr → Prop) (H : Hp) (r : Addr) : Prop where
  reel : W r
  trk : ∀ b, W b → H b ≠ none
theorem Mv.hw {r : Addr} {W : Addr → Prop} {H H' : Hp} (m : Mv r H H') (h : W r) : Same (Hw W H) (Hw W H') := fun b o e => by
  have hb := Hw.ne e
  rw [Hw.at hb]
  exact m.keep b o (fun z => hb (by rw [z]; exact h)) (Hw.sub W H b o e)
theorem Wk.mv {W : Addr → Prop} {H H' : Hp} {r : Addr} (k : Wk W H r) (re : ReelAt H' r) (m : Mv r H H') : Wk W H' r := ⟨k.reel, fun b hb z => by
  by_cases hr : b = r
  · rw [hr] at z
    exact re.some z
  · exact mem_keep m hr (k.trk b hb) z⟩
theorem Wk.out {W : Addr → Prop} {H : Hp} {r p : Addr} (k : Wk W H r) (n : H p = none) : ¬ W p := fun z => k.trk p z n
theorem Wk.add {W : Addr → Prop} {H : Hp} {r p : Addr} (k : Wk W H r) (n : H p ≠ none) : Wk (fun b => W b ∨ b = p) H r := ⟨.inl k.reel, fun b hb => hb.elim (k.trk b) fun z => by rw [z]; exact n⟩
theorem Mv.upd {r p : Addr} {H H' : Hp} {o : HO} (m : Mv r H H') (hn : H p = none) : Mv r H (upd H' p o) := ⟨fun b x nb e => by
  rw [upd_ne (ne_of_none e hn)]
  exact m.keep b x nb e⟩
structure Nm2 (mg : Str → Option Value) : Prop where
  range : mg "range" = none
  min : mg "min" = none
  repr : mg "repr" = none
  enum : mg "enumerate" = none
abbrev RowT := List (Option Int) × PyData
theorem rp_O {H : Hp} : ∀ o : Option Int, Rp H (pvO o) (pdO o)
  | none => .non
  | some i => .int i
theorem rp_Os {H : Hp} : ∀ os : List (Option Int), RpAll H (os.map pvO) (os.map pdO)
  | [] => .nil
  | o :: os => .cons (rp_O o) (rp_Os os)
def rowD (x : RowT) : PyData := .tuple [.list (x.1.map pdO), x.2]
def sumW (rs : List RowT) : Int := (rs.map fun x => worth x.2).sum
structure GoodRow (x : RowT) : Prop where
  lo : 1 ≤ x.1.length
  hi : x.1.length ≤ 8
  pat : ∀ o ∈ x.1, goodO o
  many : isMany x.2 = true
structure Fine (rs : List RowT) : Prop where
  lo : 1 ≤ rs.length
  hi : rs.length ≤ 8
  row : ∀ x ∈ rs, GoodRow x
  last : ∀ x ∈ rs.take (rs.length - 1), isNone x.2 = false
  sum : sumW rs ≤ GREAT
def spRows (r : Addr) : Sp := fun vs H Q _ => ∃ W, vs = [.ref r] ∧ ReelAt H r ∧ Wk W H r ∧ ∀ p rs H', ReelAt H' r → Mv r H H' → Rp (Hw W H') (.ref p) (.list (rs.map rowD)) → Fine rs → Q (.ref p) H'
theorem RpAll.unsnoc {H : Hp} : ∀ {ds : List PyData} {vs : List V} {d : PyData}, RpAll H vs (ds ++ [d]) → ∃ vs' v, vs = vs' ++ [v] ∧ RpAll H vs' ds ∧ Rp H v d
  | [], _, _, .cons h .nil => ⟨[], _, rfl, .nil, h⟩
  | _ :: _, _, _, .cons h t => by
    obtain ⟨vs', v, e, h1, h2⟩ := RpAll.unsnoc t
    exact ⟨_ :: vs', v, by rw [e]; rfl, .cons h h1, h2⟩
theorem ix_last (n : Nat) : ixN (n + 1) (-1) = some n := by
  unfold ixN
  rw [if_neg (by decide), if_pos (by omega)]
  congr 1
  omega
/-! ### rows that were drawn are a plan -/
theorem pat_good {o : Option Int} (h : goodO o) : isPatience (pdO o) = true := by
  cases o with
  | none => rfl
  | some i =>
    have h1 : 0 ≤ i := h.1
    have h2 : i ≤ GREAT := h.2
    show (decide (0 ≤ i) && decide (i ≤ GREAT)) = true
    rw [decide_eq_true h1, decide_eq_true h2]
    rfl
theorem piece_good {x : RowT} (g : GoodRow x) : isPiece (rowD x) = true := by
  have e : isPiece (rowD x) = (isTurns (.list (x.1.map pdO)) && isMany x.2) := isPiece_two rfl
  rw [e, g.many, Bool.and_true]
  show (decide (1 ≤ (x.1.map pdO).length) && decide ((x.1.map pdO).length ≤ 8) && (x.1.map pdO).all isPatience) = true
  rw [List.length_map, decide_eq_true g.lo, decide_eq_true g.hi]
  simp only [Bool.true_and, List.all_map, List.all_eq_true]
  exact fun o ho => pat_good (g.pat o ho)
theorem sum_rows : ∀ rs : List RowT, sumSnd (rs.map rowD) = sumW rs
  | [] => rfl
  | x :: rs => by
    have h := sum_rows rs
    unfold sumSnd sumW at *
    simp only [List.map_cons, List.sum_cons]
    rw [h]
    rfl
theorem fine_plan {rs : List RowT} (f : Fine rs) : isPlan (.list (rs.map rowD)) = true := by
  have e : isPlan (.list (rs.map rowD)) = isPlanL (rs.map rowD) := rfl
  rw [e]
  unfold isPlanL
  rw [sum_rows, List.length_map, decide_eq_true f.lo, decide_eq_true f.hi, decide_eq_true f.sum, Bool.and_true, Bool.true_and, Bool.true_and]
  have h1 : (rs.map rowD).all isPiece = true := by
    simp only [List.all_map, List.all_eq_true]
    exact fun x hx => piece_good (f.row x hx)
  have h2 : ((rs.map rowD).take (rs.length - 1)).any (fun d => isNone (sndD d)) = false := by
    rw [← List.map_take, List.any_eq_false]
    intro d hd
    obtain ⟨x, hx, rfl⟩ := List.mem_map.mp hd
    have h3 := f.last x hx
    have h4 : sndD (rowD x) = x.2 := rfl
    rw [h4, h3]
    exact Bool.false_ne_true
  rw [h1, h2]
  rfl
/-! ### what a call that fills tables leaves -/
theorem Ex.some {H H' : Hp} (e : Ex H H') {b : Addr} (n : H b ≠ none) : H' b ≠ none := fun z => n (e.free z)
theorem Wk.ex {W : Addr → Prop} {H H' : Hp} {r : Addr} (k : Wk W H r) (e : Ex H H') : Wk W H' r := ⟨k.reel, fun b hb => e.some (k.trk b hb)⟩
theorem Ex.hw {W : Addr → Prop} {H H' : Hp} (e : Ex H H') : Ex (Hw W H) (Hw W H') := fun b o h => by
  rw [Hw.at (Hw.ne h)]
  exact e b o (Hw.sub W H b o h)
theorem tabG_ne {P r : Addr} {H : Hp} (h : GxR.TabG H P) (hr : ReelAt H r) : P ≠ r := fun z => by
  obtain ⟨ps, e, _⟩ := h
  obtain ⟨f, st, n, er, _⟩ := hr
  rw [z, er] at e
  cases e
theorem tabG_mv {P r : Addr} {H H' : Hp} (h : GxR.TabG H P) (hr : ReelAt H r) (m : Mv r H H') : GxR.TabG H' P := by
  have n := tabG_ne h hr
  obtain ⟨ps, e, t⟩ := h
  exact ⟨ps, m.keep P _ n e, t⟩
theorem Tb.mv {P1 P2 r : Addr} {H H' : Hp} (h : Tb P1 P2 H) (hr : ReelAt H r) (m : Mv r H H') : Tb P1 P2 H' := ⟨tabG_mv h.1 hr m, tabG_mv h.2 hr m⟩
theorem tabG_upd {P p : Addr} {H : Hp} {o : HO} (h : GxR.TabG H P) (n : ∀ ps, H p ≠ some (.tbl ps)) : GxR.TabG (upd H p o) P := by
  obtain ⟨ps, e, t⟩ := h
  exact ⟨ps, by rw [upd_ne fun z => n ps (by rw [← z]; exact e)]; exact e, t⟩
theorem Tb.upd {P1 P2 p : Addr} {H : Hp} {o : HO} (h : Tb P1 P2 H) (n : ∀ ps, H p ≠ some (.tbl ps)) : Tb P1 P2 (upd H p o) := ⟨tabG_upd h.1 n, tabG_upd h.2 n⟩
theorem RpAll.exh {H H' : Hp} (e : Ex H H') {vs : List V} {ds : List PyData} (h : RpAll H vs ds) : RpAll H' vs ds := RpAll.ex e ds vs h
end CL
set_option Elab.async false
set_option linter.all false
set_option maxRecDepth 100000
set_option maxHeartbeats 4000000
namespace CL
open PySem PySem.Spec PyProof.Rows L2 GE
abbrev sPlanL : Stmt := topS 39
abbrev nPlanL : List Str := ["spring", "ends", "found", "k", "lot", "turn", "at"]
theorem scPlanL : FnScope nPlanL ["spring", "ends"] (defScope sPlanL) := ⟨rfl, rfl, rfl, by decide +kernel, rfl, by decide +kernel, by decide +kernel⟩
theorem p29 : (10 : Int) ^ (29 : Int).toNat = P29 := by decide +kernel
theorem sumW_snoc2 (rs : List RowT) (x : RowT) : sumW (rs ++ [x]) = sumW rs + worth x.2 := by
  unfold sumW
  rw [List.map_append, List.sum_append]
  simp
def spPlanL (r : Addr) : Sp := fun vs H Q _ => ∃ b : Bool, ∃ W, vs = [.ref r, .bl b] ∧ ReelAt H r ∧ Wk W H r ∧ ∀ p rs H', ReelAt H' r → Mv r H H' → Rp (Hw W H') (.ref p) (.list (rs.map rowD)) → Fine rs → (∀ x ∈ rs, worth x.2 ≤ P29) → (b = true → ∀ x ∈ rs, isNone x.2 = false) → Q (.ref p) H'
theorem pick2 {x : Int} (h0 : 0 ≤ x) (h1 : x < 2) {a : Int} (ha : 1 ≤ a) (hb : a ≤ 8) : ∃ z, atI [V.int a, .int 8] x = some (.int z) ∧ 1 ≤ z ∧ z ≤ 8 := by
  have hh : x = 0 ∨ x = 1 := by omega
  rcases hh with z | z <;> rw [z]
  · exact ⟨a, atI_nat (j := 0) rfl, ha, hb⟩
  · exact ⟨8, atI_nat (j := 1) rfl, by decide, by decide⟩
section
variable {P : Program} {w : World} {K : PySem.W.Frag} {mg : Str → Option Value} {base : Heap}
theorem ok_planL {f r : Addr} {fd : FuncData} (F : Fun K "_law_plan" "_law_plan" sPlanL f fd) (T : Nm mg) (hrange : mg "range" = none) (hmin : mg "min" = none) (CD : Cal P w K mg base 2 "_law_draw" ["spring", "many"] (spDraw r)) (CP : Cal P w K mg base 2 "_law_patience" ["spring", "wide"] (spPatL r)) : FnOk P w K mg base CX0 3 f fd ["spring", "ends"] (spPlanL r) := by
  refine F.ok scPlanL (fun vs H Q E ⟨b, W, e, _⟩ => by rw [e]; rfl) (fun cdv A outer s H vs Q E hr h => ?_)
  obtain ⟨b, W, rfl, hre, hW, q⟩ := h
  have nd := scPlanL.nd
  refine ⟨_, (pss_cons (ps_set (i := 2) nd rfl (.inl rfl) (pe_lst pa_nil))
    (pss_cons (ps_for PassesOwn.never rfl (pi_range1 (by rfl) hrange (pa_cons (pe_op op_add pe_int (pe_cal CD hr (by rfl) (pa_cons (pv 0) (pa_cons (pe_ix ix_list (pe_lst (pa_cons pe_int (pa_cons pe_int pa_nil))) (pe_cal CD hr (by rfl) (pa_cons (pv 0) (pa_cons pe_int pa_nil))) (fun _ _ => rfl)) pa_nil)))) pa_nil)) (pg_name (i := 3) nd rfl (.inl rfl))
      (pss_cons (ps_set (i := 4) nd rfl (.inr rfl) (pe_lst (pa_cons (pe_cal CD hr (by rfl) (pa_cons (pv 0) (pa_cons pe_int pa_nil))) (pa_cons (pe_cal CD hr (by rfl) (pa_cons (pv 0) (pa_cons pe_int pa_nil))) (pa_cons (pe_callTy call_int_str (by rfl) T.int PyProof.Rows.boot_int (pa_cons (pe_op op_add_str pe_str (pe_op op_repS pe_str (pe_cal CD hr (by rfl) (pa_cons (pv 0) (pa_cons pe_int pa_nil))))) pa_nil)) pa_nil)))))
      (pss_cons (ps_set (i := 4) nd rfl (.inr rfl) (pe_ix ix_list (pe_op op_cat (pv 4) (pe_lst (pa_cons (pe_cal CD hr (by rfl) (pa_cons (pv 0) (pa_cons (pe_op op_pow pe_int pe_int) pa_nil))) pa_nil))) (pe_cal CD hr (by rfl) (pa_cons (pv 0) (pa_cons pe_int pa_nil))) (fun _ _ => rfl)))
      (pss_cons (ps_setLc (i := 5) (own := [("at", 6)]) (g := gName 6) (tt := tYes) rfl nd rfl rfl (sw_true rfl rfl rfl (by decide +kernel)) (pi_range1 (by rfl) hrange (pa_cons (pe_op op_add pe_int (pe_cal CD hr (by rfl) (pa_cons (pv 0) (pa_cons (pe_ix ix_list (pe_lst (pa_cons pe_int (pa_cons pe_int pa_nil))) (pe_cal CD hr (by rfl) (pa_cons (pv 0) (pa_cons pe_int pa_nil))) (fun _ _ => rfl)) pa_nil)))) pa_nil)) (blkOk_by (N := nPlanL) (sc := defScope sPlanL) (by decide +kernel))
        (fun _ _ _ _ _ => pg_name (i := 6) nd rfl (Or.inl rfl)) (fun _ _ _ _ _ => pts_nil) (fun _ _ _ _ _ => pe_cal CP hr (by rfl) (pa_cons (pv 0) (pa_cons (pv 4) pa_nil))))
      (pss_one (ps_expr (pe_bm PySem.F.plainAttrs_list PySem.F.slot_list_append PySem.F.type_list_append mt_append (pv 2) (pa_cons (pe_tup (pa_cons (pv 5) (pa_cons (pe_callB (call_min2 rfl) (by rfl) hmin (by decide +kernel) (pa_cons (pv 4) (pa_cons (pe_op op_pow pe_int pe_int) pa_nil))) pa_nil))) pa_nil))))))))
    (pss_cons (ps_if (PW.pt (pw_and (pt_not (pt_val (pv 1))) (pw_and1 (pt_cmpR op_gt (pe_cal CD hr (by rfl) (pa_cons (pv 0) (pa_cons pe_int pa_nil))) pe_int (nomark _))))) (pss_one (ps_asg (pe_tup (pa_cons (pe_ix ix_tup (pe_ix ix_list (pv 2) (pe_un un_neg pe_int) (fun _ _ => rfl)) pe_int (fun _ _ => rfl)) (pa_cons pe_non pa_nil))) (pg_sub (pv 2) (pe_un un_neg pe_int) set_list))) pss_nil)
    (pss_one (ps_ret (pv 2)))))), ?_⟩
  refine ⟨Nat.zero_le _, fun fp nfp => ?_⟩
  have frf := hre.new nfp
  have nWf : ¬ W fp := hW.out nfp
  have re0 := hre.store (o := .lst []) frf
  have m0 := (Mv.refl r H).upd (o := .lst []) nfp
  have e0 : (upd H fp (.lst [])) fp = some (.lst []) := upd_same
  generalize hH0 : upd H fp (.lst []) = H0 at re0 m0 e0
  refine ⟨.ref r, rfl, small_le (by show 2 ≤ 1000; decide), fun p np => ?_⟩
  have s1 : Same H0 (upd H0 p (.lst [.int 3, .int 8])) := same_upd np
  have ep : (upd H0 p (.lst [.int 3, .int 8])) p = some (.lst [.int 3, .int 8]) := upd_same
  have npr := re0.new np
  have mv1 := Mv.of (r := r) s1
  have re01 := re0.same s1
  generalize hH1 : upd H0 p (.lst [.int 3, .int 8]) = H1 at s1 ep mv1 re01
  refine ⟨.ref r, rfl, 2, rfl, re01, by decide, by decide, fun x H2 re2 m2 x0 x1 => ?_⟩
  obtain ⟨z, hz, z0, z1⟩ := pick2 x0 x1 (a := 3) (by decide) (by decide)
  refine ⟨p, _, x, .int z, rfl, rfl, SqL.of (m2.keep p _ npr ep), hz, z, rfl, re2, z0, by omega, fun y H3 re3 m3 y0 y1 => ⟨1, y, rfl, rfl, 1 + y, rfl, by omega, by omega, ?_⟩⟩
  have m13 := (mv1.trans m2).trans m3
  have e3 := m13.keep fp _ frf e0
  refine for_range (lo := 0) (n := (1 + y).toNat) (fun i σ H2 => ∃ (fvs : List V) (rs : List RowT) (y3 y4 y5 y6 : Option V), σ = [some (.ref r), some (.bl b), some (.ref fp), y3, y4, y5, y6] ∧ ReelAt H2 r ∧ Mv r H H2 ∧ H2 fp = some (.lst fvs) ∧ rs.length = i ∧
      RpAll (Hw (fun b => W b ∨ b = fp) H2) fvs (rs.map rowD) ∧ (∀ x ∈ rs, GoodRow x ∧ isNone x.2 = false) ∧ (∀ x ∈ rs, worth x.2 ≤ P29) ∧ 0 ≤ sumW rs ∧ sumW rs ≤ P29 * (i : Int))
    ⟨[], [], none, none, none, none, rfl, re3, m0.trans m13, e3, rfl, .nil, (fun x hx => by cases hx), (fun x hx => by cases hx), by decide, by decide⟩
    (fun i σ H2 hi hP => ?_) (fun σ H2 hP => ?_)
  · obtain ⟨fvs, rs, y3, y4, y5, y6, rfl, re2, m2, e2, lrs, hA, hgood, hw29, hs0, hs1⟩ := hP
    have hi8 : i < 8 := by omega
    have e2n : H2 fp ≠ none := by rw [e2]; exact nofun
    -- lot
    refine ⟨.ref r, rfl, 4, rfl, re2, by decide, by decide, fun a1 G1 g1 n1 a10 a11 => ?_⟩
    refine ⟨.ref r, rfl, 60, rfl, g1, by decide, by decide, fun a2 G2 g2 n2 a20 a21 => ?_⟩
    refine ⟨.ref r, rfl, 30, rfl, g2, by decide, by decide, fun a3 G3 g3 n3 a30 a31 => ?_⟩
    obtain ⟨n, rfl⟩ : ∃ n : Nat, a3 = (n : Int) := ⟨a3.toNat, by omega⟩
    have hn : n ≤ 29 := by omega
    have t29 := ten_le29 hn
    refine ⟨_, n, rfl, rfl, (by rw [show ("0" : Str) = ⟨#[48]⟩ from zero_cps]; rfl), by omega, _, _, rfl, rfl, rep_len (by omega), _, _, rfl, ten_text (by omega), ten_len (by omega), small_le (by show 3 ≤ 1000; decide), fun p1 np1 => ?_⟩
    generalize ht : ((10 ^ n : Nat) : Int) = tn at t29
    have tn0 : 0 ≤ tn := by rw [← ht]; exact Int.natCast_nonneg _
    have s3 : Same G3 (upd G3 p1 (.lst [.int a1, .int a2, .int tn])) := same_upd np1
    have ep1 : (upd G3 p1 (.lst [.int a1, .int a2, .int tn])) p1 = some (.lst [.int a1, .int a2, .int tn]) := upd_same
    have np1r := g3.new np1
    show tSeq _ _ _ _ (upd G3 p1 (.lst [.int a1, .int a2, .int tn]))
    generalize hG4 : upd G3 p1 (.lst [.int a1, .int a2, .int tn]) = G4 at s3 ep1
    have g4 := g3.same s3
    refine ⟨.ref p1, rfl, .ref r, rfl, 10, 29, rfl, rfl, ⟨by decide, by decide, by decide⟩, _, rfl, g4, by rw [p29]; decide, by rw [p29, t140]; decide, fun a5 G5 g5 n5 a50 a51 => ?_⟩
    rw [p29] at a51
    refine ⟨small_le (by show 1 ≤ 1000; decide), fun p2 np2 => ?_⟩
    have s6 : Same G5 (upd G5 p2 (.lst [.int a5])) := same_upd np2
    have ep2 : (upd G5 p2 (.lst [.int a5])) p2 = some (.lst [.int a5]) := upd_same
    generalize hG6 : upd G5 p2 (.lst [.int a5]) = G6 at s6 ep2
    refine ⟨p1, p2, _, _, rfl, rfl, s6 _ _ (n5.keep _ _ np1r ep1), ep2, small_le (by show 4 ≤ 1000; decide), fun p3 np3 => ?_⟩
    have s7 : Same G6 (upd G6 p3 (.lst ([.int a1, .int a2, .int tn] ++ [.int a5]))) := same_upd np3
    have ep3 : (upd G6 p3 (.lst ([.int a1, .int a2, .int tn] ++ [.int a5]))) p3 = some (.lst [.int a1, .int a2, .int tn, .int a5]) := upd_same
    have g7 := (g5.same s6).same s7
    have np3r := (g5.same s6).new np3
    generalize hG7 : upd G6 p3 (.lst ([.int a1, .int a2, .int tn] ++ [.int a5])) = G7 at s7 ep3 g7
    refine ⟨.ref r, rfl, 4, rfl, g7, by decide, by decide, fun a8 G8 g8 n8 a80 a81 => ?_⟩
    obtain ⟨lot, hlot, l0, l1⟩ : ∃ z, atI [V.int a1, .int a2, .int tn, .int a5] a8 = some (.int z) ∧ 0 ≤ z ∧ z ≤ P29 := by
      have E29 : P29 = 100000000000000000000000000000 := rfl
      have hh : a8 = 0 ∨ a8 = 1 ∨ a8 = 2 ∨ a8 = 3 := by omega
      rcases hh with z | z | z | z <;> rw [z]
      · exact ⟨a1, atI_nat (j := 0) rfl, a10, by omega⟩
      · exact ⟨a2, atI_nat (j := 1) rfl, a20, by omega⟩
      · exact ⟨tn, atI_nat (j := 2) rfl, tn0, by omega⟩
      · exact ⟨a5, atI_nat (j := 3) rfl, a50, by omega⟩
    refine ⟨p3, _, a8, .int lot, rfl, rfl, SqL.of (n8.keep p3 _ np3r ep3), hlot, ?_⟩
    have mlot : Mv r H2 G8 := (n1.trans n2).trans (n3.trans ((Mv.of s3).trans (n5.trans ((Mv.of s6).trans ((Mv.of s7).trans n8)))))
    clear hG4 hG6 hG7
    -- turn
    refine ⟨.ref r, rfl, small_le (by show 2 ≤ 1000; decide), fun p4 np4 => ?_⟩
    have s9 : Same G8 (upd G8 p4 (.lst [.int 2, .int 8])) := same_upd np4
    have ep4 : (upd G8 p4 (.lst [.int 2, .int 8])) p4 = some (.lst [.int 2, .int 8]) := upd_same
    have np4r := g8.new np4
    have g9 := g8.same s9
    generalize hG9 : upd G8 p4 (.lst [.int 2, .int 8]) = G9 at s9 ep4 g9
    refine ⟨.ref r, rfl, 2, rfl, g9, by decide, by decide, fun x H5 re5 m5 x0 x1 => ?_⟩
    obtain ⟨z, hz, z0, z1⟩ := pick2 x0 x1 (a := 2) (by decide) (by decide)
    refine ⟨p4, _, x, .int z, rfl, rfl, SqL.of (m5.keep p4 _ np4r ep4), hz, z, rfl, re5, z0, by omega, fun y H4 re4 m4 y0 y1 => ⟨1, y, rfl, rfl, 1 + y, rfl, by omega, by omega, fun t nt => ?_⟩⟩
    have frt := re4.new nt
    have m24 := mlot.trans (((Mv.of s9).trans m5).trans m4)
    refine lc_range (lo := 0) (n := (1 + y).toNat) (fun j H5 => ∃ (os : List (Option Int)), ReelAt H5 r ∧ Mv r H4 H5 ∧ H5 t = some (.lst (os.map pvO)) ∧ os.length = j ∧ ∀ o ∈ os, goodO o)
      ⟨[], re4.store frt, (Mv.refl r H4).upd nt, upd_same, rfl, fun o ho => by cases ho⟩ (fun j H5 hj ⟨os, re5, m5, et5, los, hos⟩ => ?_) (fun H5 ⟨os, re5, m45, et5, los, hos⟩ => ?_)
    · have hj8 : j < 8 := by omega
      refine ⟨rfl, yesT ?_⟩
      refine ⟨.ref r, rfl, .int lot, rfl, lot, rfl, re5, l0, l1, fun o H6 re6 m6 go => ?_⟩
      have et6 := m6.keep t _ frt et5
      exact ⟨os.map pvO, et6, by rw [List.length_map]; exact small1000 (by omega), os ++ [o], re6.store frt, (m5.trans m6).upd nt, by rw [upd_same, List.map_append]; rfl, by rw [List.length_append, los]; rfl, fun x hx => by
        rcases List.mem_append.mp hx with hx | hx
        · exact hos x hx
        · rw [List.mem_singleton.mp hx]; exact go⟩
    · -- append
      have m25 := m24.trans m45
      have ef5 := m25.keep fp _ frf e2
      have E29 : P29 = 100000000000000000000000000000 := rfl
      refine ⟨.ref fp, rfl, .inl ⟨rfl, _, SqL.of ef5⟩, .ref t, rfl, .int lot, rfl, 10, 29, rfl, rfl, ⟨by decide, by decide, by decide⟩, lot, _, rfl, small_le (by show 2 ≤ 1000; decide), fun p2 np2 => ?_⟩
      have hu : (if (10 : Int) ^ (29 : Int).toNat < lot then (10 : Int) ^ (29 : Int).toNat else lot) = lot := if_neg (by rw [p29]; omega)
      rw [hu]
      have et8 : Hw (fun b => W b ∨ b = fp) H5 t = some (.lst (os.map pvO)) := by
        rw [Hw.at (W := fun b => W b ∨ b = fp) (fun z => z.elim ((hW.mv re4 (m2.trans m24)).out nt) fun z => by rw [z, m24.keep fp _ frf e2] at nt; cases nt)]
        exact et5
      have s9 : Same H5 (upd H5 p2 (.tup [.ref t, .int lot])) := same_upd np2
      have ep2 : (upd H5 p2 (.tup [.ref t, .int lot])) p2 = some (.tup [.ref t, .int lot]) := upd_same
      have np2f : p2 ≠ fp := fun z => by rw [z, ef5] at np2; cases np2
      have nWp : ¬ (W p2 ∨ p2 = fp) := fun z => z.elim ((hW.mv re5 (m2.trans m25)).out np2) np2f
      have mv9 := Mv.of (r := r) s9
      generalize hH9 : upd H5 p2 (.tup [.ref t, .int lot]) = H9 at s9 ep2 mv9
      have lf : fvs.length = rs.length := by have := hA.length; rw [List.length_map] at this; exact this
      refine ⟨fp, _, _, rfl, rfl, s9 _ _ ef5, by exact small1000 (by omega), ?_⟩
      refine ⟨fvs ++ [.ref p2], rs ++ [(os, .int lot)], _, _, _, _, rfl, (re5.same s9).store frf, ((m2.trans m25).trans mv9).upd nfp, upd_same, by rw [List.length_append, lrs]; rfl, ?_, fun x hx => ?_, fun x hx => ?_, ?_, ?_⟩
      · rw [hw_upd (.inr rfl), List.map_append]
        have m29 := m25.trans mv9
        refine (RpAll.sm (m29.hw (W := fun b => W b ∨ b = fp) (.inl hW.reel)) hA).snoc (.tup (by rw [Hw.at (W := fun b => W b ∨ b = fp) nWp]; exact ep2) (.cons (.lst (Same.hw s9 _ _ et8) (rp_Os os)) (.cons (.int lot) .nil)))
      · rcases List.mem_append.mp hx with hx | hx
        · exact hgood x hx
        · rw [List.mem_singleton.mp hx]
          exact ⟨⟨by show 1 ≤ os.length; omega, by show os.length ≤ 8; omega, hos, decide_eq_true l0⟩, rfl⟩
      · rcases List.mem_append.mp hx with hx | hx
        · exact hw29 x hx
        · rw [List.mem_singleton.mp hx]
          exact l1
      · rw [sumW_snoc2]
        show 0 ≤ sumW rs + lot
        omega
      · rw [sumW_snoc2]
        show sumW rs + lot ≤ _
        rw [Int.natCast_add, Int.mul_add]
        show sumW rs + lot ≤ P29 * (i : Int) + P29 * 1
        omega
  · obtain ⟨fvs, rs, y3, y4, y5, y6, rfl, re2, m2, e2, lrs, hA, hgood, hw29, hs0, hs1⟩ := hP
    have n1 : 1 ≤ rs.length := by omega
    have n8 : rs.length ≤ 8 := by omega
    have sum_le : sumW rs ≤ GREAT := by
      have E29 : P29 = 100000000000000000000000000000 := rfl
      show _ ≤ (1000000000000000000000000000000 : Int)
      rw [E29] at hs1
      omega
    refine ⟨.bl b, rfl, b, rfl, ?_⟩
    have ret : ∀ {H3 : Hp}, ReelAt H3 r → Mv r H2 H3 → Q (.ref fp) H3 := fun {H3} re3 m3 => q fp rs H3 re3 (m2.trans m3) (.lst (by rw [Hw.at nWf]; exact m3.keep fp _ frf e2) (RpAll.sm (Hw.less (W := W) (W' := fun b => W b ∨ b = fp) fun b hb => .inl hb) (RpAll.sm (m3.hw (W := fun b => W b ∨ b = fp) (.inl hW.reel)) hA))) ⟨n1, n8, fun x hx => (hgood x hx).1, fun x hx => (hgood x (List.mem_of_mem_take hx)).2, sum_le⟩ hw29 (fun _ x hx => (hgood x hx).2)
    cases b with
    | true => exact iteF (iteF ⟨.ref fp, rfl, ret re2 (Mv.refl r H2)⟩)
    | false =>
    refine iteT ⟨.ref r, rfl, 3, rfl, re2, by decide, by decide, fun x3 H3 re3 m3 _ _ => ⟨x3, 0, rfl, rfl, _, rfl, ?_⟩⟩
    have e3 := m3.keep fp _ frf e2
    have hA3 := RpAll.sm (m3.hw (W := fun b => W b ∨ b = fp) (.inl hW.reel)) hA
    refine ite2 (fun _ => ?_) (fun _ => ?_)
    · obtain ⟨rs', row, rfl⟩ : ∃ rs' row, rs = rs' ++ [row] := ⟨rs.dropLast, rs.getLast (by intro z; rw [z] at n1; exact absurd n1 (by decide)), (List.dropLast_concat_getLast _).symm⟩
      rw [List.map_append] at hA3
      obtain ⟨fvs', v, rfl, hA', hv⟩ := RpAll.unsnoc hA3
      obtain ⟨pats, m⟩ := row
      cases hv with
      | @tup b xs _ hb hxs =>
        cases hxs with
        | @cons vt _ _ _ ht hxs2 =>
          cases hxs2 with
          | @cons vm _ _ _ hm hxs3 =>
            cases hxs3
            have hb' := Hw.sub _ _ _ _ hb
            refine ⟨.ref fp, rfl, 1, rfl, fp, _, -1, .ref b, rfl, rfl, SqL.of e3, atI_last _ _, b, _, 0, vt, rfl, rfl, SqT.of hb', atI_nat (j := 0) rfl, small_le (by show 2 ≤ 1000; decide), fun p np => ?_⟩
            have s4 : Same H3 (upd H3 p (.tup [vt, .non])) := same_upd np
            have ep : (upd H3 p (.tup [vt, .non])) p = some (.tup [vt, .non]) := upd_same
            have npf : p ≠ fp := fun z => by rw [z, e3] at np; cases np
            have npr : p ≠ r := re3.new np
            have nWp : ¬ (W p ∨ p = fp) := fun z => z.elim ((hW.mv re3 (m2.trans m3)).out np) npf
            generalize hH4 : upd H3 p (.tup [vt, .non]) = H4 at s4 ep
            have re4 := re3.same s4
            have m4 := (m2.trans m3).trans (Mv.of (r := r) s4)
            refine ⟨.ref fp, rfl, 1, rfl, fp, _, -1, fvs'.length, rfl, rfl, s4 _ _ e3, by rw [List.length_append]; exact ix_last _, ?_⟩
            refine ⟨.ref fp, rfl, q fp (rs' ++ [(pats, PyData.none)]) _ (re4.store frf) (m4.upd nfp) (.lst (by rw [Hw.at nWf]; exact upd_same) ?_) ?_ ?_ (fun z => by cases z)⟩
            · have hX : RpAll (Hw (fun b => W b ∨ b = fp) H4) (fvs' ++ [.ref p]) ((rs' ++ [(pats, PyData.none)]).map rowD) := by
                rw [List.map_append]
                exact (RpAll.sm (Same.hw s4) hA').snoc (.tup (by rw [Hw.at (W := fun b => W b ∨ b = fp) nWp]; exact ep) (.cons (Rp.sm (Same.hw s4) ht) (.cons .non .nil)))
              have hs : (fvs' ++ [V.ref b]).set fvs'.length (.ref p) = fvs' ++ [.ref p] := by simp
              rw [hs]
              refine RpAll.sm (Hw.less (W := W) (W' := fun b => W b ∨ b = fp) fun b hb => .inl hb) ?_
              rw [hw_upd (.inr rfl)]
              exact hX
            · rw [List.length_append, List.length_singleton] at n8
              have hrow := hgood (pats, m) (List.mem_append_right _ (List.mem_singleton.mpr rfl))
              refine ⟨by rw [List.length_append, List.length_singleton]; omega, by rw [List.length_append, List.length_singleton]; exact n8, fun x hx => ?_, fun x hx => ?_, ?_⟩
              · rcases List.mem_append.mp hx with hx | hx
                · exact (hgood x (List.mem_append_left _ hx)).1
                · rw [List.mem_singleton.mp hx]
                  exact ⟨hrow.1.lo, hrow.1.hi, hrow.1.pat, rfl⟩
              · have : x ∈ rs' := by
                  rw [List.length_append, List.length_singleton, Nat.add_sub_cancel, List.take_left'  rfl] at hx
                  exact hx
                exact (hgood x (List.mem_append_left _ this)).2
              · rw [sumW_snoc2] at sum_le ⊢
                have hm0 : 0 ≤ worth m := by
                  have := hrow.1.many
                  cases m with
                  | int i => exact of_decide_eq_true this
                  | _ => exact Int.le_refl 0
                show sumW rs' + 0 ≤ GREAT
                have sl : sumW rs' + worth m ≤ GREAT := sum_le
                omega
            · intro x hx
              rcases List.mem_append.mp hx with hx | hx
              · exact hw29 x (List.mem_append_left _ hx)
              · rw [List.mem_singleton.mp hx]
                show (0 : Int) ≤ P29
                decide
    · exact ⟨.ref fp, rfl, ret re3 m3⟩
end
end CL
set_option Elab.async false
set_option linter.all false
set_option maxRecDepth 100000
set_option maxHeartbeats 2000000
namespace CL
open PySem PySem.Spec PyProof.Rows L2 GE
/-! ### how much a thing weighs -/
mutual
def wt : PyData → Nat
  | .none => 4
  | .bool _ => 5
  | .int i => i.natAbs.log2 + 4
  | .str x => (reprText x).length
  | .list xs => wtAll xs + 4
  | .tuple xs => wtAll xs + 4
  | .dict kvs => kvs.length * 100000000 + 2
def wtAll : List PyData → Nat
  | [] => 0
  | x :: xs => wt x + 2 + wtAll xs
end
structure B (k u : Nat) (d : PyData) : Prop where
  dp : d.depth ≤ k
  wt : wt d ≤ u
  sh : d.showable = true
theorem B.mono {k u k' u' : Nat} {d : PyData} (b : B k u d) (hk : k ≤ k') (hu : u ≤ u') : B k' u' d := ⟨Nat.le_trans b.dp hk, Nat.le_trans b.wt hu, b.sh⟩
theorem all_bnd {k u : Nat} : ∀ {ds : List PyData}, (∀ x ∈ ds, B k u x) → PyData.depthAll ds ≤ k ∧ wtAll ds ≤ ds.length * (u + 2) ∧ PyData.showableAll ds = true
  | [], _ => ⟨Nat.zero_le _, by simp [wtAll], by simp [PyData.showableAll]⟩
  | x :: ds, h => by
    obtain ⟨h1, h2, h3⟩ := all_bnd (ds := ds) fun y hy => h y (List.mem_cons_of_mem _ hy)
    have hx := h x List.mem_cons_self
    refine ⟨?_, ?_, ?_⟩
    · show max _ _ ≤ k
      exact Nat.max_le.mpr ⟨hx.dp, h1⟩
    · show wt x + 2 + wtAll ds ≤ _
      rw [List.length_cons, Nat.add_mul]
      have := hx.wt
      omega
    · simp [PyData.showableAll, hx.sh, h3]
theorem B.list {k u n : Nat} {ds : List PyData} (h : ∀ x ∈ ds, B k u x) (hn : ds.length ≤ n) : B (k + 1) (n * (u + 2) + 4) (.list ds) := by
  obtain ⟨h1, h2, h3⟩ := all_bnd h
  have := Nat.mul_le_mul_right (u + 2) hn
  refine ⟨?_, ?_, ?_⟩
  · show PyData.depthAll ds + 1 ≤ k + 1
    omega
  · show wtAll ds + 4 ≤ _
    omega
  · simp [PyData.showable, h3]
theorem B.tuple {k u n : Nat} {ds : List PyData} (h : ∀ x ∈ ds, B k u x) (hn : ds.length ≤ n) : B (k + 1) (n * (u + 2) + 4) (.tuple ds) := by
  obtain ⟨h1, h2, h3⟩ := all_bnd h
  have := Nat.mul_le_mul_right (u + 2) hn
  refine ⟨?_, ?_, ?_⟩
  · show PyData.depthAll ds + 1 ≤ k + 1
    omega
  · show wtAll ds + 4 ≤ _
    omega
  · simp [PyData.showable, h3]
theorem b_none {k : Nat} : B k 200 .none := ⟨Nat.zero_le _, by decide, rfl⟩
theorem b_bool {k : Nat} {b : Bool} : B k 200 (.bool b) := ⟨Nat.zero_le _, by show 5 ≤ 200; decide, rfl⟩
theorem b_int {k : Nat} {i : Int} (h : i.natAbs < 2 ^ 140) : B k 200 (.int i) := by
  have h1 : i.natAbs.log2 < 140 := PySem.Flt.log2_lt_of (by decide) h
  exact ⟨Nat.zero_le _, by show i.natAbs.log2 + 4 ≤ 200; omega, by simp [PyData.showable]; omega⟩
/-- a list of lo to hi things, each P -/
def Ls (lo hi : Nat) (P : PyData → Prop) (d : PyData) : Prop := ∃ ds, d = .list ds ∧ lo ≤ ds.length ∧ ds.length ≤ hi ∧ ∀ x ∈ ds, P x
def Tp (n : Nat) (P : PyData → Prop) (d : PyData) : Prop := ∃ ds, d = .tuple ds ∧ ds.length ≤ n ∧ ∀ x ∈ ds, P x
/-! ### evaluation where nothing but the reel changes -/
abbrev Gam := List (V × PyData)
def GOk (W : Addr → Prop) (H : Hp) (G : Gam) : Prop := ∀ p ∈ G, Rp (Hw W H) p.1 p.2
theorem GOk.mv {r : Addr} {W : Addr → Prop} {H H' : Hp} {G : Gam} (g : GOk W H G) (m : Mv r H H') (h : W r) : GOk W H' G := fun p hp => Rp.sm (m.hw h) (g p hp)
theorem GOk.cons {W : Addr → Prop} {H : Hp} {G : Gam} {v : V} {d : PyData} (g : GOk W H G) (h : Rp (Hw W H) v d) : GOk W H ((v, d) :: G) := fun p hp => by
  rcases List.mem_cons.mp hp with e | hp
  · rw [e]; exact h
  · exact g p hp
structure Se (r : Addr) (W : Addr → Prop) (G : Gam) (H : Hp) : Prop where
  re : ReelAt H r
  wk : Wk W H r
  ok : GOk W H G
theorem Se.mv {r : Addr} {W : Addr → Prop} {G : Gam} {H H' : Hp} (s : Se r W G H) (re : ReelAt H' r) (m : Mv r H H') : Se r W G H' := ⟨re, s.wk.mv re m, s.ok.mv m s.wk.reel⟩
theorem Se.same {r : Addr} {W : Addr → Prop} {G : Gam} {H H' : Hp} (s : Se r W G H) (m : Same H H') : Se r W G H' := s.mv (s.re.same m) (Mv.of m)
section
variable {r : Addr} {W : Addr → Prop} {G : Gam} {σ : L2.St}
def Ev (r : Addr) (W : Addr → Prop) (G : Gam) (σ : L2.St) (te : TE) (P : PyData → Prop) : Prop := ∀ H Q, Se r W G H → (∀ v d H', ReelAt H' r → Mv r H H' → Rp (Hw W H') v d → P d → Q v H') → te σ H Q
def EvI (r : Addr) (W : Addr → Prop) (G : Gam) (σ : L2.St) (te : TE) (P : Int → Prop) : Prop := ∀ H Q, Se r W G H → (∀ i H', ReelAt H' r → Mv r H H' → P i → Q (.int i) H') → te σ H Q
def EvA (r : Addr) (W : Addr → Prop) (G : Gam) (σ : L2.St) (ta : TA) (n : Nat) (P : PyData → Prop) : Prop := ∀ H Q, Se r W G H → (∀ vs ds H', ReelAt H' r → Mv r H H' → RpAll (Hw W H') vs ds → ds.length = n → (∀ x ∈ ds, P x) → Q vs H') → ta σ H Q
theorem Ev.imp {te : TE} {P P' : PyData → Prop} (e : Ev r W G σ te P) (h : ∀ d, P d → P' d) : Ev r W G σ te P' := fun H Q s q => e H Q s fun v d H' re m rp p => q v d H' re m rp (h d p)
theorem EvI.imp {te : TE} {P P' : Int → Prop} (e : EvI r W G σ te P) (h : ∀ d, P d → P' d) : EvI r W G σ te P' := fun H Q s q => e H Q s fun i H' re m p => q i H' re m (h i p)
theorem EvI.ev {te : TE} {P : Int → Prop} {P' : PyData → Prop} (e : EvI r W G σ te P) (h : ∀ i, P i → P' (.int i)) : Ev r W G σ te P' := fun H Q s q => e H Q s fun i H' re m p => q _ _ H' re m (.int i) (h i p)
theorem ev_int {i : Int} : EvI r W G σ (tC (.int i)) (· = i) := fun H Q s q => q i H s.re (Mv.refl r H) rfl
theorem ev_non {P : PyData → Prop} (h : P .none) : Ev r W G σ (tC .non) P := fun H Q s q => q _ _ H s.re (Mv.refl r H) .non h
theorem ev_bl {b : Bool} {P : PyData → Prop} (h : P (.bool b)) : Ev r W G σ (tC (.bl b)) P := fun H Q s q => q _ _ H s.re (Mv.refl r H) (.bl b) h
theorem ev_str {x : Str} {P : PyData → Prop} (h : P (.str x)) : Ev r W G σ (tC (.str x)) P := fun H Q s q => q _ _ H s.re (Mv.refl r H) (.str x) h
theorem ev_var {i : Nat} {v : V} {d : PyData} {P : PyData → Prop} (h1 : σ[i]? = some (some v)) (h2 : (v, d) ∈ G) (h : P d) : Ev r W G σ (tVar i) P := fun H Q s q => ⟨v, h1, q v d H s.re (Mv.refl r H) (s.ok _ h2) h⟩
theorem ev_varI {i : Nat} {x : Int} (h1 : σ[i]? = some (some (.int x))) : EvI r W G σ (tVar i) (· = x) := fun H Q s q => ⟨.int x, h1, q x H s.re (Mv.refl r H) rfl⟩
theorem eva_nil {P : PyData → Prop} : EvA r W G σ tNil 0 P := fun H Q s q => q [] [] H s.re (Mv.refl r H) .nil rfl (fun _ h => nomatch h)
theorem eva_cons {te : TE} {ta : TA} {n : Nat} {P : PyData → Prop} (e : Ev r W G σ te P) (a : EvA r W G σ ta n P) : EvA r W G σ (tCons te ta) (n + 1) P := fun H Q s q =>
  e H _ s fun v d H1 re1 m1 rp1 p1 => a H1 _ (s.mv re1 m1) fun vs ds H2 re2 m2 rp2 l2 p2 => q (v :: vs) (d :: ds) H2 re2 (m1.trans m2) (.cons (Rp.sm (m2.hw s.wk.reel) rp1) rp2) (by rw [List.length_cons, l2]) fun x hx => by
    rcases List.mem_cons.mp hx with z | z
    · rw [z]; exact p1
    · exact p2 x z
theorem ev_lst {ta : TA} {n : Nat} {P : PyData → Prop} (a : EvA r W G σ ta n P) (hn : n ≤ 1000 := by decide) : Ev r W G σ (tLst ta) (Ls n n P) := fun H Q s q =>
  a H _ s fun vs ds H1 re1 m1 rp1 l1 p1 => ⟨small_le (by rw [rp1.length]; omega), fun p np => q (.ref p) (.list ds) _ (re1.same (same_upd np)) (m1.trans (Mv.of (same_upd np)))
    (.lst (by rw [Hw.at ((s.wk.mv re1 m1).out np)]; exact upd_same) (RpAll.sm (Same.hw (same_upd np)) rp1)) ⟨ds, rfl, Nat.le_of_eq l1.symm, Nat.le_of_eq l1, p1⟩⟩
theorem ev_tup {ta : TA} {n : Nat} {P : PyData → Prop} (a : EvA r W G σ ta n P) (hn : n ≤ 1000 := by decide) : Ev r W G σ (tTup ta) (Tp n P) := fun H Q s q =>
  a H _ s fun vs ds H1 re1 m1 rp1 l1 p1 => ⟨small_le (by rw [rp1.length]; omega), fun p np => q (.ref p) (.tuple ds) _ (re1.same (same_upd np)) (m1.trans (Mv.of (same_upd np)))
    (.tup (by rw [Hw.at ((s.wk.mv re1 m1).out np)]; exact upd_same) (RpAll.sm (Same.hw (same_upd np)) rp1)) ⟨ds, rfl, Nat.le_of_eq l1, p1⟩⟩
theorem rp_list {H : Hp} {v : V} {ds : List PyData} (h : Rp H v (.list ds)) : ∃ p xs, v = .ref p ∧ H p = some (.lst xs) ∧ RpAll H xs ds := by
  cases h with
  | lst h1 h2 => exact ⟨_, _, rfl, h1, h2⟩
theorem ev_cat {ta tb : TE} {l1 h1 l2 h2 : Nat} {P : PyData → Prop} (a : Ev r W G σ ta (Ls l1 h1 P)) (b : Ev r W G σ tb (Ls l2 h2 P)) (hn : h1 ≤ 1000 := by decide) (hm : h2 ≤ 1000 := by decide) : Ev r W G σ (tOp rCat ta tb) (Ls (l1 + l2) (h1 + h2) P) := fun H Q s q =>
  a H _ s fun v d H1 re1 m1 rp1 ⟨ds, e1, a1, b1, p1⟩ => b H1 _ (s.mv re1 m1) fun v2 d2 H2 re2 m2 rp2 ⟨es, e2, a2, b2, p2⟩ => by
    subst e1 e2
    obtain ⟨p, xs, rfl, hp, hx⟩ := rp_list (Rp.sm (m2.hw s.wk.reel) rp1)
    obtain ⟨p', ys, rfl, hp', hy⟩ := rp_list rp2
    refine ⟨p, p', xs, ys, rfl, rfl, Hw.sub W H2 _ _ hp, Hw.sub W H2 _ _ hp', small_add (by rw [hx.length]; omega) (by rw [hy.length]; omega), fun t nt => q (.ref t) (.list (ds ++ es)) _ (re2.same (same_upd nt)) ((m1.trans m2).trans (Mv.of (same_upd nt)))
      (.lst (by rw [Hw.at ((s.wk.mv re2 (m1.trans m2)).out nt)]; exact upd_same) (RpAll.sm (Same.hw (same_upd nt)) (hx.append hy))) ⟨ds ++ es, rfl, by rw [List.length_append]; omega, by rw [List.length_append]; omega, fun x hx => (List.mem_append.mp hx).elim (p1 x) (p2 x)⟩⟩
theorem RpAll.drop {H : Hp} : ∀ {vs : List V} {ds : List PyData} (n : Nat), RpAll H vs ds → RpAll H (vs.drop n) (ds.drop n)
  | _, _, 0, h => h
  | _, _, _ + 1, .nil => .nil
  | _, _, n + 1, .cons _ t => RpAll.drop n t
theorem ev_sl {K : PySem.W.Frag} {te : TE} {tl th : TO} {lo hi : Nat} {P : PyData → Prop} (a : Ev r W G σ te (Ls lo hi P)) (hl : ∀ H Q, Se r W G H → (∀ l H', ReelAt H' r → Mv r H H' → Q l H') → tl σ H Q) (hh : ∀ H Q, Se r W G H → (∀ l H', ReelAt H' r → Mv r H H' → Q l H') → th σ H Q) :
    Ev r W G σ (tSl (rSlL K) te tl th) (Ls 0 hi P) := fun H Q s q =>
  a H _ s fun v d H1 re1 m1 rp1 ⟨ds, e1, a1, b1, p1⟩ => hl H1 _ (s.mv re1 m1) fun l H2 re2 m2 => hh H2 _ (s.mv re2 (m1.trans m2)) fun u H3 re3 m3 => by
    subst e1
    obtain ⟨p, xs, rfl, hp, hx⟩ := rp_list (Rp.sm ((m2.trans m3).hw s.wk.reel) rp1)
    have m13 := m1.trans (m2.trans m3)
    refine ⟨p, xs, rfl, SqL.of (Hw.sub W H3 _ _ hp), fun t nt => q (.ref t) (.list ((ds.drop (HT.sIx xs.length 0 l)).take (HT.sIx xs.length xs.length u - HT.sIx xs.length 0 l))) _ (re3.same (same_upd nt)) (m13.trans (Mv.of (same_upd nt)))
      (.lst (by rw [Hw.at ((s.wk.mv re3 m13).out nt)]; exact upd_same) (RpAll.sm (Same.hw (same_upd nt)) ((hx.drop _).take _))) ⟨_, rfl, Nat.zero_le _, ?_, fun x hx => p1 x (List.mem_of_mem_drop (List.mem_of_mem_take hx))⟩⟩
    rw [List.length_take, List.length_drop]
    omega
theorem part_none : ∀ H (Q : Option Int → Hp → Prop), Se r W G H → (∀ l H', ReelAt H' r → Mv r H H' → Q l H') → tNoPart σ H Q := fun H Q s q => q none H s.re (Mv.refl r H)
theorem part_some {te : TE} {P : Int → Prop} (e : EvI r W G σ te P) : ∀ H (Q : Option Int → Hp → Prop), Se r W G H → (∀ l H', ReelAt H' r → Mv r H H' → Q l H') → tPart te σ H Q := fun H Q s q => e H _ s fun i H' re m _ => ⟨i, rfl, q (some i) H' re m⟩
theorem ev_draw {tm : TE} {m : Int} (e : EvI r W G σ tm (· = m)) (h0 : σ[0]? = some (some (.ref r))) (h1 : 1 ≤ m) (h2 : m < 2 ^ 140) : EvI r W G σ (tCall (spDraw r) [] E0 (tCons (tVar 0) (tCons tm tNil))) (fun x => 0 ≤ x ∧ x < m) := fun H Q s q =>
  ⟨.ref r, h0, e H _ s fun i H1 re1 m1 e1 => ⟨m, by rw [e1]; rfl, re1, h1, h2, fun x H' re' m' x0 x1 => q x H' re' (m1.trans m') ⟨x0, x1⟩⟩⟩
theorem ev_ix {K : PySem.W.Frag} {ta ti : TE} {lo hi : Nat} {P : PyData → Prop} (a : Ev r W G σ ta (Ls lo hi P)) (b : EvI r W G σ ti (fun x => 0 ≤ x ∧ x < (lo : Int))) : Ev r W G σ (tOp (rIxL K) ta ti) P := fun H Q s q =>
  a H _ s fun v d H1 re1 m1 rp1 ⟨ds, e1, a1, b1, p1⟩ => b H1 _ (s.mv re1 m1) fun i H2 re2 m2 hi => by
    subst e1
    obtain ⟨p, xs, rfl, hp, hx⟩ := rp_list (Rp.sm (m2.hw s.wk.reel) rp1)
    obtain ⟨j, rfl⟩ : ∃ j : Nat, i = (j : Int) := ⟨i.toNat, (Int.toNat_of_nonneg hi.1).symm⟩
    have hj : j < xs.length := by have := hx.length; omega
    obtain ⟨d, hd, hr⟩ := hx.get (List.getElem?_eq_getElem hj)
    exact ⟨p, xs, j, xs[j], rfl, rfl, SqL.of (Hw.sub W H2 _ _ hp), atI_nat (List.getElem?_eq_getElem hj), q _ d H2 re2 (m1.trans m2) hr (p1 d (List.mem_of_getElem? hd))⟩
theorem ev_rep {ta ti : TE} {lo hi : Nat} {k : Nat} {P : PyData → Prop} (a : Ev r W G σ ta (Ls lo hi P)) (b : EvI r W G σ ti (fun x => x ≤ (k : Int) ∧ -1000 ≤ x)) (h1 : hi ≤ 1000 := by decide) (hk : hi * k ≤ 1000 := by decide) (hk2 : k ≤ 1000 := by decide) : Ev r W G σ (tOp rRep ta ti) (Ls 0 (hi * k) P) := fun H Q s q =>
  a H _ s fun v d H1 re1 m1 rp1 ⟨ds, e1, a1, b1, p1⟩ => b H1 _ (s.mv re1 m1) fun i H2 re2 m2 hi' => by
    subst e1
    obtain ⟨p, xs, rfl, hp, hx⟩ := rp_list (Rp.sm (m2.hw s.wk.reel) rp1)
    have hl := hx.length
    have kk : i.toNat ≤ k := by omega
    have hmul : xs.length * i.toNat ≤ hi * k := Nat.mul_le_mul (by omega) kk
    have rep : ∀ n : Nat, RpAll (Hw W H2) (List.replicate n xs).flatten (List.replicate n ds).flatten := fun n => by
      induction n with
      | zero => exact .nil
      | succ n ih =>
        rw [List.replicate_succ, List.replicate_succ, List.flatten_cons, List.flatten_cons]
        exact hx.append ih
    refine ⟨p, i, xs, rfl, rfl, Hw.sub W H2 _ _ hp, by omega, by omega, small_le (by omega), fun t nt => q (.ref t) (.list (List.replicate i.toNat ds).flatten) _ (re2.same (same_upd nt)) ((m1.trans m2).trans (Mv.of (same_upd nt)))
      (.lst (by rw [Hw.at ((s.wk.mv re2 (m1.trans m2)).out nt)]; exact upd_same) (RpAll.sm (Same.hw (same_upd nt)) (rep _))) ⟨_, rfl, Nat.zero_le _, ?_, fun x hx => ?_⟩⟩
    · have := (rep i.toNat).length
      rw [← this]
      rw [List.length_flatten, List.map_replicate, List.sum_replicate_nat]
      rw [Nat.mul_comm]
      exact hmul
    · obtain ⟨l, hl, hxl⟩ := List.mem_flatten.mp hx
      rw [(List.mem_replicate.mp hl).2] at hxl
      exact p1 x hxl
theorem ev_len {K : PySem.W.Frag} {i : Nat} {v : V} {ds : List PyData} (h1 : σ[i]? = some (some v)) (h2 : (v, PyData.list ds) ∈ G) :
    EvI r W G σ (tCB (fun xs H Q => ∃ p ys, xs = [.ref p] ∧ (SqL K H p ys ∨ SqT K H p ys) ∧ Q (.int ys.length) H) (tCons (tVar i) tNil)) (· = (ds.length : Int)) := fun H Q s q => by
  obtain ⟨p, xs, rfl, hp, hx⟩ := rp_list (s.ok _ h2)
  exact ⟨.ref p, h1, p, xs, rfl, .inl (SqL.of (Hw.sub W H _ _ hp)), q _ H s.re (Mv.refl r H) (by rw [hx.length])⟩
theorem evi_add {ta tb : TE} {x y : Int} (a : EvI r W G σ ta (· = x)) (b : EvI r W G σ tb (· = y)) : EvI r W G σ (tOp (rI0 fun i j => .int (i + j)) ta tb) (· = x + y) := fun H Q s q =>
  a H _ s fun i H1 re1 m1 e1 => b H1 _ (s.mv re1 m1) fun j H2 re2 m2 e2 => ⟨i, j, rfl, rfl, q _ H2 re2 (m1.trans m2) (by rw [e1, e2])⟩
theorem evi_sub {ta tb : TE} {x y : Int} (a : EvI r W G σ ta (· = x)) (b : EvI r W G σ tb (· = y)) : EvI r W G σ (tOp (rI0 fun i j => .int (i - j)) ta tb) (· = x - y) := fun H Q s q =>
  a H _ s fun i H1 re1 m1 e1 => b H1 _ (s.mv re1 m1) fun j H2 re2 m2 e2 => ⟨i, j, rfl, rfl, q _ H2 re2 (m1.trans m2) (by rw [e1, e2])⟩
theorem evi_pow {x y : Int} (h : CPow x y) : EvI r W G σ (tOp (rI CPow fun i j => .int (i ^ j.toNat)) (tC (.int x)) (tC (.int y))) (· = x ^ y.toNat) := fun H Q s q =>
  ⟨x, y, rfl, rfl, h, q _ H s.re (Mv.refl r H) rfl⟩
theorem evi_neg {x : Int} : EvI r W G σ (tUn (rU fun i => .int (-i)) (tC (.int x))) (· = -x) := fun H Q s q => ⟨x, rfl, q _ H s.re (Mv.refl r H) rfl⟩
theorem ev_set {te : TE} {i : Nat} {P : PyData → Prop} {D : Ends} {H : Hp} (e : Ev r W G σ te P) (s : Se r W G H) (h : ∀ v d H', Se r W ((v, d) :: G) H' → Mv r H H' → P d → D.nx (σ.set i (some v)) H') : tAsg te (gName i) D σ H :=
  e H _ s fun v d H' re m rp p => h v d H' ⟨re, s.wk.mv re m, (s.ok.mv m s.wk.reel).cons rp⟩ m p
theorem evi_set {te : TE} {i : Nat} {P : Int → Prop} {D : Ends} {H : Hp} (e : EvI r W G σ te P) (s : Se r W G H) (h : ∀ x H', Se r W G H' → Mv r H H' → P x → D.nx (σ.set i (some (.int x))) H') : tAsg te (gName i) D σ H :=
  e H _ s fun x H' re m p => h x H' (s.mv re m) m p
end
end CL
set_option Elab.async false
set_option linter.all false
set_option maxRecDepth 100000
set_option maxHeartbeats 4000000
namespace CL
open PySem PySem.Spec PyProof.Rows L2 GE
/-! ### a def that is called where no repr is under way -/
structure FnG (P : Program) (w : World) (K : PySem.W.Frag) (mg : Str → Option Value) (base : Heap) (k : Nat) (f : Addr) (fd : FuncData) (ps : List Str) (sp : Sp) : Prop where
  run : ∀ (A : Around) (outer : List Env) (s : Shared) (H : Hp) (args : Args) (us : List Value) (vs : List V) (Q : VK) (E : XK), A.guards = some [] → Room k A → Env0 P w K mg base A outer s H → BindsTo s fd args (ps.zip us) → Vals vs us → sp vs H Q E →
    codeAny (model P w) A (.call (.ref f) args) (CR CX0 outer P w H s Q E) s
theorem fng_of {P : Program} {w : World} {K : PySem.W.Frag} {mg : Str → Option Value} {base : Heap} {x qual : Str} {st : Stmt} {f : Addr} {fd : FuncData} {N ps : List Str} {k : Nat} {sp : Sp} (F : Fun K x qual st f fd) (S : FnScope N ps (defScope st)) (len : ∀ vs H Q E, sp vs H Q E → vs.length = ps.length)
    (hbody : ∀ (cdv : Value) (A : Around) (outer : List Env) (s : Shared) (H : Hp) (vs : List V) (Q : VK) (E : XK), A.guards = some [] → Room k (A.deeper (envOfC qual (defScope st) s.heap.objs.size f cdv)) → sp vs H Q E →
      ∃ t, PSs (cxOf CX0 P w K mg base N qual (defScope st) f cdv A outer s H E).nox (defBody st) t ∧ t { nx := fun _ H' => Q .non H', rt := Q } (start N vs) H) : FnG P w K mg base (k + 1) f fd ps sp := by
  obtain ⟨oc, od, kV, doc, pm, an, cdv, ct, osl, rfl, lk, hcd⟩ := F.ex
  constructor
  intro A outer s H args us vs Q E hgd hr e0 hb r hsp
  have hl : vs.length = ps.length := len _ _ _ _ hsp
  have up : ∀ b o, base.get? b = some o → s.heap.get? b = some o := fun b o e => (e0.bs b o e).1
  have KX : K.In s.heap := e0.mod.kin.keeps up
  have pk : ∀ y ∈ ps.zip us, (defScope st).names.lookup y.1 = some .local ∨ ((defScope st).names.lookup y.1 = some .cell ∧ ((cellsFrom (s.heap.objs.size + 1) (defScope st).names []).lookup y.1).isSome = true) := by
    rintro ⟨n, v⟩ hy
    exact (S.par n (List.of_mem_zip hy).1).imp id fun q => ⟨q, PySem.W.cellsFrom_some _ _ _ (.inl q)⟩
  refine codeAny_call_function hr.depth (KX _ _ lk) rfl S.co S.gen rfl (PySem.W.codeRec_of KX hcd) (hb _ _ _ _ (wpAny_newFunctionEnv_cells S.kind pk fun env he s1 x => ?_))
  subst he
  obtain ⟨t, ht, hq⟩ := hbody cdv A outer s H vs Q E hgd (hr.deeper _) hsp
  refine ⟨(e0.mod.nolimit.keeps up).keeps x.toInCall.keep, codeAny_func (wpAny_mono (ht.nox.run [] s1 (start N vs) H _ (inv_start S hr.hd e0 hl r x) hq) (fun fl s' hs => ?_) fun _ _ z => z)⟩
  cases fl with
  | ret u =>
    obtain ⟨v, _, H', J, rv, z⟩ := hs
    exact ⟨v, H', J.os, J.bare, J.base, J.hok, rv, z⟩
  | next =>
    obtain ⟨_, H', J, z⟩ := hs
    exact ⟨.non, H', J.os, J.bare, J.base, J.hok, rfl, z⟩
  | brk => exact (let ⟨_, _, _, z⟩ := hs; z : False).elim
  | cont => exact (let ⟨_, _, _, z⟩ := hs; z : False).elim
/-! ### repr of data -/
section
variable {X : Cx} {pins : List (Addr × Obj)} {σ : L2.St} {H : Hp} {s : Shared}
mutual
theorem Rp.reads (hsys : ∃ o, X.base.get? sysModules = some o) (I : Inv X pins σ H s) : ∀ (d : PyData) (v : V) (u : Value), Rp H v d → RelV v u → ∃ as, Reads s.heap u d as ∧ sysModules ∉ as
  | .none, _, _, h, r => by cases h; cases r; exact ⟨_, Reads.none, by simp⟩
  | .bool b, _, _, h, r => by cases h; cases r; exact ⟨_, Reads.bool b, by simp⟩
  | .int i, _, _, h, r => by cases h; obtain ⟨t, rfl⟩ := r; exact ⟨_, Reads.int i t, by simp⟩
  | .str x, _, _, h, r => by cases h; obtain ⟨t, rfl⟩ := r; exact ⟨_, Reads.str x t, by simp⟩
  | .list ds, _, _, h, r => by
    cases h with
    | @lst a xs _ hs ha =>
      cases r
      obtain ⟨its, rv, ⟨o, n, ho, hc, _, hd⟩, _⟩ := I.list (SqL.of hs)
      obtain ⟨as, hr, hn⟩ := RpAll.reads hsys I ds _ its ha rv
      refine ⟨_, Reads.list ho hc hd hr, fun z => (List.mem_cons.mp z).elim (fun e => ?_) hn⟩
      obtain ⟨o1, ho1⟩ := hsys
      have z := (I.bs _ _ ho1).2
      rw [e, hs] at z
      cases z
  | .tuple ds, _, _, h, r => by
    cases h with
    | tup hs ha =>
      cases r
      obtain ⟨its, rv, ⟨o, ho, hc, n, hd⟩, _⟩ := I.tuple (SqT.of hs)
      obtain ⟨as, hr, hn⟩ := RpAll.reads hsys I ds _ its ha rv
      exact ⟨_, Reads.tuple ho hc hd hr, hn⟩
  | .dict kvs, _, _, h, r => by
    cases h with
    | @dct a hs =>
      cases r
      obtain ⟨_, hne, vs, kv, o, es, ep, ho, hx, hd, _, hp, _⟩ := (show ObjOk X.prog X.w H s.heap a (.dK []) from I.hok a _ hs)
      cases kv
      have e0 : es.toList = [] := List.eq_nil_of_length_eq_zero hp.length
      refine ⟨_, Reads.dict ho hx.1 hd (by rw [e0]; exact .nil) (by rw [e0]; exact .nil), fun z => ?_⟩
      have z' : sysModules = a := by simpa using z
      rw [z'] at hne
      simp at hne
theorem RpAll.reads (hsys : ∃ o, X.base.get? sysModules = some o) (I : Inv X pins σ H s) : ∀ (ds : List PyData) (vs : List V) (us : List Value), RpAll H vs ds → Vals vs us → ∃ as, ReadsAll s.heap us ds as ∧ sysModules ∉ as
  | [], _, _, h, r => by cases h; cases r; exact ⟨_, ReadsAll.nil, by simp⟩
  | d :: ds, _, _, h, r => by
    cases h with
    | cons h1 h2 =>
      cases r with
      | cons r1 r2 =>
        obtain ⟨as, q1, n1⟩ := Rp.reads hsys I d _ _ h1 r1
        obtain ⟨bs, q2, n2⟩ := RpAll.reads hsys I ds _ _ h2 r2
        exact ⟨_, ReadsAll.cons q1 q2, fun z => (List.mem_append.mp z).elim n1 n2⟩
end
end
/-! ### how long a thing is, shown -/
theorem piled_le {ts : List Str} : ∀ {ds : List PyData}, ts = PyData.shownAll ds → (∀ d ∈ ds, d.shown.length ≤ wt d) → piled ts ≤ wtAll ds
  | [], e, _ => by rw [e]; exact Nat.le_refl 0
  | d :: ds, e, h => by
    have ih := piled_le (ts := PyData.shownAll ds) rfl fun x hx => h x (List.mem_cons_of_mem _ hx)
    have h1 := h d List.mem_cons_self
    rw [e]
    show d.shown.length + 2 + piled (PyData.shownAll ds) ≤ wt d + 2 + wtAll ds
    omega
theorem list_len (ts : List Str) : (listText ts).length ≤ piled ts + 2 := by
  cases ts with
  | nil => decide +kernel
  | cons t r =>
    have h := textFrom_length_pos r 1 (("[" : Str) ++ (if (0 : Nat) > 0 then ", " else "" : String) ++ t) (Nat.succ_pos 0)
    have hX : (listText (t :: r)).length = (textFrom 1 (("[" : Str) ++ (if (0 : Nat) > 0 then ", " else "" : String) ++ t) r).length + 1 := by
      show (textFrom 1 _ r ++ "]").length = _
      rw [Str.length_append]
      rfl
    have e1 : ((("[" : Str) ++ (if (0 : Nat) > 0 then ", " else "" : String) ++ t) : Str).length = 1 + t.length := by
      rw [Str.length_append, Str.length_append]
      rfl
    have e2 : piled (t :: r) = t.length + 2 + piled r := rfl
    omega
theorem tuple_len (ts : List Str) : (tupleText ts).length ≤ piled ts + 3 := by
  have h : (Str.join ", " ts).length ≤ piled ts := by
    by_cases e : ts = []
    · rw [e]; decide +kernel
    · have := join_length_add ts e
      omega
  unfold tupleText
  rw [Str.length_append, Str.length_append]
  have h1 : (("(" : Str)).length = 1 := by decide +kernel
  have h2 : ((if ts.length == 1 then ",)" else ")" : String) : Str).length ≤ 2 := by
    split <;> decide +kernel
  omega
mutual
theorem shown_le : ∀ d : PyData, wt d ≤ 10000000 → d.showable = true → d.shown.length ≤ wt d
  | .none, _, _ => by decide +kernel
  | .bool b, _, _ => by cases b <;> decide +kernel
  | .int i, _, _ => by
    have h := int_text_length_le (a := i) (k := i.natAbs.log2 + 1) (Nat.succ_pos _) (Nat.lt_succ_self _)
    show (Str.ofString (toString i)).length ≤ i.natAbs.log2 + 4
    rw [PySem.ofString_length]
    omega
  | .str x, _, _ => Nat.le_refl _
  | .list ds, h, s => by
    have h1 := shown_all ds (by have : wt (.list ds) = wtAll ds + 4 := rfl; omega) (by simpa [PyData.showable] using s)
    have h2 := piled_le rfl h1
    have h3 := list_len (PyData.shownAll ds)
    show (listText (PyData.shownAll ds)).length ≤ wtAll ds + 4
    omega
  | .tuple ds, h, s => by
    have h1 := shown_all ds (by have : wt (.tuple ds) = wtAll ds + 4 := rfl; omega) (by simpa [PyData.showable] using s)
    have h2 := piled_le rfl h1
    have h3 := tuple_len (PyData.shownAll ds)
    show (tupleText (PyData.shownAll ds)).length ≤ wtAll ds + 4
    omega
  | .dict [], _, _ => by decide +kernel
  | .dict (x :: kvs), h, _ => by
    have : wt (.dict (x :: kvs)) = (kvs.length + 1) * 100000000 + 2 := rfl
    omega
theorem shown_all : ∀ ds : List PyData, wtAll ds ≤ 10000000 → PyData.showableAll ds = true → ∀ d ∈ ds, d.shown.length ≤ wt d
  | [], _, _, d, hd => nomatch hd
  | x :: ds, h, s, d, hd => by
    have e : wtAll (x :: ds) = wt x + 2 + wtAll ds := rfl
    have s' : x.showable = true ∧ PyData.showableAll ds = true := by simpa [PyData.showableAll] using s
    rcases List.mem_cons.mp hd with z | z
    · rw [z]
      exact shown_le x (by omega) s'.1
    · exact shown_all ds (by omega) s'.2 d z
end
/-! ### repr(x) of a list or a tuple -/
theorem call_reprD {X : Cx} {k : Nat} (hg : X.A.guards = some []) (hr : Room k X.A) (hsys : ∃ o, X.base.get? sysModules = some o) :
    CallR X (.builtin "repr") (fun xs H Q => ∃ v d a, xs = [v] ∧ v = .ref a ∧ Rp H v d ∧ B 100 10000000 d ∧ Q (.str d.shown) H) := by
  intro pins s σ H xs us Q I r h
  obtain ⟨v, d, a, rfl, rfl, hR, hB, q⟩ := h
  obtain ⟨u, rfl, rx⟩ := vals1 r
  obtain ⟨as, hrd, hno⟩ := Rp.reads hsys I d _ _ hR rx
  cases rx
  refine repr_of_reads' hrd hB.sh (fun _ => hno) hg (by have := hr.un; have := hB.dp; omega) (fun _ _ e => e) (fun h' u tk hk => ⟨.str _, H, I.kept hk, ⟨_, rfl⟩, q⟩) ?_
  have h1 := shown_le d hB.wt hB.sh
  have h2 := hB.wt
  rw [sizeLine_eq]
  omega
end CL
set_option Elab.async false
set_option linter.all false
set_option maxRecDepth 100000
set_option maxHeartbeats 4000000
namespace CL
open PySem PySem.Spec PyProof.Rows L2 GE
section
variable {r : Addr} {W : Addr → Prop} {G : Gam} {σ : L2.St}
def EvX (r : Addr) (W : Addr → Prop) (G : Gam) (σ : L2.St) (te : TE) (d : PyData) : Prop := Ev r W G σ te (· = d)
def EvXs (r : Addr) (W : Addr → Prop) (G : Gam) (σ : L2.St) (ta : TA) (ds : List PyData) : Prop := ∀ H Q, Se r W G H → (∀ vs H', ReelAt H' r → Mv r H H' → RpAll (Hw W H') vs ds → Q vs H') → ta σ H Q
theorem xi {te : TE} {n : Int} (e : EvI r W G σ te (· = n)) : EvX r W G σ te (.int n) := e.ev fun i h => by rw [h]
theorem xi_neg {te : TE} {n : Int} (e : EvI r W G σ te (· = n)) : EvI r W G σ (tUn (rU fun i => .int (-i)) te) (· = -n) := fun H Q s q => e H _ s fun i H' re m h => ⟨i, rfl, q _ H' re m (by rw [h])⟩
theorem x_non : EvX r W G σ (tC .non) .none := ev_non rfl
theorem x_bl {b : Bool} : EvX r W G σ (tC (.bl b)) (.bool b) := ev_bl rfl
theorem x_str {x : Str} : EvX r W G σ (tC (.str x)) (.str x) := ev_str rfl
theorem x_var {i : Nat} {v : V} {d : PyData} (h1 : σ[i]? = some (some v)) (h2 : (v, d) ∈ G) : EvX r W G σ (tVar i) d := ev_var h1 h2 rfl
theorem x_dict : EvX r W G σ tDNewK (.dict []) := fun H Q s q => fun p np => q (.ref p) (.dict []) _ (s.re.same (same_upd np)) (Mv.of (same_upd np)) (.dct (by rw [Hw.at (s.wk.out np)]; exact upd_same)) rfl
theorem xs_nil : EvXs r W G σ tNil [] := fun H Q s q => q [] H s.re (Mv.refl r H) .nil
theorem xs_cons {te : TE} {ta : TA} {d : PyData} {ds : List PyData} (e : EvX r W G σ te d) (a : EvXs r W G σ ta ds) : EvXs r W G σ (tCons te ta) (d :: ds) := fun H Q s q =>
  e H _ s fun v d' H1 re1 m1 rp1 p1 => a H1 _ (s.mv re1 m1) fun vs H2 re2 m2 rp2 => q (v :: vs) H2 re2 (m1.trans m2) (.cons (by rw [← p1]; exact Rp.sm (m2.hw s.wk.reel) rp1) rp2)
theorem x_lst {ta : TA} {ds : List PyData} (a : EvXs r W G σ ta ds) (hn : ds.length ≤ 1000 := by first | decide | (simp only [List.length_cons, List.length_nil]; decide)) : EvX r W G σ (tLst ta) (.list ds) := fun H Q s q =>
  a H _ s fun vs H1 re1 m1 rp1 => ⟨small_le (by rw [rp1.length]; exact hn), fun p np => q (.ref p) (.list ds) _ (re1.same (same_upd np)) (m1.trans (Mv.of (same_upd np)))
    (.lst (by rw [Hw.at ((s.wk.mv re1 m1).out np)]; exact upd_same) (RpAll.sm (Same.hw (same_upd np)) rp1)) rfl⟩
theorem x_tup {ta : TA} {ds : List PyData} (a : EvXs r W G σ ta ds) (hn : ds.length ≤ 1000 := by first | decide | (simp only [List.length_cons, List.length_nil]; decide)) : EvX r W G σ (tTup ta) (.tuple ds) := fun H Q s q =>
  a H _ s fun vs H1 re1 m1 rp1 => ⟨small_le (by rw [rp1.length]; exact hn), fun p np => q (.ref p) (.tuple ds) _ (re1.same (same_upd np)) (m1.trans (Mv.of (same_upd np)))
    (.tup (by rw [Hw.at ((s.wk.mv re1 m1).out np)]; exact upd_same) (RpAll.sm (Same.hw (same_upd np)) rp1)) rfl⟩
theorem rp_rep {H : Hp} {xs : List V} {ds : List PyData} (hx : RpAll H xs ds) : ∀ n : Nat, RpAll H (List.replicate n xs).flatten (List.replicate n ds).flatten
  | 0 => .nil
  | n + 1 => by
    rw [List.replicate_succ, List.replicate_succ, List.flatten_cons, List.flatten_cons]
    exact hx.append (rp_rep hx n)
theorem x_rep (n : Nat) {ta : TE} {ds : List PyData} (a : EvX r W G σ ta (.list ds)) (h1 : ds.length * n ≤ 1000 := by decide) (h2 : n ≤ 1000 := by decide) : EvX r W G σ (tOp rRep ta (tC (.int (n : Int)))) (.list (List.replicate n ds).flatten) := fun H Q s q =>
  a H _ s fun v d H1 re1 m1 rp1 e1 => by
    subst e1
    obtain ⟨p, xs, rfl, hp, hx⟩ := rp_list rp1
    have hl := hx.length
    have e : ((n : Int)).toNat = n := rfl
    refine ⟨p, n, xs, rfl, rfl, Hw.sub W H1 _ _ hp, by omega, by omega, small_le (by rw [e, hl]; exact h1), fun t nt => q (.ref t) (.list (List.replicate n ds).flatten) _ (re1.same (same_upd nt)) (m1.trans (Mv.of (same_upd nt)))
      (.lst (by rw [Hw.at ((s.wk.mv re1 m1).out nt)]; exact upd_same) (RpAll.sm (Same.hw (same_upd nt)) (rp_rep hx n))) rfl⟩
theorem x_cat {ta tb : TE} {ds es : List PyData} (a : EvX r W G σ ta (.list ds)) (b : EvX r W G σ tb (.list es)) (hn : ds.length ≤ 1000 := by decide) (hm : es.length ≤ 1000 := by decide) : EvX r W G σ (tOp rCat ta tb) (.list (ds ++ es)) := fun H Q s q =>
  a H _ s fun v d H1 re1 m1 rp1 e1 => b H1 _ (s.mv re1 m1) fun v2 d2 H2 re2 m2 rp2 e2 => by
    subst e1 e2
    obtain ⟨p, xs, rfl, hp, hx⟩ := rp_list (Rp.sm (m2.hw s.wk.reel) rp1)
    obtain ⟨p', ys, rfl, hp', hy⟩ := rp_list rp2
    exact ⟨p, p', xs, ys, rfl, rfl, Hw.sub W H2 _ _ hp, Hw.sub W H2 _ _ hp', small_add (by rw [hx.length]; exact hn) (by rw [hy.length]; exact hm), fun t nt => q (.ref t) (.list (ds ++ es)) _ (re2.same (same_upd nt)) ((m1.trans m2).trans (Mv.of (same_upd nt)))
      (.lst (by rw [Hw.at ((s.wk.mv re2 (m1.trans m2)).out nt)]; exact upd_same) (RpAll.sm (Same.hw (same_upd nt)) (hx.append hy))) rfl⟩
/-- one of a list that is known -/
theorem x_ix {K : PySem.W.Frag} {ta ti : TE} {ds : List PyData} (a : EvX r W G σ ta (.list ds)) (b : EvI r W G σ ti (fun x => 0 ≤ x ∧ x < (ds.length : Int))) : Ev r W G σ (tOp (rIxL K) ta ti) (· ∈ ds) := fun H Q s q =>
  a H _ s fun v d H1 re1 m1 rp1 e1 => b H1 _ (s.mv re1 m1) fun i H2 re2 m2 hi => by
    subst e1
    obtain ⟨p, xs, rfl, hp, hx⟩ := rp_list (Rp.sm (m2.hw s.wk.reel) rp1)
    obtain ⟨j, rfl⟩ : ∃ j : Nat, i = (j : Int) := ⟨i.toNat, (Int.toNat_of_nonneg hi.1).symm⟩
    have hj : j < xs.length := by have := hx.length; omega
    obtain ⟨d, hd, hr⟩ := hx.get (List.getElem?_eq_getElem hj)
    exact ⟨p, xs, j, xs[j], rfl, rfl, SqL.of (Hw.sub W H2 _ _ hp), atI_nat (List.getElem?_eq_getElem hj), q _ d H2 re2 (m1.trans m2) hr (List.mem_of_getElem? hd)⟩
end

section
variable {r : Addr} {W : Addr → Prop} {G : Gam} {σ : L2.St}
theorem ev_catG {ta tb : TE} {PA PB PC : PyData → Prop} (a : Ev r W G σ ta PA) (b : Ev r W G σ tb PB) (h : ∀ d e, PA d → PB e → ∃ ds es, d = .list ds ∧ e = .list es ∧ ds.length ≤ 1000 ∧ es.length ≤ 1000 ∧ PC (.list (ds ++ es))) : Ev r W G σ (tOp rCat ta tb) PC := fun H Q s q =>
  a H _ s fun v d H1 re1 m1 rp1 e1 => b H1 _ (s.mv re1 m1) fun v2 d2 H2 re2 m2 rp2 e2 => by
    obtain ⟨ds, es, z1, z2, hn, hm, hc⟩ := h d d2 e1 e2
    subst z1 z2
    obtain ⟨p, xs, rfl, hp, hx⟩ := rp_list (Rp.sm (m2.hw s.wk.reel) rp1)
    obtain ⟨p', ys, rfl, hp', hy⟩ := rp_list rp2
    exact ⟨p, p', xs, ys, rfl, rfl, Hw.sub W H2 _ _ hp, Hw.sub W H2 _ _ hp', small_add (by rw [hx.length]; exact hn) (by rw [hy.length]; exact hm), fun t nt => q (.ref t) (.list (ds ++ es)) _ (re2.same (same_upd nt)) ((m1.trans m2).trans (Mv.of (same_upd nt)))
      (.lst (by rw [Hw.at ((s.wk.mv re2 (m1.trans m2)).out nt)]; exact upd_same) (RpAll.sm (Same.hw (same_upd nt)) (hx.append hy))) hc⟩
end
end CL
set_option Elab.async false
set_option linter.all false
set_option pp.maxSteps 500
set_option maxRecDepth 100000
set_option maxHeartbeats 4000000
namespace CL
open PySem PySem.Spec PyProof.Rows L2 GE
/-! ### how many the rows bring -/
/-- the last number by which people come, none without end -/
def lastPast (d : PyData) : Option Int := ((piecesOf d).getLast?).bind (·.2.1)
theorem lastPast_of {d : PyData} {ps : List PieceT} {pc : PieceT} (e : piecesOf d = ps ++ [pc]) : lastPast d = pc.2.1 := by
  unfold lastPast
  rw [e, List.getLast?_concat]
  rfl
def manyO : PyData → Option Int
  | .int m => some m
  | _ => none
def szs (rs : List RowT) : List (Option Int) := rs.map fun x => manyO x.2
def numsR (rs : List RowT) : List Int := (szs rs).filterMap id
def dueO (rs : List RowT) : Option Int := if (szs rs).any (·.isNone) = true then none else some (numsR rs).sum
theorem opts_some : ∀ {os : List (Option Int)}, os.any (·.isNone) = false → os.map optV = (os.filterMap id).map V.int
  | [], _ => rfl
  | none :: os, h => by cases h
  | some i :: os, h => by
    have ih := opts_some (os := os) h
    show V.int i :: os.map optV = V.int i :: (os.filterMap id).map V.int
    rw [ih]
theorem szs_nums {rs : List RowT} (h : (szs rs).any (·.isNone) = false) : (szs rs).map optV = (numsR rs).map V.int := opts_some h
theorem nums_sum : ∀ {rs : List RowT}, (∀ x ∈ rs, isMany x.2 = true) → (numsR rs).sum = sumW rs
  | [], _ => rfl
  | x :: rs, h => by
    have ih := nums_sum (rs := rs) fun y hy => h y (List.mem_cons_of_mem _ hy)
    have hx := h x List.mem_cons_self
    obtain ⟨t, m⟩ := x
    cases m with
    | int i =>
      show (i :: numsR rs).sum = i + sumW rs
      rw [List.sum_cons, ih]
    | none =>
      show (numsR rs).sum = 0 + sumW rs
      rw [ih]
      omega
    | _ => cases hx
theorem worth_nn {x : RowT} (h : isMany x.2 = true) : 0 ≤ worth x.2 := by
  obtain ⟨t, m⟩ := x
  cases m with
  | int i => exact of_decide_eq_true h
  | _ => exact Int.le_refl 0
theorem sumW_cons (x : RowT) (rs : List RowT) : sumW (x :: rs) = worth x.2 + sumW rs := rfl
theorem sumW_nn : ∀ {rs : List RowT}, (∀ x ∈ rs, isMany x.2 = true) → 0 ≤ sumW rs
  | [], _ => Int.le_refl 0
  | x :: rs, h => by
    have ih := sumW_nn (rs := rs) fun y hy => h y (List.mem_cons_of_mem _ hy)
    have := worth_nn (h x List.mem_cons_self)
    rw [sumW_cons]
    omega
theorem worth_le : ∀ {rs : List RowT}, (∀ x ∈ rs, isMany x.2 = true) → ∀ x ∈ rs, worth x.2 ≤ sumW rs
  | y :: rs, h, x, hx => by
    have h1 := worth_nn (h y List.mem_cons_self)
    have h2 := sumW_nn (rs := rs) fun y hy => h y (List.mem_cons_of_mem _ hy)
    rw [sumW_cons]
    rcases List.mem_cons.mp hx with e | hx
    · rw [e]; omega
    · have := worth_le (rs := rs) (fun y hy => h y (List.mem_cons_of_mem _ hy)) x hx
      omega
theorem fine_snoc {rs : List RowT} (f : Fine rs) : ∃ rs' x, rs = rs' ++ [x] ∧ (∀ y ∈ rs', isNone y.2 = false) := by
  have hl := f.lo
  have hne : rs ≠ [] := fun z => by rw [z] at hl; exact absurd hl (by decide)
  refine ⟨rs.dropLast, rs.getLast hne, (List.dropLast_concat_getLast hne).symm, fun y hy => f.last y ?_⟩
  rw [List.dropLast_eq_take] at hy
  exact hy
theorem rows_last {rs : List RowT} (f : Fine rs) : lastPast (.list (rs.map rowD)) = dueO rs ∧ (∀ s, dueO rs = some s → s = sumW rs) := by
  obtain ⟨rs', x, rfl, hno⟩ := fine_snoc f
  have hn := nums_sum fun y hy => (f.row y hy).many
  have gx := (f.row x (List.mem_append_right _ List.mem_cons_self)).many
  have hany : (szs (rs' ++ [x])).any (·.isNone) = (manyO x.2).isNone := by
    unfold szs
    rw [List.map_append, List.any_append]
    have z : (rs'.map fun y => manyO y.2).any (·.isNone) = false := by
      rw [List.any_eq_false]
      intro o ho
      obtain ⟨y, hy, rfl⟩ := List.mem_map.mp ho
      have h1 := hno y hy
      have h2 := (f.row y (List.mem_append_left _ hy)).many
      cases e2 : y.2 with
      | int m => exact Bool.false_ne_true
      | none => rw [e2] at h1; cases h1
      | _ => rw [e2] at h2; cases h2
    rw [z]
    simp
  have hp : piecesOf (.list ((rs' ++ [x]).map rowD)) = pcs 0 (rs'.map rowD) ++ [(0 + sumSnd (rs'.map rowD), pastO (0 + sumSnd (rs'.map rowD)) x.2, turnsD (rowD x))] := by
    show pcs 0 ((rs' ++ [x]).map rowD) = _
    rw [List.map_append]
    exact pcs_snoc 0 (rs'.map rowD) (rowD x)
  rw [lastPast_of hp]
  show pastO (0 + sumSnd (rs'.map rowD)) x.2 = _ ∧ _
  rw [sum_rows]
  cases ex : x.2 with
  | int m =>
    have e1 : dueO (rs' ++ [x]) = some (sumW (rs' ++ [x])) := by
      unfold dueO
      rw [hany, ex, hn]
      rfl
    rw [e1]
    refine ⟨?_, fun s e => (Option.some.inj e).symm⟩
    rw [sumW_snoc2, ex]
    show some (0 + sumW rs' + m) = some (sumW rs' + m)
    rw [Int.zero_add]
  | none =>
    have e1 : dueO (rs' ++ [x]) = none := by
      unfold dueO
      rw [hany, ex]
      rfl
    rw [e1]
    exact ⟨rfl, fun s e => by cases e⟩
  | _ => rw [ex] at gx; cases gx
theorem pdO_b {o : Option Int} (h : goodO o) {k : Nat} : B k 200 (pdO o) := by
  cases o with
  | none => exact b_none
  | some i =>
    have h1 : 0 ≤ i := h.1
    have h2 : i ≤ 1000000000000000000000000000000 := h.2
    exact b_int (by omega)
theorem rows_b {rs : List RowT} (f : Fine rs) : B 10 100000 (.list (rs.map rowD)) := by
  have hsum : sumW rs ≤ 1000000000000000000000000000000 := f.sum
  have one : ∀ d ∈ rs.map rowD, B 7 4000 d := fun d hd => by
    obtain ⟨x, hx, rfl⟩ := List.mem_map.mp hd
    have g := f.row x hx
    have hb : B 6 1700 (.list (x.1.map pdO)) := (B.list (k := 5) (u := 200) (n := 8) (fun y hy => by
      obtain ⟨o, ho, rfl⟩ := List.mem_map.mp hy
      exact pdO_b (g.pat o ho)) (by rw [List.length_map]; exact g.hi)).mono (Nat.le_refl _) (by decide)
    have hm : B 6 1700 x.2 := by
      have h1 := g.many
      have h2 := worth_le (fun y hy => (f.row y hy).many) x hx
      cases e : x.2 with
      | int m =>
        rw [e] at h1 h2
        have h3 : 0 ≤ m := of_decide_eq_true h1
        have h4 : m ≤ sumW rs := h2
        exact (b_int (k := 6) (by omega)).mono (Nat.le_refl _) (by decide)
      | none => exact (b_none (k := 6)).mono (Nat.le_refl _) (by decide)
      | _ => rw [e] at h1; cases h1
    exact (B.tuple (k := 6) (u := 1700) (n := 2) (ds := [.list (x.1.map pdO), x.2]) (fun y hy => by
      rcases List.mem_cons.mp hy with e | hy
      · rw [e]; exact hb
      · rw [List.mem_singleton.mp hy]; exact hm) (Nat.le_refl 2)).mono (Nat.le_refl _) (by decide)
  exact (B.list (n := 8) one (by rw [List.length_map]; exact f.hi)).mono (by decide) (by decide)

abbrev sTot : Stmt := topS 40
abbrev nTot : List Str := ["plan", "turn", "lot"]
theorem scTot : FnScope nTot ["plan"] (defScope sTot) := ⟨rfl, rfl, rfl, by decide +kernel, rfl, by decide +kernel, by decide +kernel⟩
def totR (rs : List RowT) : Int := (dueO rs).getD GREAT
theorem last_due {rs' : List RowT} {x : RowT} (f : Fine (rs' ++ [x])) : (dueO (rs' ++ [x])).isNone = isNone x.2 := by
  have h1 := f.last
  have gx := (f.row x (List.mem_append_right _ List.mem_cons_self)).many
  have hany : (szs (rs' ++ [x])).any (·.isNone) = (manyO x.2).isNone := by
    unfold szs
    rw [List.map_append, List.any_append]
    have z : (rs'.map fun y => manyO y.2).any (·.isNone) = false := by
      rw [List.any_eq_false]
      intro o ho
      obtain ⟨y, hy, rfl⟩ := List.mem_map.mp ho
      have h1 := h1 y (by rw [List.length_append, List.length_singleton, Nat.add_sub_cancel, List.take_left' rfl]; exact hy)
      have h2 := (f.row y (List.mem_append_left _ hy)).many
      cases e2 : y.2 with
      | int m => exact Bool.false_ne_true
      | none => rw [e2] at h1; cases h1
      | _ => rw [e2] at h2; cases h2
    rw [z]
    simp
  unfold dueO
  rw [hany]
  cases e : x.2 with
  | none => rfl
  | int m => rfl
  | _ => rw [e] at gx; cases gx
/-- plan[-1][1] -/
theorem last_at {H : Hp} {v : V} {rs : List RowT} (f : Fine rs) (h : Rp H v (.list (rs.map rowD))) : ∃ p xs q c vm, v = .ref p ∧ H p = some (.lst (xs ++ [.ref q])) ∧ H q = some (.tup [c, vm]) ∧ ((dueO rs = none ∧ vm = .non) ∨ ∃ s i, dueO rs = some s ∧ vm = .int i) := by
  obtain ⟨rs', x, rfl, hno⟩ := fine_snoc f
  have gx := (f.row x (List.mem_append_right _ List.mem_cons_self)).many
  have hd := last_due f
  obtain ⟨p, xs, rfl, hp, hx⟩ := rp_list h
  rw [List.map_append] at hx
  obtain ⟨fvs', w, rfl, hA', hv⟩ := RpAll.unsnoc hx
  cases hv with
  | @tup b ys _ hb hxs =>
    cases hxs with
    | @cons vt _ _ _ ht hxs2 =>
      cases hxs2 with
      | @cons vm _ _ _ hm hxs3 =>
        cases hxs3
        refine ⟨p, fvs', b, vt, vm, rfl, hp, hb, ?_⟩
        generalize x.2 = m2 at hm gx hd
        cases hm with
        | non =>
          left
          cases z : dueO (rs' ++ [x]) with
          | none => exact ⟨rfl, rfl⟩
          | some s => rw [z] at hd; cases hd
        | int i =>
          right
          cases z : dueO (rs' ++ [x]) with
          | none => rw [z] at hd; cases hd
          | some s => exact ⟨s, i, rfl, rfl⟩
        | _ => cases gx
theorem last_rd {K : PySem.W.Frag} {H : Hp} {Q : VK} {σ : L2.St} {i : Nat} {p q : Addr} {xs : List V} {c vm : V} (hi : σ[i]? = some (some (.ref p))) (h1 : H p = some (.lst (xs ++ [.ref q]))) (h3 : H q = some (.tup [c, vm])) (k : Q vm H) :
    (tOp (rIxT K) (tOp (rIxL K) (tVar i) (tUn (rU fun i => .int (-i)) (tC (.int 1)))) (tC (.int 1))) σ H Q := ⟨.ref p, hi, 1, rfl, p, _, -1, .ref q, rfl, rfl, SqL.of h1, atI_last _ _, q, _, 1, vm, rfl, rfl, SqT.of h3, atI_nat (j := 1) rfl, k⟩
def spTot : Sp := fun vs H Q _ => ∃ v rs, vs = [v] ∧ Rp H v (.list (rs.map rowD)) ∧ Fine rs ∧ ∀ H', Same H H' → Q (.int (totR rs)) H'
section
variable {P : Program} {w : World} {K : PySem.W.Frag} {mg : Str → Option Value} {base : Heap}
theorem ok_tot {f : Addr} {fd : FuncData} (F : Fun K "_law_total" "_law_total" sTot f fd) (T : Nm mg) : FnOk P w K mg base CX0 1 f fd ["plan"] spTot := by
  refine F.ok scTot (fun vs H Q E ⟨v, rs, e, _⟩ => by rw [e]; rfl) (fun cdv A outer s H vs Q E hr h => ?_)
  obtain ⟨v, rs, rfl, hR, hF, q⟩ := h
  have nd := scTot.nd
  refine ⟨_, pss_one (ps_ret (pe_ifExp (pt_cmp (pc_isN (pe_ix ix_tup (pe_ix ix_list (pv 0) (pe_un un_neg pe_int) (fun _ _ => rfl)) pe_int (fun _ _ => rfl)))) (pe_op op_pow pe_int pe_int)
    (pe_callB (cr_sum rfl) (by rfl) T.sum (by decide +kernel) (pa_cons (pe_lc (own := [("turn", 1), ("lot", 2)]) (g := gTup K 2 (gCons (gName 1) (gCons (gName 2) gNil))) (tt := tYes) rfl nd (pi_list (pv 0)) (blkOk_by (N := nTot) (sc := defScope sTot) (by decide +kernel))
        (fun _ _ _ _ _ => pg_tup rfl (pgs_cons (pg_name (i := 1) nd rfl (.inl rfl) (.inr rfl)) (pgs_cons (pg_name (i := 2) nd rfl (.inl rfl) (.inr rfl)) pgs_nil))) (fun _ _ _ _ _ => pts_nil) (fun _ _ _ _ _ => (pv 2))) pa_nil)))), ?_⟩
  obtain ⟨p, xs, b, c, vm, rfl, h1, h2, h3⟩ := last_at hF hR
  refine last_rd rfl h1 h2 ?_
  rcases h3 with ⟨hd, rfl⟩ | ⟨s0, i0, hd, rfl⟩
  · refine ⟨_, rfl, iteT ⟨10, 30, rfl, rfl, ⟨by decide, by decide, by decide⟩, ?_⟩⟩
    have y := q H (Same.refl H)
    unfold totR at y
    rw [hd] at y
    show Q (.int ((10 : Int) ^ (30 : Int).toNat)) H
    rw [p30]
    exact y
  · refine ⟨_, rfl, iteF ?_⟩
    obtain ⟨p', xs3, ep, hp6, hx3⟩ := rp_list hR
    obtain rfl : p = p' := V.ref.inj ep
    have l8 := hF.hi
    have hl3 : xs3.length = rs.length := by rw [hx3.length, List.length_map]
    have zany : (szs rs).any (·.isNone) = false := by
      unfold dueO at hd
      cases z : (szs rs).any (·.isNone) with
      | false => rfl
      | true => rw [z] at hd; cases hd
    have hnum : s0 = (numsR rs).sum := by
      unfold dueO at hd
      rw [zany] at hd
      exact (Option.some.inj hd).symm
    refine ⟨.ref p, rfl, p, rfl, ⟨xs3, SqL.of hp6⟩, fun D hD => ?_⟩
    refine lc_list (xs := xs3) (fun j H' => H' = upd H D (.lst ((szs (rs.take j)).map optV))) rfl (fun j H' _ e => by rw [e]; exact SqL.of ((same_upd hD : Same H _) _ _ hp6)) (fun j x H' hx e => ?_) (fun H7 e => ?_)
    · subst e
      obtain ⟨dx, hdx, hRx⟩ := hx3.get hx
      obtain ⟨row, hrow, rfl⟩ : ∃ row, rs[j]? = some row ∧ dx = rowD row := by
        rw [List.getElem?_map] at hdx
        cases z : rs[j]? with
        | none => rw [z] at hdx; cases hdx
        | some y => rw [z] at hdx; cases hdx; exact ⟨y, rfl, rfl⟩
      have lj : j < rs.length := by
        obtain ⟨z, _⟩ := List.getElem?_eq_some_iff.mp hrow
        exact z
      have hma := (hF.row row (List.mem_of_getElem? hrow)).many
      cases hRx with
      | @tup b ys _ hb hys =>
        cases hys with
        | @cons vt _ _ _ hvt hys2 =>
          cases hys2 with
          | @cons vm _ _ _ hvm hys3 =>
            cases hys3
            have hb' := (same_upd hD : Same H (upd H D (.lst ((szs (rs.take j)).map optV)))) _ _ hb
            have hv : vm = optV (manyO row.2) := by
              generalize row.2 = m2 at hvm hma
              cases hvm with
              | non => rfl
              | int m => rfl
              | _ => cases hma
            subst hv
            refine ⟨b, [vt, optV (manyO row.2)], rfl, SqT.of hb', rfl, vt, [optV (manyO row.2)], rfl, optV (manyO row.2), [], rfl, rfl, rfl, yesT ?_⟩
            refine ⟨optV (manyO row.2), rfl, _, upd_same, by rw [List.length_map]; unfold szs; rw [List.length_map, List.length_take]; exact small1000 (by omega), ?_⟩
            rw [upd_upd, List.take_add_one, hrow]
            unfold szs
            rw [List.map_append, List.map_append]
            rfl
    · rw [hl3, List.take_length] at e
      subst e
      refine ⟨D, numsR rs, rfl, SqL.of (by rw [← szs_nums zany]; exact upd_same), ?_⟩
      have y := q _ (same_upd (o := .lst ((szs rs).map optV)) hD)
      unfold totR at y
      rw [hd, hnum] at y
      exact y
end
end CL
set_option Elab.async false
set_option linter.all false
set_option pp.maxSteps 500
set_option maxRecDepth 100000
set_option maxHeartbeats 4000000
namespace CL
open PySem PySem.Spec PyProof.Rows L2 GE
/-! ### the law's plan -/
def r0 : RowT := ([some 4, some 1], .int 9)
def cutR (lrs : List RowT) : List RowT := r0 :: lrs.take 7
theorem sum7 : ∀ {rs : List RowT}, (∀ x ∈ rs, worth x.2 ≤ P29) → sumW rs ≤ P29 * (rs.length : Int)
  | [], _ => by show (0 : Int) ≤ _; simp
  | x :: rs, h => by
    have ih := sum7 (rs := rs) fun y hy => h y (List.mem_cons_of_mem _ hy)
    have hx := h x List.mem_cons_self
    rw [sumW_cons, List.length_cons, Int.natCast_add, Int.mul_add]
    show worth x.2 + sumW rs ≤ P29 * (rs.length : Int) + P29 * 1
    omega
theorem cut_fine {lrs : List RowT} (f : Fine lrs) (h : ∀ x ∈ lrs, worth x.2 ≤ P29) : Fine (cutR lrs) := by
  have l1 := f.lo
  have l8 := f.hi
  have lt : (lrs.take 7).length = min 7 lrs.length := List.length_take ..
  refine ⟨by unfold cutR; rw [List.length_cons]; omega, by unfold cutR; rw [List.length_cons]; omega, fun x hx => ?_, fun x hx => ?_, ?_⟩
  · rcases List.mem_cons.mp hx with rfl | hx
    · refine ⟨by decide, by decide, fun o ho => ?_, rfl⟩
      simp only [r0, List.mem_cons, List.not_mem_nil, or_false] at ho
      rcases ho with rfl | rfl <;> first | exact ⟨by decide, by decide⟩ | trivial
    · exact f.row x (List.mem_of_mem_take hx)
  · have hx' : x ∈ (r0 :: lrs.take 7).take ((lrs.take 7).length + 1 - 1) := hx
    rw [Nat.add_sub_cancel] at hx'
    obtain ⟨n, hn⟩ : ∃ n, (lrs.take 7).length = n + 1 := ⟨(lrs.take 7).length - 1, by omega⟩
    rw [hn, List.take_succ_cons] at hx'
    rcases List.mem_cons.mp hx' with rfl | hx'
    · rfl
    · rw [List.take_take] at hx'
      refine f.last x (List.take_subset_take_left lrs (by omega) hx')
  · have hs := sum7 (rs := lrs.take 7) fun x hx => h x (List.mem_of_mem_take hx)
    show sumW (r0 :: lrs.take 7) ≤ (1000000000000000000000000000000 : Int)
    rw [sumW_cons]
    have e : worth r0.2 = 9 := rfl
    have E29 : P29 = 100000000000000000000000000000 := rfl
    rw [E29] at hs
    omega
/-! ### what is due of such a plan -/
section
variable {rs : List RowT}
theorem fl (f : Fine rs) : lastPast (.list (rs.map rowD)) = dueO rs := (rows_last f).1
theorem two_come {lrs : List RowT} (f : Fine (cutR lrs)) : ∀ s, dueO (cutR lrs) = some s → 2 ≤ s ∧ s ≤ GREAT := fun s e => by
  have h1 := (rows_last f).2 s e
  have h2 := sumW_nn (rs := lrs.take 7) fun y hy => (f.row y (List.mem_cons_of_mem _ hy)).many
  have h3 := f.sum
  have e2 : sumW (cutR lrs) = 9 + sumW (lrs.take 7) := rfl
  rw [h1]
  constructor
  · omega
  · exact h3
/-- by so many people at least, and no more than 10 ** 30 -/
def Past (o : Option Int) : Prop := ∀ s, o = some s → 2 ≤ s ∧ s ≤ GREAT

theorem tot_bnd {rs : List RowT} (h : Past (dueO rs)) : 2 ≤ totR rs ∧ totR rs ≤ 1000000000000000000000000000000 := by
  unfold totR
  cases e : dueO rs with
  | none => exact ⟨by decide, by decide⟩
  | some s =>
    obtain ⟨h1, h2⟩ := h s e
    exact ⟨h1, h2⟩
end
/-! ### what is told of the plan -/
def psR (rs : List RowT) : List PieceT := piecesOf (.list (rs.map rowD))
def bR (rs : List RowT) : Option Int := (dueO rs).map (· - 1)
/-- the last of a person -/
def LasR (rs : List RowT) (x : Int) (l : Option Int) : Prop := Las (psR rs) (bR rs) 0 x l
/-- the number of one that comes, not too far -/
structure Asks (rs : List RowT) (n : Int) : Prop where
  ok : personOk (dueO rs) (.int n) = true
  hi : n < 2 ^ 138
theorem Asks.lo {rs : List RowT} {n : Int} (h : Asks rs n) : 0 ≤ n := by
  have := h.ok
  rw [personOk_int, Bool.and_eq_true, decide_eq_true_eq] at this
  exact this.1
theorem Asks.bnd {rs : List RowT} {n : Int} (h : Asks rs n) : ∀ m, bR rs = some m → n ≤ m := fun m e => by
  have := h.ok
  rw [personOk_int, Bool.and_eq_true] at this
  unfold bR at e
  cases z : dueO rs with
  | none => rw [z] at e; cases e
  | some s =>
    rw [z] at e this
    have e2 : s - 1 = m := Option.some.inj e
    have h2 : n < s := of_decide_eq_true this.2
    omega
theorem asks_of {rs : List RowT} {n : Int} (h0 : 0 ≤ n) (hb : ∀ m, bR rs = some m → n ≤ m) (h1 : n < 2 ^ 138) : Asks rs n := by
  refine ⟨?_, h1⟩
  rw [personOk_int, decide_eq_true h0]
  cases z : dueO rs with
  | none => rfl
  | some s =>
    have := hb (s - 1) (by unfold bR; rw [z]; rfl)
    exact decide_eq_true (by omega)
/-- the state of the law: the spring, the tables, the plan -/
structure Sl (r P1 P2 : Addr) (v : V) (rs : List RowT) (H : Hp) : Prop where
  re : ReelAt H r
  tb : Tb P1 P2 H
  rp : Rp (Hw (fun b => b = r) H) v (.list (rs.map rowD))
theorem Sl.wk {r P1 P2 : Addr} {v : V} {rs : List RowT} {H : Hp} (s : Sl r P1 P2 v rs H) : Wk (fun b => b = r) H r := ⟨rfl, fun b hb => by rw [hb]; exact s.re.some⟩
theorem Sl.mv {r P1 P2 : Addr} {v : V} {rs : List RowT} {H H' : Hp} (s : Sl r P1 P2 v rs H) (re : ReelAt H' r) (m : Mv r H H') : Sl r P1 P2 v rs H' := ⟨re, s.tb.mv s.re m, Rp.sm (m.hw (W := fun b => b = r) rfl) s.rp⟩
theorem Sl.sm {r P1 P2 : Addr} {v : V} {rs : List RowT} {H H' : Hp} (s : Sl r P1 P2 v rs H) (m : Same H H') : Sl r P1 P2 v rs H' := s.mv (s.re.same m) (Mv.of m)
theorem Sl.ex {r P1 P2 : Addr} {v : V} {rs : List RowT} {H H' : Hp} (s : Sl r P1 P2 v rs H) (e : Ex H H') (t : Tb P1 P2 H') : Sl r P1 P2 v rs H' := ⟨s.re.kx e, t, Rp.ex e.hw _ _ s.rp⟩
theorem Sl.rpH {r P1 P2 : Addr} {v : V} {rs : List RowT} {H : Hp} (s : Sl r P1 P2 v rs H) : Rp H v (.list (rs.map rowD)) := Rp.sm (Hw.sub _ _) s.rp
/-- all but the spring and the tables stays -/
def Kl (r : Addr) (H H' : Hp) : Prop := ∀ b o, b ≠ r → H b = some o → (∀ ps, o ≠ .tbl ps) → H' b = some o
section
variable {r P1 P2 C C2 C3 C4 : Addr} {v : V} {rs : List RowT} {H : Hp} {Q : VK} {E : XK}
theorem parts (hF : Fine rs) : ∃ ps pc, piecesOf (.list (rs.map rowD)) = ps ++ [pc] ∧ psR rs = ps ++ [pc] ∧ pc.2.1 = dueO rs := by
  obtain ⟨ps, pc, e⟩ := plan_last (fine_plan hF)
  refine ⟨ps, pc, e, e, ?_⟩
  rw [← lastPast_of e]
  exact (rows_last hF).1
theorem psR_ok (hF : Fine rs) : PsOk (psR rs) := by
  obtain ⟨ps, pc, e, e2, _⟩ := parts hF
  rw [e2]
  exact (plOk (fine_plan hF) e).ok
theorem c_last (hF : Fine rs) (s : Sl r P1 P2 v rs H) {n : Int} (ha : Asks rs n) (q : ∀ l H', LasR rs n l → Ex H H' → Sl r P1 P2 v rs H' → Q (optV l) H') : spLastOf P1 P2 C C2 [v, .int n] H Q E := by
  obtain ⟨ps, pc, e, e2, e3⟩ := parts hF
  refine ⟨v, .int n, _, .int n, rfl, s.rpH, .int n, fun m em => by cases em; exact ha.hi, s.tb, fun z => absurd (fine_plan hF) (by rw [z]; simp), fun _ => ⟨ps, pc, e, fun z => absurd ha.ok (by rw [← e3, z]; simp), fun _ m l H' em hl ex tb => ?_⟩⟩
  cases em
  refine q l H' ?_ ex (s.ex ex tb)
  unfold LasR bR
  rw [e2, ← e3]
  exact hl
theorem c_went (hF : Fine rs) (s : Sl r P1 P2 v rs H) {n m : Int} (ha : Asks rs n) (hm : momentOk (dueO rs) (.int m) = true) (hlt : n < m) (q : ∀ l H', LasR rs n l → Ex H H' → Sl r P1 P2 v rs H' → Q (.int (pastV l n m)) H') : spWent P1 P2 C C2 C3 [v, .int n, .int m] H Q E := by
  obtain ⟨ps, pc, e, e2, e3⟩ := parts hF
  refine ⟨v, .int n, .int m, _, .int n, .int m, rfl, s.rpH, .int n, .int m, fun k em => by cases em; exact ha.hi, s.tb, fun z => absurd (fine_plan hF) (by rw [z]; simp), fun _ => ⟨ps, pc, e, fun z => absurd ha.ok (by rw [← e3, z]; simp), fun _ => ⟨fun z => absurd hm (by rw [← e3, z]; simp), fun _ n' m' en em => ?_⟩⟩⟩
  cases en
  cases em
  refine ⟨fun z => absurd z (by omega), fun _ l H' hl ex tb => q l H' ?_ ex (s.ex ex tb)⟩
  unfold LasR bR
  rw [e2, ← e3]
  exact hl
theorem c_pat (hF : Fine rs) (s : Sl r P1 P2 v rs H) {n : Int} (ha : Asks rs n) (q : ∀ t x H', Pt (psR rs) n t → isPatience t = true → Rp H' x t → Ex H H' → Sl r P1 P2 v rs H' → Q x H') : spPatOf P1 P2 C C2 [v, .int n] H Q E := by
  obtain ⟨ps, pc, e, e2, e3⟩ := parts hF
  refine ⟨v, .int n, _, .int n, rfl, s.rpH, .int n, s.tb, fun z => absurd (fine_plan hF) (by rw [z]; simp), fun _ => ⟨ps, pc, e, fun z => absurd ha.ok (by rw [← e3, z]; simp), fun _ => ?_⟩⟩
  obtain ⟨pp, hf⟩ := (plOk (fine_plan hF) e).find n (by
    have := ha.ok
    rw [personOk_int, Bool.and_eq_true, ← e3] at this
    exact this.2)
  have hps := psR_ok hF
  have hmem : pp ∈ psR rs := by rw [e2]; exact List.mem_of_find?_eq_some hf
  obtain ⟨l1, l8, lp⟩ := hps.turns pp hmem
  have hm0 := Int.emod_nonneg (n - pp.1) (show ((pp.2.2.length : Nat) : Int) ≠ 0 by omega)
  have hm1 := Int.emod_lt_of_pos (n - pp.1) (show (0 : Int) < ((pp.2.2.length : Nat) : Int) by omega)
  have hlt : ((n - pp.1) % (pp.2.2.length : Int)).toNat < pp.2.2.length := by omega
  have hg := List.getElem?_eq_getElem hlt
  have hpt : Pt (psR rs) n (pp.2.2[((n - pp.1) % (pp.2.2.length : Int)).toNat]) := ⟨pp, by rw [e2]; exact hf, hg⟩
  exact ⟨n, _, rfl, ⟨pp, by rw [e]; exact hf, by omega, hg⟩, fun x H' ex tb rp => q _ x H' hpt (pt_ok hps hpt) rp ex (s.ex ex tb)⟩
theorem c_who (hF : Fine rs) (s : Sl r P1 P2 v rs H) {n m : Int} (ha : Asks rs n) (hb : Asks rs m) (hne : n ≠ m) (q : ∀ l H', LasR rs (if m < n then m else n) l → Ex H H' → Sl r P1 P2 v rs H' → Q (.int (whoV l (if m < n then m else n) (if m > n then m else n))) H') : spWho P1 P2 C C2 C4 [v, .int n, .int m] H Q E := by
  obtain ⟨ps, pc, e, e2, e3⟩ := parts hF
  refine ⟨v, .int n, .int m, _, .int n, .int m, rfl, s.rpH, .int n, .int m, fun k em => by cases em; exact ha.hi, fun k em => by cases em; exact hb.hi, s.tb, fun z => absurd (fine_plan hF) (by rw [z]; simp), fun _ => ⟨ps, pc, e, fun z => absurd ha.ok (by rw [← e3, z]; simp), fun _ => ⟨fun z => absurd hb.ok (by rw [← e3, z]; simp), fun _ n' m' en em => ?_⟩⟩⟩
  cases en
  cases em
  refine ⟨fun z => absurd z hne, fun _ l H' hl ex tb => q l H' ?_ ex (s.ex ex tb)⟩
  unfold LasR bR
  rw [e2, ← e3]
  exact hl
theorem c_uns (hF : Fine rs) (s : Sl r P1 P2 v rs H) {m : Int} (ha : momentOk (dueO rs) (.int m) = true) (q : ∀ n H', Uns (psR rs) m n → Ex H H' → Sl r P1 P2 v rs H' → Q (.int n) H') : spUnsafe P1 P2 C C3 [v, .int m] H Q E := by
  obtain ⟨ps, pc, e, e2, e3⟩ := parts hF
  refine ⟨v, .int m, _, .int m, rfl, s.rpH, .int m, s.tb, fun z => absurd (fine_plan hF) (by rw [z]; simp), fun _ => ⟨ps, pc, e, fun z => absurd ha (by rw [← e3, z]; simp), fun _ m' n H' em hn ex tb => ?_⟩⟩
  cases em
  exact q n H' (by rw [e2]; exact hn) ex (s.ex ex tb)
theorem c_ref (hF : Fine rs) (s : Sl r P1 P2 v rs H) {m : Int} (ha : momentOk (dueO rs) (.int m) = true) (q : ∀ o H', Ref (psR rs) m o → Ex H H' → Sl r P1 P2 v rs H' → Q (optV o) H') : spRefuser P1 P2 C C3 [v, .int m] H Q E := by
  obtain ⟨ps, pc, e, e2, e3⟩ := parts hF
  refine ⟨v, .int m, _, .int m, rfl, s.rpH, .int m, s.tb, fun z => absurd (fine_plan hF) (by rw [z]; simp), fun _ => ⟨ps, pc, e, fun z => absurd ha (by rw [← e3, z]; simp), fun _ m' o H' em hn ex tb => ?_⟩⟩
  cases em
  exact q o H' (by rw [e2]; exact hn) ex (s.ex ex tb)
end
/-- how far a last may be -/
theorem las_far {ps : List PieceT} (hp : PsOk ps) {b l : Option Int} {s x : Int} (h : Las ps b s x l) : ∀ k, l = some k → k ≤ x + GREAT ∨ b = some k := by
  have G0 : (0 : Int) ≤ GREAT := by decide
  induction h with
  | spare h => exact fun k e => .inr e
  | own h h0 =>
    intro k e
    cases e
    have := (wp_le hp h).2.1
    exact .inl (by omega)
  | inn h h1 h2 _ ih =>
    intro k e
    rcases ih k e with h3 | h3
    · exact .inl h3
    · cases h3
      have := (wp_le hp h).2.1
      exact .inl (by omega)
  | skip h h1 _ ih => exact ih
/-! ### what the law asks -/
section
variable {rs : List RowT} {x : Int} {l : Option Int}
theorem bR_none (h : bR rs = none) : dueO rs = none := by
  unfold bR at h
  cases z : dueO rs with
  | none => rfl
  | some s => rw [z] at h; cases h
theorem lasR_le (ha : Asks rs x) (h : LasR rs x l) : (∀ k, l = some k → x ≤ k ∧ ∀ m, bR rs = some m → k ≤ m) ∧ (l = none → dueO rs = none) := by
  obtain ⟨i1, i2⟩ := las_le h ha.bnd
  exact ⟨i1, fun e => bR_none (i2 e)⟩
theorem lasR_far (hF : Fine rs) (hpa : Past (dueO rs)) (h : LasR rs x l) (h0 : 0 ≤ x) : ∀ k, l = some k → k ≤ x + GREAT := fun k e => by
  have G0 : GREAT = 1000000000000000000000000000000 := rfl
  rcases las_far (psR_ok hF) h k e with h1 | h1
  · exact h1
  · unfold bR at h1
    cases z : dueO rs with
    | none => rw [z] at h1; cases h1
    | some s =>
      rw [z] at h1
      have h2 : s - 1 = k := Option.some.inj h1
      have := (hpa s z).2
      omega
end
end CL
set_option Elab.async false
set_option linter.all false
set_option pp.maxSteps 400
set_option maxRecDepth 100000
set_option maxHeartbeats 4000000
namespace CL
open PySem PySem.Spec PyProof.Rows L2 GE
/-- who is ahead: the newer one just where the last of the older one is as far -/
theorem at_order {ps : List PieceT} (hp : PsOk ps) {bd s x p : Int} (h : At ps bd s x p) : ∀ {y q l : Int}, x < y → y ≤ bd → At ps bd s y q → Las ps (some bd) s x (some l) → (q < p ↔ y ≤ l) ∧ q ≠ p := by
  induction h with
  | spare h =>
    intro y q l hxy hy h' hl
    cases hl with
    | own k k0 => have := wp_uniq h k; omega
    | inn k k1 => omega
    | skip k k1 => omega
    | spare k =>
      cases h' with
      | spare _ => omega
      | own _ _ => omega
      | inn k2 k3 k4 => have := wp_uniq h k2; omega
      | skip k2 k3 k4 =>
        have := wp_uniq h k2
        have := at_in hp k4 hy
        omega
  | own h h0 =>
    intro y q l hxy hy h' hl
    cases hl with
    | spare k => have := wp_uniq h k; omega
    | inn k k1 => omega
    | skip k k1 => omega
    | own k k0 =>
      have e := wp_uniq h k
      subst e
      cases h' with
      | spare _ => omega
      | own _ _ => omega
      | inn k2 k3 k4 k5 =>
        have := wp_uniq h k2
        have := at_in hp k5 (by omega)
        omega
      | skip k2 k3 k4 =>
        have := wp_uniq h k2
        have := at_in hp k4 hy
        omega
  | inn h h1 h2 h3 ih =>
    intro y q l hxy hy h' hl
    have hr := at_in hp h3 (by omega)
    cases hl with
    | spare k => omega
    | own k k0 => omega
    | skip k k1 => have e := wp_uniq h k; subst e; omega
    | inn k k1 k2 k3 =>
      have e := wp_uniq h k
      subst e
      have hle := ((las_le k3 fun m e => by cases e; omega).1 l rfl).2 _ rfl
      cases h' with
      | spare _ => omega
      | own _ _ => omega
      | inn j j1 j2 j3 => have e := wp_uniq h j; subst e; exact ih hxy (by omega) j3 k3
      | skip j j1 j2 =>
        have e := wp_uniq h j
        subst e
        have := at_in hp j2 hy
        omega
  | skip h h1 h3 ih =>
    intro y q l hxy hy h' hl
    cases hl with
    | spare k => omega
    | own k k0 => omega
    | inn k k1 k2 => have e := wp_uniq h k; subst e; omega
    | skip k k1 k2 =>
      have e := wp_uniq h k
      subst e
      cases h' with
      | spare _ => omega
      | own _ _ => omega
      | inn j j1 j2 => have e := wp_uniq h j; subst e; omega
      | skip j j1 j2 =>
        have e := wp_uniq h j
        subst e
        obtain ⟨i1, i2⟩ := ih hxy hy j2 k2
        exact ⟨⟨fun z => i1.mp (by omega), fun z => by have := i1.mpr z; omega⟩, by omega⟩
/-- at a sooner bound: so many places less as its last goes beyond it -/
theorem at_cut {ps : List PieceT} (hp : PsOk ps) {c c' s x p : Int} (h : At ps c' s x p) : ∀ {l : Int}, x ≤ c → c < c' → Las ps (some c') s x (some l) → At ps c s x (p - (if c < l then l - c else 0)) := by
  induction h with
  | @spare c' x h =>
    intro l hx hc hl
    cases hl with
    | own k k0 => have := wp_uniq h k; omega
    | inn k k1 => omega
    | skip k k1 => omega
    | spare k =>
      rw [if_pos hc, show c' - x - (c' - c) = c - x by omega]
      exact .spare (cut_zero hp h fun m e => by cases e; exact hc)
  | @own c' x w h h0 =>
    intro l hx hc hl
    cases hl with
    | spare k => have := wp_uniq h k; omega
    | inn k k1 => omega
    | skip k k1 => omega
    | own k k0 =>
      have e := wp_uniq h k
      subst e
      by_cases cx : c < x + w - 1
      · rw [if_pos cx, show w - 1 - (x + w - 1 - c) = c - x by omega]
        exact .spare (cut_out h h0 cx)
      · rw [if_neg cx, show w - 1 - 0 = w - 1 by omega]
        exact .own (cut_in h h0 (by omega)) h0
  | @inn c' s x w p h h1 h2 h3 ih =>
    intro l hx hc hl
    cases hl with
    | spare k => omega
    | own k k0 => omega
    | skip k k1 => have e := wp_uniq h k; subst e; omega
    | inn k k1 k2 k3 =>
      have e := wp_uniq h k
      subst e
      have hle := ((las_le k3 fun m e => by cases e; omega).1 l rfl).2 _ rfl
      by_cases cx : c < s + w - 1
      · have h9 := ih hx cx k3
        have k9 := cut_out h (by omega) cx
        have h10 := At.skip (p := p - (if c < l then l - c else 0)) k9 (show s + max (0 : Int) 1 ≤ x by omega) (by rw [show s + max (0 : Int) 1 = s + 1 by omega]; exact h9)
        rw [Int.zero_add] at h10
        exact h10
      · rw [if_neg (by omega), show p - 0 = p by omega]
        exact .inn (cut_in h (by omega) (by omega)) h1 h2 h3
  | @skip c' s x w p h h1 h3 ih =>
    intro l hx hc hl
    cases hl with
    | spare k => omega
    | own k k0 => omega
    | inn k k1 k2 => have e := wp_uniq h k; subst e; omega
    | skip k k1 k2 =>
      have e := wp_uniq h k
      subst e
      have h9 := ih hx hc k2
      have w0 := wp_nn hp h
      have k9 : WP ps (some c) s w := by
        by_cases cw : w = 0
        · subst cw; exact cut_zero hp h fun m e => by cases e; exact hc
        · exact cut_in h (by omega) (by omega)
      rw [show w + p - (if c < l then l - c else 0) = w + (p - (if c < l then l - c else 0)) by omega]
      exact .skip k9 h1 h9
theorem cnt_nn {ps : List PieceT} {b : Option Int} {s e n : Int} (h : Cnt ps b s e n) : 0 ≤ n := by
  induction h with
  | here => omega
  | on _ _ ih => split <;> omega
theorem cnt_up {ps : List PieceT} (hp : PsOk ps) {b : Option Int} {s e n : Int} (h : Cnt ps b s e n) : n ≤ e - s := by
  induction h with
  | here => omega
  | on k _ ih => have := wp_nn hp k; split <;> omega
/-- those left over stand behind all others -/
theorem at_calm {ps : List PieceT} (hp : PsOk ps) {bd s x p : Int} (h : At ps bd s x p) : ∀ {n : Int}, x ≤ bd → Cnt ps (some bd) s (bd + 1) n → ((SpR ps (some bd) s x ↔ bd + 1 - s - n ≤ p)) := by
  induction h with
  | spare h =>
    intro n hx hn
    refine ⟨fun _ => ?_, fun _ => .here h⟩
    cases hn with
    | here => omega
    | on k k1 =>
      have e := wp_uniq h k
      subst e
      have := cnt_nn k1
      rw [if_pos rfl]
      omega
  | own h h0 =>
    intro n hx hn
    refine ⟨fun z => ?_, fun z => ?_⟩
    · have := wp_uniq h (spr_wp z); omega
    · cases hn with
      | here => omega
      | on k k1 =>
        have e := wp_uniq h k
        subst e
        have := cnt_up hp k1
        rw [if_neg (by omega)] at z
        omega
  | inn h h1 h2 h3 ih =>
    intro n hx hn
    have hr := at_in hp h3 (by omega)
    refine ⟨fun z => ?_, fun z => ?_⟩
    · cases z with
      | here k => omega
      | on k k1 => have e := wp_uniq h k; subst e; omega
    · cases hn with
      | here => omega
      | on k k1 =>
        have e := wp_uniq h k
        subst e
        have := cnt_up hp k1
        rw [if_neg (by omega)] at z
        omega
  | skip h h1 h3 ih =>
    intro n hx hn
    cases hn with
    | here => have := at_ge h3; omega
    | on k k1 =>
      have e := wp_uniq h k
      subst e
      have hi := ih hx k1
      have w0 := wp_nn hp h
      refine ⟨fun z => ?_, fun z => ?_⟩
      · cases z with
        | here k => have := at_ge h3; omega
        | on k k2 k3 =>
          have e := wp_uniq h k
          subst e
          have := hi.mp k3
          split <;> omega
      · refine .on h h1 (hi.mpr ?_)
        split at z <;> omega
/-- the newest stands where those begin that aren't safe ahead of it -/
theorem at_newest {ps : List PieceT} (hp : PsOk ps) {bd s x p : Int} (h : At ps bd s x p) : ∀ {n : Int}, x = bd → Cnt ps (some (bd - 1)) s bd n → p = bd - s - n := by
  induction h with
  | spare h =>
    intro n hx hn
    subst hx
    cases hn with
    | here => omega
    | on k k1 => have := cnt_le k1; omega
  | own h h0 =>
    intro n hx hn
    subst hx
    obtain ⟨q, _, h2, h3⟩ := wp_pos h h0
    have := h3 _ rfl
    cases hn with
    | here => omega
    | on k k1 => have := cnt_le k1; omega
  | @inn bd s x w p h h1 h2 h3 ih =>
    intro n hx hn
    subst hx
    obtain ⟨q, _, h4, h5⟩ := wp_pos h (by omega)
    have h6 := h5 _ rfl
    have eb : s + w - 1 = x := by omega
    rw [eb] at ih
    have k9 := cut_out (c := x - 1) h (by omega) (by omega)
    cases hn with
    | here => omega
    | on k k1 =>
      have e := wp_uniq k9 k
      subst e
      rw [show s + max (0 : Int) 1 = s + 1 by omega] at k1
      have := ih rfl k1
      rw [if_pos rfl]
      omega
  | @skip bd s x w p h h1 h3 ih =>
    intro n hx hn
    subst hx
    have w0 := wp_nn hp h
    have k9 : WP ps (some (x - 1)) s w := by
      by_cases cw : w = 0
      · subst cw; exact cut_zero hp h fun m e => by cases e; omega
      · exact cut_in h (by omega) (by omega)
    cases hn with
    | here => omega
    | on k k1 =>
      have e := wp_uniq k9 k
      subst e
      have := ih rfl k1
      split <;> omega
end CL
set_option Elab.async false
set_option linter.all false
set_option pp.maxSteps 600
set_option maxRecDepth 100000
set_option maxHeartbeats 4000000
namespace CL
open PySem PySem.Spec PyProof.Rows L2 GE
/-! ### there is a last, and a place -/
theorem las_total {ps : List PieceT} (hp : PsOk ps) : ∀ (k : Nat) {b : Option Int} {s x : Int}, (x - s).toNat = k → s ≤ x → (∀ y, s ≤ y → y ≤ x → ∃ t, Pt ps y t) → ∃ l, Las ps b s x l := fun k => by
  induction k using Nat.strongRecOn with
  | ind k ih =>
    intro b s x hk hx hpt
    obtain ⟨t, ht⟩ := hpt s (Int.le_refl _) hx
    have hw := pt_wp b ht
    generalize wd b s t = w at hw
    have w0 := wp_nn hp hw
    by_cases c0 : x = s
    · subst c0
      by_cases cw : w = 0
      · subst cw; exact ⟨_, .spare hw⟩
      · exact ⟨_, .own hw (by omega)⟩
    · by_cases c1 : x < s + w
      · obtain ⟨l, hl⟩ := ih (x - (s + 1)).toNat (by omega) (b := some (s + w - 1)) (s := s + 1) (x := x) rfl (by omega) fun y h1 h2 => hpt y (by omega) h2
        exact ⟨l, .inn hw (by omega) c1 hl⟩
      · obtain ⟨l, hl⟩ := ih (x - (s + max w 1)).toNat (by omega) (b := b) (s := s + max w 1) (x := x) rfl (by omega) fun y h1 h2 => hpt y (by omega) h2
        exact ⟨l, .skip hw (by omega) hl⟩
theorem at_total {ps : List PieceT} (hp : PsOk ps) : ∀ (k : Nat) {bd s x : Int}, (x - s).toNat = k → s ≤ x → (∀ y, s ≤ y → y ≤ x → ∃ t, Pt ps y t) → ∃ p, At ps bd s x p := fun k => by
  induction k using Nat.strongRecOn with
  | ind k ih =>
    intro bd s x hk hx hpt
    obtain ⟨t, ht⟩ := hpt s (Int.le_refl _) hx
    have hw := pt_wp (some bd) ht
    generalize wd (some bd) s t = w at hw
    have w0 := wp_nn hp hw
    by_cases c0 : x = s
    · subst c0
      by_cases cw : w = 0
      · subst cw; exact ⟨_, .spare hw⟩
      · exact ⟨_, .own hw (by omega)⟩
    · by_cases c1 : x < s + w
      · obtain ⟨l, hl⟩ := ih (x - (s + 1)).toNat (by omega) (bd := s + w - 1) (s := s + 1) (x := x) rfl (by omega) fun y h1 h2 => hpt y (by omega) h2
        exact ⟨l, .inn hw (by omega) c1 hl⟩
      · obtain ⟨l, hl⟩ := ih (x - (s + max w 1)).toNat (by omega) (bd := bd) (s := s + max w 1) (x := x) rfl (by omega) fun y h1 h2 => hpt y (by omega) h2
        exact ⟨_, .skip hw (by omega) hl⟩
theorem pt_ex {rs : List RowT} (hF : Fine rs) {n : Int} (ha : Asks rs n) : ∃ t, Pt (psR rs) n t := by
  obtain ⟨ps, pc, e, e2, e3⟩ := parts hF
  obtain ⟨pp, hf⟩ := (plOk (fine_plan hF) e).find n (by
    have := ha.ok
    rw [personOk_int, Bool.and_eq_true, ← e3] at this
    exact this.2)
  have hps := psR_ok hF
  have hmem : pp ∈ psR rs := by rw [e2]; exact List.mem_of_find?_eq_some hf
  obtain ⟨l1, l8, lp⟩ := hps.turns pp hmem
  have hm0 := Int.emod_nonneg (n - pp.1) (show ((pp.2.2.length : Nat) : Int) ≠ 0 by omega)
  have hm1 := Int.emod_lt_of_pos (n - pp.1) (show (0 : Int) < ((pp.2.2.length : Nat) : Int) by omega)
  have hlt : ((n - pp.1) % (pp.2.2.length : Int)).toNat < pp.2.2.length := by omega
  exact ⟨_, pp, by rw [e2]; exact hf, List.getElem?_eq_getElem hlt⟩
def lesser (l : Option Int) (c : Int) : Int := match l with
  | none => c
  | some k => if c < k then c else k
theorem past_less {l : Option Int} {n m : Int} : pastV l n m = lesser l (m - 1) - n := by cases l <;> rfl
/-- the last under a bound -/
theorem las_under {rs : List RowT} (hF : Fine rs) {c x : Int} {l : Option Int} (hl : LasR rs x l) (hx : x ≤ c) (hb : ∀ b, bR rs = some b → c ≤ b) : Las (psR rs) (some c) 0 x (some (lesser l c)) := by
  have hps := psR_ok hF
  by_cases e : bR rs = some c
  · have h1 : Las (psR rs) (some c) 0 x l := by have := hl; unfold LasR at this; rw [e] at this; exact this
    obtain ⟨i1, i2⟩ := las_le h1 fun k e => by cases e; exact hx
    cases l with
    | none => cases i2 rfl
    | some k =>
      have := (i1 k rfl).2 _ rfl
      rw [show lesser (some k) c = k from if_neg (by omega)]
      exact h1
  · rcases las_cut hps hl hx (fun b e2 => by
      have := hb b e2
      have : b ≠ c := fun z => e (by rw [e2, z])
      omega) with ⟨h3, h4⟩ | ⟨_, k, rfl, h4, h5⟩
    · have e3 : lesser l c = c := by
        cases l with
        | none => rfl
        | some k => exact if_pos (h4 k rfl)
      rw [e3]
      exact spr_las h3
    · rw [show lesser (some k) c = k from if_neg (by omega)]
      exact h5
/-- two moments of a plan -/
structure Mo (rs : List RowT) (one other : Int) : Prop where
  f : Fine rs
  lo : 1 ≤ one
  le : one ≤ other
  hi : other ≤ 1000000000000000000000000000000
  du : ∀ s, dueO rs = some s → other ≤ s
theorem Mo.bl {rs : List RowT} {one other : Int} (h : Mo rs one other) : ∀ b, bR rs = some b → other - 1 ≤ b := fun b e => by
  unfold bR at e
  cases z : dueO rs with
  | none => rw [z] at e; cases e
  | some s =>
    rw [z] at e
    have h2 : s - 1 = b := Option.some.inj e
    have := h.du s z
    omega
theorem p138 : (2 : Int) ^ 138 = 348449143727040986586495598010130648530944 := by decide +kernel
theorem p140 : (2 : Int) ^ 140 = 1393796574908163946345982392040522594123776 := by decide +kernel
theorem Mo.ask {rs : List RowT} {one other x : Int} (h : Mo rs one other) (h0 : 0 ≤ x) (h1 : x ≤ other - 1) : Asks rs x := by
  have := h.hi
  exact asks_of h0 (fun b e => by have := h.bl b e; omega) (by rw [p138]; omega)
theorem Mo.mom {rs : List RowT} {one other s : Int} (h : Mo rs one other) (h0 : 0 ≤ s) (h1 : s ≤ other) : momentOk (dueO rs) (.int s) = true := by
  have hh := h.hi
  rw [momentOk_int, decide_eq_true h0, decide_eq_true (show s ≤ GREAT from (show s ≤ (1000000000000000000000000000000 : Int) by omega))]
  cases z : dueO rs with
  | none => rfl
  | some t =>
    have := h.du t z
    show decide (s ≤ t) = true
    exact decide_eq_true (by omega)
theorem Mo.pts {rs : List RowT} {one other x : Int} (h : Mo rs one other) (h1 : x ≤ other - 1) : ∀ y, 0 ≤ y → y ≤ x → ∃ t, Pt (psR rs) y t := fun y y0 y1 => pt_ex h.f (h.ask y0 (by omega))
/-- one who stands there at both moments -/
structure Man (rs : List RowT) (one other x p p' : Int) : Prop where
  x0 : 0 ≤ x
  x1 : x < one
  a : At (psR rs) (one - 1) 0 x p
  b : At (psR rs) (other - 1) 0 x p'
theorem lesser_more {l : Option Int} {c c' : Int} (h : c < c') : (if c < lesser l c' then lesser l c' - c else 0) = lesser l c' - lesser l c := by
  cases l with
  | none => show (if c < c' then c' - c else 0) = c' - c; rw [if_pos h]
  | some k =>
    show (if c < (if c' < k then c' else k) then (if c' < k then c' else k) - c else 0) = (if c' < k then c' else k) - (if c < k then c else k)
    split <;> split <;> (try split) <;> omega
theorem Man.more {rs : List RowT} {one other x p p' : Int} (h : Mo rs one other) (m : Man rs one other x p p') {l : Option Int} (hl : LasR rs x l) : p' = p + (lesser l (other - 1) - lesser l (one - 1)) := by
  have hx := m.x1
  have hle := h.le
  by_cases c : one = other
  · subst c
    have := at_uniq m.a m.b
    omega
  · have h1 := at_cut (psR_ok h.f) m.b (show x ≤ one - 1 by omega) (by omega) (las_under h.f hl (show x ≤ other - 1 by omega) h.bl)
    rw [lesser_more (by omega)] at h1
    have := at_uniq m.a h1
    omega
theorem Man.calm {rs : List RowT} {one other x p p' n : Int} (h : Mo rs one other) (m : Man rs one other x p p') {l : Option Int} (hl : LasR rs x l) (hn : Uns (psR rs) one n) (hc : p < one - n) : lesser l (other - 1) = lesser l (one - 1) := by
  have hx := m.x1
  have hle := h.le
  by_cases c : one = other
  · rw [c]
  · have hn' : Cnt (psR rs) (some (one - 1)) 0 (one - 1 + 1) n := by rw [show one - 1 + 1 = one by omega]; exact hn
    have hs := at_calm (psR_ok h.f) m.a (by omega) hn'
    rcases las_cut (psR_ok h.f) hl (show x ≤ one - 1 by omega) (fun b e => by have := h.bl b e; omega) with ⟨z, _⟩ | ⟨_, k, rfl, h4, _⟩
    · have := hs.mp z; omega
    · show (if other - 1 < k then other - 1 else k) = if one - 1 < k then one - 1 else k
      rw [if_neg (by omega), if_neg (by omega)]
theorem ord1 {rs : List RowT} {one other x p p' y q q' : Int} (h : Mo rs one other) (m : Man rs one other x p p') (m2 : Man rs one other y q q') (c : x < y) : (q < p ↔ q' < p') ∧ q ≠ p ∧ q' ≠ p' := by
  have hle := h.le
  have hx := m.x1
  have hy := m2.x1
  have hps := psR_ok h.f
  obtain ⟨l, hl⟩ := las_total hps _ (b := bR rs) (s := 0) (x := x) rfl m.x0 (h.pts (by omega))
  have hl : LasR rs x l := hl
  obtain ⟨a1, a2⟩ := at_order hps m.a c (by omega) m2.a (las_under h.f hl (by omega) fun b e => by have := h.bl b e; omega)
  obtain ⟨b1, b2⟩ := at_order hps m.b c (by omega) m2.b (las_under h.f hl (by omega) h.bl)
  refine ⟨?_, a2, b2⟩
  rw [a1, b1]
  cases l with
  | none => show y ≤ one - 1 ↔ y ≤ other - 1; omega
  | some k => show (y ≤ if one - 1 < k then one - 1 else k) ↔ (y ≤ if other - 1 < k then other - 1 else k); split <;> split <;> omega
theorem Man.order {rs : List RowT} {one other x p p' y q q' : Int} (h : Mo rs one other) (m : Man rs one other x p p') (m2 : Man rs one other y q q') : decide (p < q) = decide (p' < q') := by
  rcases Int.lt_or_le x y with c | c
  · obtain ⟨a1, a2, a3⟩ := ord1 h m m2 c
    rw [decide_eq_decide]
    omega
  · rcases Int.lt_or_eq_of_le c with c | c
    · obtain ⟨a1, a2, a3⟩ := ord1 h m2 m c
      rw [decide_eq_decide]
      exact a1
    · subst c
      have h1 := at_uniq m.a m2.a
      have h2 := at_uniq m.b m2.b
      rw [h1, h2]
      simp
/-- whoever stands ahead of all that aren't safe stays -/
theorem Mo.same {rs : List RowT} {one other x y pl n : Int} (h : Mo rs one other) (hn : Uns (psR rs) one n) (hc : pl < one - n) (hx0 : 0 ≤ x) (hx1 : x < one) (hx : At (psR rs) (one - 1) 0 x pl) (hy0 : 0 ≤ y) (hy1 : y < other) (hy : At (psR rs) (other - 1) 0 y pl) : y = x := by
  have hle := h.le
  have hps := psR_ok h.f
  obtain ⟨p', hp'⟩ := at_total hps _ (bd := other - 1) (s := 0) (x := x) rfl hx0 (h.pts (by omega))
  obtain ⟨l, hl⟩ := las_total hps _ (b := bR rs) (s := 0) (x := x) rfl hx0 (h.pts (by omega))
  have hl : LasR rs x l := hl
  have m : Man rs one other x pl p' := ⟨hx0, hx1, hx, hp'⟩
  have h1 := m.more h hl
  have h2 := m.calm h hl hn hc
  have : p' = pl := by omega
  rw [this] at hp'
  exact at_one hps hy (by omega) (by omega) rfl hp'
theorem Mo.newest {rs : List RowT} {one other p n : Int} (h : Mo rs one other) (hn : Uns (psR rs) one n) (hp : At (psR rs) (one + 1 - 1) 0 one p) : p = one - n := by
  rw [show one + 1 - 1 = one by omega] at hp
  have := at_newest (psR_ok h.f) hp rfl hn
  omega
end CL
set_option Elab.async false
set_option linter.all false
set_option pp.maxSteps 600
set_option maxRecDepth 100000
set_option maxHeartbeats 4000000
namespace CL
open PySem PySem.Spec PyProof.Rows L2 GE
/-- the windows around a person -/
def RoadR (rs : List RowT) (x : Int) (S : List StepT) : Prop := Road (psR rs) (bR rs) 0 x S
/-- all lists but the spring stay -/
def KL (r : Addr) (H H' : Hp) : Prop := ∀ D zs, D ≠ r → H D = some (.lst zs) → H' D = some (.lst zs)
theorem KL.refl (r : Addr) (H : Hp) : KL r H H := fun _ _ _ h => h
theorem KL.mv {r : Addr} {H H1 H2 : Hp} (k : KL r H H1) (m : Mv r H1 H2) : KL r H H2 := fun D zs n h => m.keep D _ n (k D zs n h)
theorem KL.ex {r : Addr} {H H1 H2 : Hp} (k : KL r H H1) (e : Ex H1 H2) : KL r H H2 := fun D zs n h => e.lst (k D zs n h)
theorem KL.trans {r : Addr} {H H1 H2 : Hp} (k : KL r H H1) (k2 : KL r H1 H2) : KL r H H2 := fun D zs n h => k2 D zs n (k D zs n h)
theorem stOk_mk {m n : Int} (h0 : 0 ≤ n) (h1 : n < m) : stOk m (.int n) = true := by
  show (decide (0 ≤ n) && decide (n < m)) = true
  rw [decide_eq_true h0, decide_eq_true h1]
  rfl
section
variable {r P1 P2 C C2 C3 C4 : Addr} {v : V} {rs : List RowT} {H : Hp} {Q : VK} {E : XK} {σ : L2.St} {i j l3 : Nat}
theorem c_place (hF : Fine rs) (s : Sl r P1 P2 v rs H) {m n : Int} (hm : momentOk (dueO rs) (.int m) = true) (h0 : 0 ≤ n) (h1 : n < m) (q : ∀ p H', At (psR rs) (m - 1) 0 n p → Ex H H' → Sl r P1 P2 v rs H' → Q (.int p) H') : spPlaceOf P1 P2 C C3 C2 [v, .int m, .int n] H Q E := by
  obtain ⟨ps, pc, e, e2, e3⟩ := parts hF
  refine ⟨v, .int m, .int n, _, .int m, .int n, rfl, s.rpH, .int m, .int n, s.tb, fun z => absurd (fine_plan hF) (by rw [z]; simp), fun _ => ⟨ps, pc, e, fun z => absurd hm (by rw [← e3, z]; simp), fun _ m' em => ?_⟩⟩
  cases em
  refine ⟨fun z => absurd (stOk_mk h0 h1) (by rw [z]; simp), fun _ n' p H' en ha ex tb => ?_⟩
  cases en
  exact q p H' (by rw [e2]; exact ha) ex (s.ex ex tb)
theorem c_pers (hF : Fine rs) (s : Sl r P1 P2 v rs H) {m n : Int} (hm : momentOk (dueO rs) (.int m) = true) (h0 : 0 ≤ n) (h1 : n < m) (q : ∀ x H', At (psR rs) (m - 1) 0 x n → 0 ≤ x → x < m → Ex H H' → Sl r P1 P2 v rs H' → Q (.int x) H') : spPersonAt P1 P2 C C3 C2 [v, .int m, .int n] H Q E := by
  obtain ⟨ps, pc, e, e2, e3⟩ := parts hF
  refine ⟨v, .int m, .int n, _, .int m, .int n, rfl, s.rpH, .int m, .int n, s.tb, fun z => absurd (fine_plan hF) (by rw [z]; simp), fun _ => ⟨ps, pc, e, fun z => absurd hm (by rw [← e3, z]; simp), fun _ m' em => ?_⟩⟩
  cases em
  refine ⟨fun z => absurd (stOk_mk h0 h1) (by rw [z]; simp), fun _ n' x H' en ha x0 x1 ex tb => ?_⟩
  cases en
  exact q x H' (by rw [e2]; exact ha) x0 x1 ex (s.ex ex tb)
theorem k_place (hi : σ[i]? = some (some v)) {m n : Int} (hj : σ[j]? = some (some (.int m))) (hl : σ[l3]? = some (some (.int n))) (hF : Fine rs) (s : Sl r P1 P2 v rs H) (hm : momentOk (dueO rs) (.int m) = true) (h0 : 0 ≤ n) (h1 : n < m) (q : ∀ p H', At (psR rs) (m - 1) 0 n p → Ex H H' → Sl r P1 P2 v rs H' → Q (.int p) H') : tCall (spPlaceOf P1 P2 C C3 C2) [] E (tCons (tVar i) (tCons (tVar j) (tCons (tVar l3) tNil))) σ H Q := ⟨v, hi, .int m, hj, .int n, hl, (c_place hF s hm h0 h1 q : spPlaceOf P1 P2 C C3 C2 [v, .int m, .int n] H Q E)⟩
theorem k_place1 (hi : σ[i]? = some (some v)) {m n : Int} (hj : σ[j]? = some (some (.int m))) (hl : σ[l3]? = some (some (.int n))) (hF : Fine rs) (s : Sl r P1 P2 v rs H) (hm : momentOk (dueO rs) (.int (m + 1)) = true) (h0 : 0 ≤ n) (h1 : n < m + 1) (q : ∀ p H', At (psR rs) (m + 1 - 1) 0 n p → Ex H H' → Sl r P1 P2 v rs H' → Q (.int p) H') : tCall (spPlaceOf P1 P2 C C3 C2) [] E (tCons (tVar i) (tCons (tOp (rI0 fun i j => V.int (i + j)) (tVar j) (tC (V.int 1))) (tCons (tVar l3) tNil))) σ H Q := ⟨v, hi, .int m, hj, m, 1, rfl, rfl, .int n, hl, (c_place hF s hm h0 h1 q : spPlaceOf P1 P2 C C3 C2 [v, .int (m + 1), .int n] H Q E)⟩
theorem k_pers (hi : σ[i]? = some (some v)) {m n : Int} (hj : σ[j]? = some (some (.int m))) (hl : σ[l3]? = some (some (.int n))) (hF : Fine rs) (s : Sl r P1 P2 v rs H) (hm : momentOk (dueO rs) (.int m) = true) (h0 : 0 ≤ n) (h1 : n < m) (q : ∀ x H', At (psR rs) (m - 1) 0 x n → 0 ≤ x → x < m → Ex H H' → Sl r P1 P2 v rs H' → Q (.int x) H') : tCall (spPersonAt P1 P2 C C3 C2) [] E (tCons (tVar i) (tCons (tVar j) (tCons (tVar l3) tNil))) σ H Q := ⟨v, hi, .int m, hj, .int n, hl, (c_pers hF s hm h0 h1 q : spPersonAt P1 P2 C C3 C2 [v, .int m, .int n] H Q E)⟩
theorem k_uns (hi : σ[i]? = some (some v)) {m : Int} (hj : σ[j]? = some (some (.int m))) (hF : Fine rs) (s : Sl r P1 P2 v rs H) (ha : momentOk (dueO rs) (.int m) = true) (q : ∀ n H', Uns (psR rs) m n → Ex H H' → Sl r P1 P2 v rs H' → Q (.int n) H') : tCall (spUnsafe P1 P2 C C3) [] E (tCons (tVar i) (tCons (tVar j) tNil)) σ H Q := ⟨v, hi, .int m, hj, (c_uns hF s ha q : spUnsafe P1 P2 C C3 [v, .int m] H Q E)⟩
/-- went_past of one of a list -/
theorem k_wentL {K : PySem.W.Frag} {D : Addr} {xs : List Int} {a b : Nat} (hi : σ[i]? = some (some v)) (hD : σ[j]? = some (some (.ref D))) (hk : σ[a]? = some (some (.int (b : Int)))) {n m : Int} (eD : H D = some (.lst (xs.map V.int))) (hx : xs[b]? = some n) (hl : σ[l3]? = some (some (.int m))) (hF : Fine rs) (s : Sl r P1 P2 v rs H) (ha : Asks rs n) (hm : momentOk (dueO rs) (.int m) = true) (hlt : n < m) (q : ∀ l H', LasR rs n l → Ex H H' → Sl r P1 P2 v rs H' → Q (.int (pastV l n m)) H') :
    tCall (spWent P1 P2 C C2 C3) [] E (tCons (tVar i) (tCons (tOp (rIxL K) (tVar j) (tVar a)) (tCons (tVar l3) tNil))) σ H Q := ⟨v, hi, .ref D, hD, .int (b : Int), hk, D, _, (b : Int), .int n, rfl, rfl, SqL.of eD, atI_nat (by rw [List.getElem?_map, hx]; rfl), .int m, hl, (c_went hF s ha hm hlt q : spWent P1 P2 C C2 C3 [v, .int n, .int m] H Q E)⟩
end
theorem vib {A B : Prop} (h : A → B) (a : A) : B := h a
theorem ex_updN {H H1 : Hp} {b : Addr} {o : HO} (e : Ex H H1) (n : H b = none) : Ex H (upd H1 b o) := fun c x h => by
  rw [upd_ne (ne_of_none h n)]
  exact e c x h
theorem tb_upd {P1 P2 b : Addr} {H : Hp} {xs : List V} {o : HO} (h : Tb P1 P2 H) (e : H b = some (.lst xs)) : Tb P1 P2 (upd H b o) := h.upd fun ps z => by rw [e] at z; cases z
section
variable {r P1 P2 C C2 : Addr} {v : V} {rs : List RowT} {H : Hp} {Q : VK} {E : XK} {σ : L2.St} {i j : Nat}
theorem c_around (hF : Fine rs) (s : Sl r P1 P2 v rs H) {n : Int} (ha : Asks rs n) (q : ∀ D ws S H', Ex H H' → Sl r P1 P2 v rs H' → H' D = some (.lst ws) → StAt H' ws S → S.length ≤ 64 → RoadR rs n S → Q (.ref D) H') : spWinAr P1 P2 C C2 [v, .int n] H Q E := by
  obtain ⟨ps, pc, e, e2, e3⟩ := parts hF
  refine ⟨v, .int n, _, .int n, rfl, s.rpH, .int n, fun m em => by cases em; exact ha.hi, s.tb, fun z => absurd (fine_plan hF) (by rw [z]; simp), fun _ => ⟨ps, pc, e, fun z => absurd ha.ok (by rw [← e3, z]; simp), fun _ m D ws S H' em ex tb eD hS hl hRd => ?_⟩⟩
  cases em
  refine q D ws S H' ex (s.ex ex tb) eD hS hl ?_
  unfold RoadR bR
  rw [e2, ← e3]
  exact hRd
theorem k_around (hi : σ[i]? = some (some v)) {n : Int} (hj : σ[j]? = some (some (.int n))) (hF : Fine rs) (s : Sl r P1 P2 v rs H) (ha : Asks rs n) (q : ∀ D ws S H', Ex H H' → Sl r P1 P2 v rs H' → H' D = some (.lst ws) → StAt H' ws S → S.length ≤ 64 → RoadR rs n S → Q (.ref D) H') : tCall (spWinAr P1 P2 C C2) [] E (tCons (tVar i) (tCons (tVar j) tNil)) σ H Q := ⟨v, hi, .int n, hj, (c_around hF s ha q : spWinAr P1 P2 C C2 [v, .int n] H Q E)⟩
end
/-- who comes stands behind as many as are safe, and from then on behind as many more as went past -/
theorem sums_at {rs : List RowT} {x m p n b : Int} {l : Option Int} (h : Mo rs (x + 1) m) (hx : 0 ≤ x) (hn : Uns (psR rs) x n) (hb : At (psR rs) (x + 1 - 1) 0 x b) (hp : At (psR rs) (m - 1) 0 x p) (hl : LasR rs x l) : b = x - n ∧ p = x - n + (lesser l (m - 1) - x) := by
  have hb' : At (psR rs) x 0 x b := by rw [show x + 1 - 1 = x by omega] at hb; exact hb
  have h1 := at_newest (psR_ok h.f) hb' rfl hn
  have h2 := Man.more h ⟨hx, by omega, hb, hp⟩ hl
  have h3 := (las_le (las_under h.f hl (show x ≤ m - 1 by have := h.le; omega) h.bl) fun k e => by cases e; have := h.le; omega).1 _ rfl
  have h4 : lesser l (x + 1 - 1) = x := by
    rw [show x + 1 - 1 = x by omega]
    cases l with
    | none => rfl
    | some k =>
      have h5 := ((las_le hl (fun b e => by have := h.bl b e; have := h.le; omega)).1 k rfl).1
      show (if x < k then x else k) = x
      split <;> omega
  omega
/-! ### a list of anything, and the empty list -/
def rNeE : R2 := fun x y H Q => ∃ (a b : Addr) (xs : List V), x = .ref a ∧ y = .ref b ∧ H a = some (.lst xs) ∧ H b = some (.lst []) ∧ Q (.bl (!xs.isEmpty)) H
theorem op_neE {X : Cx} (hu : X.A.units < cLine) : OpR X (compareOp .NotEq) rNeE := by
  intro pins s σ H x y v u Q I rx ry ⟨a, b, xs, ex, ey, ha, hb, q⟩
  subst ex ey
  obtain ⟨its, rv, p1, _⟩ := I.list (SqL.of ha)
  obtain ⟨jts, rw', p2, _⟩ := I.list (SqL.of hb)
  cases rx
  cases ry
  have l1 := rv.length
  have l2 := rw'.length
  cases xs with
  | nil =>
    have e : its.toArray.size = jts.toArray.size := by rw [List.size_toArray, List.size_toArray, ← l1, ← l2]
    have e0 : its.toArray.size = 0 := by rw [List.size_toArray, ← l1]; rfl
    have z := SeqAt.RcNeAt.lists (A := X.A) (e := fun _ => true) p1.isList p2.isList e hu (fun j h1 => absurd h1 (by rw [e0]; exact Nat.not_lt_zero j))
    refine z X.prog X.w _ _ ⟨.bl _, H, I, ?_, q⟩
    rw [e0]
    rfl
  | cons x xs =>
    have e : (its.toArray.size != jts.toArray.size) = true := by
      rw [List.size_toArray, List.size_toArray, ← l1, ← l2]
      rfl
    exact SeqAt.RcNeAt.lists_lengths (A := X.A) p1.isList p2.isList e hu X.prog X.w _ _ ⟨.bl _, H, I, rfl, q⟩
theorem seqP {A B : TS} {D : Ends} {σ : L2.St} {H : Hp} (R : L2.St → Hp → Prop) (hB : ∀ σ' H', R σ' H' → B D σ' H') (hA : ∀ nx : L2.St → Hp → Prop, (∀ σ' H', R σ' H' → nx σ' H') → A { D with nx := nx } σ H) : tSeq A B D σ H := hA (B D) hB
section
variable {r P1 P2 C C2 C3 C4 : Addr} {v : V} {rs : List RowT} {H : Hp} {Q : VK} {E : XK} {σ : L2.St} {i j l3 : Nat}
theorem k_went (hi : σ[i]? = some (some v)) {n m : Int} (hj : σ[j]? = some (some (.int n))) (hl : σ[l3]? = some (some (.int m))) (hF : Fine rs) (s : Sl r P1 P2 v rs H) (ha : Asks rs n) (hm : momentOk (dueO rs) (.int m) = true) (hlt : n < m) (q : ∀ l H', LasR rs n l → Ex H H' → Sl r P1 P2 v rs H' → Q (.int (pastV l n m)) H') : tCall (spWent P1 P2 C C2 C3) [] E (tCons (tVar i) (tCons (tVar j) (tCons (tVar l3) tNil))) σ H Q := ⟨v, hi, .int n, hj, .int m, hl, (c_went hF s ha hm hlt q : spWent P1 P2 C C2 C3 [v, .int n, .int m] H Q E)⟩
theorem k_last (hi : σ[i]? = some (some v)) {n : Int} (hj : σ[j]? = some (some (.int n))) (hF : Fine rs) (s : Sl r P1 P2 v rs H) (ha : Asks rs n) (q : ∀ l H', LasR rs n l → Ex H H' → Sl r P1 P2 v rs H' → Q (optV l) H') : tCall (spLastOf P1 P2 C C2) [] E (tCons (tVar i) (tCons (tVar j) tNil)) σ H Q := ⟨v, hi, .int n, hj, (c_last hF s ha q : spLastOf P1 P2 C C2 [v, .int n] H Q E)⟩
theorem k_who (hi : σ[i]? = some (some v)) {n m : Int} (hj : σ[j]? = some (some (.int n))) (hl : σ[l3]? = some (some (.int m))) (hF : Fine rs) (s : Sl r P1 P2 v rs H) (ha : Asks rs n) (hb : Asks rs m) (hne : n ≠ m) (q : ∀ l H', LasR rs (if m < n then m else n) l → Ex H H' → Sl r P1 P2 v rs H' → Q (.int (whoV l (if m < n then m else n) (if m > n then m else n))) H') : tCall (spWho P1 P2 C C2 C4) [] E (tCons (tVar i) (tCons (tVar j) (tCons (tVar l3) tNil))) σ H Q := ⟨v, hi, .int n, hj, .int m, hl, (c_who hF s ha hb hne q : spWho P1 P2 C C2 C4 [v, .int n, .int m] H Q E)⟩
theorem k_ref (hi : σ[i]? = some (some v)) {m : Int} (hj : σ[j]? = some (some (.int m))) (hF : Fine rs) (s : Sl r P1 P2 v rs H) (ha : momentOk (dueO rs) (.int m) = true) (q : ∀ o H', Ref (psR rs) m o → Ex H H' → Sl r P1 P2 v rs H' → Q (optV o) H') : tCall (spRefuser P1 P2 C C3) [] E (tCons (tVar i) (tCons (tVar j) tNil)) σ H Q := ⟨v, hi, .int m, hj, (c_ref hF s ha q : spRefuser P1 P2 C C3 [v, .int m] H Q E)⟩
end
theorem lcC {lo c : Int} {n : Nat} {g : TG} {tt : TT} {te : TE} {vs : List Nat} {σ : L2.St} {H1 : Hp} {D : Addr} {Qd : Hp → Prop} (Pv : Nat → Hp → Prop) (h0 : Pv 0 (upd H1 D (.lst []))) (hs : ∀ i H, i < n → Pv i H → g (.int (lo + (i : Nat) * c)) (wipe σ vs) H fun σ2 H2 => wipe σ2 vs = wipe σ vs ∧ tt σ2 H2 fun b H3 => if b = true then te σ2 H3 fun y H4 => ∃ acc, H4 D = some (.lst acc) ∧ acc.length < sizeLine ∧ Pv (i + 1) (upd H4 D (.lst (acc ++ [y]))) else Pv (i + 1) H3) (hd : ∀ H, Pv n H → Qd H) :
    ∃ W : Nat → Nat → Hp → Prop, (∃ m, W 0 m (upd H1 D (.lst []))) ∧ ∀ i m H, W i m H → ((Itc lo c n).stop i H ∧ Qd H) ∨ ((Itc lo c n).go i H ∧ ∃ Nx : Hp → Prop, (∀ H', Nx H' → ∃ m', m' < m ∧ W (i + 1) m' H') ∧ ∀ x H', (Itc lo c n).yld i H x H' → g x (wipe σ vs) H' fun σ2 H2 => wipe σ2 vs = wipe σ vs ∧ tt σ2 H2 fun b H3 => if b = true then te σ2 H3 fun y H4 => ∃ acc, H4 D = some (.lst acc) ∧ acc.length < sizeLine ∧ Nx (upd H4 D (.lst (acc ++ [y]))) else Nx H3) :=
  ⟨fun i m H => m = n - i ∧ i ≤ n ∧ Pv i H, ⟨n, (Nat.sub_zero n).symm, Nat.zero_le n, h0⟩, fun i m H ⟨em, hi, hp⟩ => by
    rcases Nat.lt_or_ge i n with c1 | c1
    · exact .inr ⟨c1, Pv (i + 1), fun H' hp' => ⟨n - (i + 1), by omega, rfl, c1, hp'⟩, fun x H' ⟨e1, e2⟩ => by rw [e1, e2]; exact hs i H c1 hp⟩
    · have e3 : i = n := Nat.le_antisymm hi c1
      rw [e3] at hp
      exact .inl ⟨c1, hd H hp⟩⟩
theorem cut_mid (xs : List V) (a b : Nat) (h : b ≤ xs.length) : cutV xs (some (a : Int)) (some (b : Int)) = (xs.drop a).take (b - a) := by
  unfold cutV
  have e0 : HT.sIx xs.length 0 (some (a : Int)) = min a xs.length := HT.sIx_nat _ _ _
  have e1 : HT.sIx xs.length xs.length (some (b : Int)) = min b xs.length := HT.sIx_nat _ _ _
  rw [e0, e1, Nat.min_eq_left h]
  rcases Nat.le_total a xs.length with c | c
  · rw [Nat.min_eq_left c]
  · rw [Nat.min_eq_right c, List.drop_of_length_le (Nat.le_refl _), List.drop_of_length_le c, List.take_nil, List.take_nil]
theorem rp_ints {H : Hp} (ns : List Int) : RpAll H (ns.map V.int) ((ns.map some).map pdO) := by
  have e : ns.map V.int = (ns.map some).map pvO := by rw [List.map_map]; rfl
  rw [e]
  exact rp_Os _
theorem sl_blk {X : Cx} {s : Shared} {H : Hp} {scope : Scope} {cenv : Env} {fp : List Addr} : L2.SlR (X.blk s H scope cenv fp) (rSlL X.K) := sl_list
/-- all that the sums need of one who comes by the moment -/
theorem sums_all {rs : List RowT} {x m n : Int} {l : Option Int} (h : Mo rs (x + 1) m) (hx : 0 ≤ x) (hn : Uns (psR rs) x n) (hl : LasR rs x l) : At (psR rs) (m - 1) 0 x (x - n + pastV l x m) ∧ 0 ≤ x - n + pastV l x m ∧ x - n + pastV l x m < m ∧ At (psR rs) (x + 1 - 1) 0 x (x - n) := by
  have hps := psR_ok h.f
  have hle := h.le
  obtain ⟨p, hp⟩ := at_total hps _ (bd := m - 1) (s := 0) (x := x) rfl hx (h.pts (by omega))
  obtain ⟨b, hb⟩ := at_total hps _ (bd := x + 1 - 1) (s := 0) (x := x) rfl hx (h.pts (by omega))
  obtain ⟨h1, h2⟩ := sums_at h hx hn hb hp hl
  rw [past_less]
  obtain ⟨a1, a2⟩ := at_in hps hp (by omega)
  subst h1 h2
  exact ⟨hp, a1, by omega, hb⟩
section
variable {r P1 P2 C C2 C3 C4 : Addr} {v : V} {rs : List RowT} {H : Hp} {Q : VK} {E : XK} {σ : L2.St} {i j l3 : Nat}
theorem k_pat (hi : σ[i]? = some (some v)) {n : Int} (hj : σ[j]? = some (some (.int n))) (hF : Fine rs) (s : Sl r P1 P2 v rs H) (ha : Asks rs n) (q : ∀ t x H', Pt (psR rs) n t → isPatience t = true → Rp H' x t → Ex H H' → Sl r P1 P2 v rs H' → Q x H') : tCall (spPatOf P1 P2 C C2) [] E (tCons (tVar i) (tCons (tVar j) tNil)) σ H Q := ⟨v, hi, .int n, hj, (c_pat hF s ha q : spPatOf P1 P2 C C2 [v, .int n] H Q E)⟩
theorem c_wino (hF : Fine rs) (s : Sl r P1 P2 v rs H) {n : Int} (ha : Asks rs n) (q : ∀ S x H', RoadR rs n S → WinV H' n S x → Ex H H' → Sl r P1 P2 v rs H' → Q x H') : spWinOf P1 P2 C C2 [v, .int n] H Q E := by
  obtain ⟨ps, pc, e, e2, e3⟩ := parts hF
  refine ⟨v, .int n, _, .int n, rfl, s.rpH, .int n, fun m em => by cases em; exact ha.hi, s.tb, fun z => absurd (fine_plan hF) (by rw [z]; simp), fun _ => ⟨ps, pc, e, fun z => absurd ha.ok (by rw [← e3, z]; simp), fun _ m S x H' em hR hV ex tb => ?_⟩⟩
  cases em
  refine q S x H' ?_ hV ex (s.ex ex tb)
  unfold RoadR bR
  rw [e2, ← e3]
  exact hR
theorem k_wino (hi : σ[i]? = some (some v)) {n : Int} (hj : σ[j]? = some (some (.int n))) (hF : Fine rs) (s : Sl r P1 P2 v rs H) (ha : Asks rs n) (q : ∀ S x H', RoadR rs n S → WinV H' n S x → Ex H H' → Sl r P1 P2 v rs H' → Q x H') : tCall (spWinOf P1 P2 C C2) [] E (tCons (tVar i) (tCons (tVar j) tNil)) σ H Q := ⟨v, hi, .int n, hj, (c_wino hF s ha q : spWinOf P1 P2 C C2 [v, .int n] H Q E)⟩
end
theorem Kl.refl (r : Addr) (H : Hp) : Kl r H H := fun _ _ _ h _ => h
theorem Kl.mv {r : Addr} {H H1 H2 : Hp} (k : Kl r H H1) (m : Mv r H1 H2) : Kl r H H2 := fun b o n h t => m.keep b o n (k b o n h t)
theorem Kl.ex {r : Addr} {H H1 H2 : Hp} (k : Kl r H H1) (e : Ex H1 H2) : Kl r H H2 := fun b o n h t => e.keep (k b o n h t) t
theorem Kl.trans {r : Addr} {H H1 H2 : Hp} (k : Kl r H H1) (k2 : Kl r H1 H2) : Kl r H H2 := fun b o n h t => k2 b o n (k b o n h t) t
theorem Kl.kl {r : Addr} {H H1 : Hp} (k : Kl r H H1) : KL r H H1 := fun D zs n h => k D _ n h fun _ z => nomatch z
theorem Kl.lst {r D : Addr} {H H1 : Hp} {zs : List V} (k : Kl r H H1) (n : D ≠ r) (h : H D = some (.lst zs)) : H1 D = some (.lst zs) := k D _ n h fun _ z => nomatch z
theorem Kl.tup {r D : Addr} {H H1 : Hp} {zs : List V} (k : Kl r H H1) (n : D ≠ r) (h : H D = some (.tup zs)) : H1 D = some (.tup zs) := k D _ n h fun _ z => nomatch z
/-- the law's state, and all lists of a heap ahead but the spring stand there still -/
structure Sk (r P1 P2 : Addr) (v : V) (rs : List RowT) (H0 H : Hp) : Prop where
  s : Sl r P1 P2 v rs H
  k : Kl r H0 H
theorem Sk.mv {r P1 P2 : Addr} {v : V} {rs : List RowT} {H0 H H' : Hp} (a : Sk r P1 P2 v rs H0 H) (re : ReelAt H' r) (m : Mv r H H') : Sk r P1 P2 v rs H0 H' := ⟨a.s.mv re m, a.k.mv m⟩
theorem Sk.sm {r P1 P2 : Addr} {v : V} {rs : List RowT} {H0 H H' : Hp} (a : Sk r P1 P2 v rs H0 H) (m : Same H H') : Sk r P1 P2 v rs H0 H' := ⟨a.s.sm m, a.k.mv (Mv.of m)⟩
theorem Sk.ex {r P1 P2 : Addr} {v : V} {rs : List RowT} {H0 H H' : Hp} (a : Sk r P1 P2 v rs H0 H) (e : Ex H H') (t : Tb P1 P2 H') : Sk r P1 P2 v rs H0 H' := ⟨a.s.ex e t, a.k.ex e⟩
/-- [a call of each of a list of numbers] -/
theorem lc_ints {K : PySem.W.Frag} {P1 P2 D0 : Addr} {xs : List Int} {g : TG} {tt : TT} {te : TE} {vs : List Nat} {σ : L2.St} {H1 : Hp} {D : Addr} {Qd : Hp → Prop} (R : Int → Int → Prop) (e0 : H1 D0 = some (.lst (xs.map V.int))) (t0 : Tb P1 P2 H1) (hl : xs.length ≤ 1000) (nD : H1 D = none)
    (hs : ∀ (i : Nat) x H6 (k : VK) (F : Hp → Prop), xs[i]? = some x → Ex H1 H6 → Tb P1 P2 H6 → (∀ z H4, R x z → Ex H6 H4 → Tb P1 P2 H4 → k (.int z) H4) → g (.int x) (wipe σ vs) H6 fun σ2 H2 => wipe σ2 vs = wipe σ vs ∧ tt σ2 H2 fun b H3 => if b = true then te σ2 H3 k else F H3)
    (hd : ∀ (H : Hp) (qs : List Int), Ex H1 H → Tb P1 P2 H → H D = some (.lst (qs.map V.int)) → qs.length = xs.length → (∀ (j : Nat) x, xs[j]? = some x → ∃ z, qs[j]? = some z ∧ R x z) → Qd H) :
    ∃ W : Nat → Nat → Hp → Prop, (∃ m, W 0 m (upd H1 D (.lst []))) ∧ ∀ i m H, W i m H → ((Itl K D0).stop i H ∧ Qd H) ∨ ((Itl K D0).go i H ∧ ∃ Nx : Hp → Prop, (∀ H', Nx H' → ∃ m', m' < m ∧ W (i + 1) m' H') ∧ ∀ x H', (Itl K D0).yld i H x H' → g x (wipe σ vs) H' fun σ2 H2 => wipe σ2 vs = wipe σ vs ∧ tt σ2 H2 fun b H3 => if b = true then te σ2 H3 fun y H4 => ∃ acc, H4 D = some (.lst acc) ∧ acc.length < sizeLine ∧ Nx (upd H4 D (.lst (acc ++ [y]))) else Nx H3) := by
  refine lc_list (xs := xs.map V.int) (fun i H6 => ∃ qs : List Int, Ex H1 H6 ∧ Tb P1 P2 H6 ∧ H6 D = some (.lst (qs.map V.int)) ∧ qs.length = i ∧ ∀ (j : Nat) x, j < i → xs[j]? = some x → ∃ z, qs[j]? = some z ∧ R x z)
    ⟨[], Ex.new nD, t0.same (same_upd nD), upd_same, rfl, fun j x hj => absurd hj (Nat.not_lt_zero j)⟩ (fun i H6 _ ⟨qs, e6, _⟩ => SqL.of (e6.lst e0)) (fun i xv H6 hx ⟨qs, e6, t6, eq6, lq, hq⟩ => ?_) (fun H6 ⟨qs, e6, t6, eq6, lq, hq⟩ => ?_)
  · obtain ⟨x, hy, rfl⟩ : ∃ y, xs[i]? = some y ∧ xv = .int y := by
      rw [List.getElem?_map] at hx
      cases z : xs[i]? with
      | none => rw [z] at hx; cases hx
      | some y => rw [z] at hx; cases hx; exact ⟨y, rfl, rfl⟩
    have li : i < xs.length := (List.getElem?_eq_some_iff.mp hy).1
    refine hs i x H6 _ _ hy e6 t6 fun z H7 hz e7 t7 => ⟨qs.map V.int, e7.lst eq6, by rw [List.length_map]; exact small1000 (by omega), qs ++ [z], ex_updN (e6.trans e7) nD, tb_upd t7 (e7.lst eq6), by rw [upd_same, List.map_append]; rfl, by rw [List.length_append, lq]; rfl, fun j y hj hy' => ?_⟩
    by_cases c : j < i
    · obtain ⟨p', h1, h2⟩ := hq j y c hy'
      exact ⟨p', by rw [List.getElem?_append_left (by omega)]; exact h1, h2⟩
    · have : j = i := by omega
      subst this
      rw [hy] at hy'
      cases hy'
      exact ⟨z, by rw [← lq]; exact List.getElem?_concat_length, hz⟩
  · rw [List.length_map] at lq
    exact hd H6 qs e6 t6 eq6 lq fun j x hj => hq j x (by rw [List.length_map]; exact (List.getElem?_eq_some_iff.mp hj).1) hj
end CL
set_option Elab.async false
set_option linter.all false
set_option pp.maxSteps 900
set_option maxRecDepth 100000
set_option maxHeartbeats 4000000
namespace CL
open PySem PySem.Spec PyProof.Rows L2 GE
abbrev sSam : Stmt := topS 35
abbrev nSam : List Str := ["found", "due", "k"]
theorem scSam : FnScope nSam ["found", "due"] (defScope sSam) := ⟨rfl, rfl, rfl, by decide +kernel, rfl, by decide +kernel, by decide +kernel⟩
theorem ixS_blk {X : Cx} {s : Shared} {H : Hp} {scope : Scope} {cenv : Env} {fp : List Addr} : IxR (X.blk s H scope cenv fp) (rIx X.K) := ix_seq
theorem same_updN {H H' : Hp} {D : Addr} {o : HO} (s : Same H H') (h : H D = none) : Same H (upd H' D o) := fun b x e => by
  rw [upd_ne fun z => by rw [z, h] at e; cases e]
  exact s b x e
def spNo : Sp := fun _ _ _ _ => False
/-- data of no text, no dict, so deep at most -/
def Dep : Nat → PyData → Prop
  | _, .none => True
  | _, .bool _ => True
  | _, .int _ => True
  | n + 1, .list ds => ds.length ≤ 1000 ∧ ∀ x ∈ ds, Dep n x
  | n + 1, .tuple ds => ds.length ≤ 1000 ∧ ∀ x ∈ ds, Dep n x
  | _, _ => False
def spSam (n : Nat) : Sp := fun vs H Q _ => ∃ v u d, vs = [v, u] ∧ Rp H v d ∧ Rp H u d ∧ Dep n d ∧ ∀ H', Same H H' → Q (.bl true) H'
def spSamP : Nat → Sp
  | 0 => spNo
  | n + 1 => spSam n
def isStrB : PyData → Bool
  | .str _ => true
  | _ => false
theorem kit_str {K : PySem.W.Frag} (d : PyData) : PySem.W.kitOne K (.type (tyName d)) (.type "str") = some (isStrB d) := by cases d <;> (refine kit_ty ?_; dsimp only [tyName, isStrB]; decide +kernel)
theorem StSeq.sm {H H' : Hp} {a : Addr} {xs : List V} (h : StSeq H a xs) (s : Same H H') : StSeq H' a xs := h.ex (Ex.of s)
section
variable {P : Program} {w : World} {K : PySem.W.Frag} {mg : Str → Option Value} {base : Heap}
theorem ok_samNo {f : Addr} {fd : FuncData} (F : Fun K "_law_same" "_law_same" sSam f fd) : FnOk P w K mg base CX0 1 f fd ["found", "due"] spNo :=
  F.ok (k := 0) scSam (fun vs H Q E h => False.elim h) (fun cdv A outer s H vs Q E hr h => False.elim h)
theorem ok_sam {k n : Nat} {f : Addr} {fd : FuncData} (F : Fun K "_law_same" "_law_same" sSam f fd) (T : Nm mg) (hrange : mg "range" = none) (hstr : mg "str" = none) (CS : Cal P w K mg base k "_law_same" ["found", "due"] (spSamP n)) : FnOk P w K mg base CX0 (k + 1) f fd ["found", "due"] (spSam n) := by
  refine F.ok scSam (fun vs H Q E ⟨_, _, _, e, _⟩ => by rw [e]; rfl) (fun cdv A outer s H vs Q E hr h => ?_)
  obtain ⟨v, u, d, rfl, hv, hu, hd, q⟩ := h
  have nd := scSam.nd
  refine ⟨_, (pss_cons (ps_if (pt_val (pe_callB call_isiT (by rfl) T.isi (by decide +kernel) (pa_cons (pv 1) (pa_cons (pe_tup (pa_cons (pe_bltn (v := .ty "list") (by rfl) T.list PyProof.Rows.boot_list rfl) (pa_cons (pe_bltn (v := .ty "tuple") (by rfl) T.tuple PyProof.Rows.boot_tuple rfl) pa_nil))) pa_nil)))) (pss_cons (ps_if (PW.pt (pw_or (pt_cmpR op_ne (pe_callB call_isi (by rfl) T.isi (by decide +kernel) (pa_cons (pv 0) (pa_cons (pe_bltn (v := .ty "list") (by rfl) T.list PyProof.Rows.boot_list rfl) pa_nil))) (pe_callB call_isi (by rfl) T.isi (by decide +kernel) (pa_cons (pv 1) (pa_cons (pe_bltn (v := .ty "list") (by rfl) T.list PyProof.Rows.boot_list rfl) pa_nil))) (nomark _)) (pw_or1 (pt_cmpR op_ne (pe_callB call_isi (by rfl) T.isi (by decide +kernel) (pa_cons (pv 0) (pa_cons (pe_bltn (v := .ty "tuple") (by rfl) T.tuple PyProof.Rows.boot_tuple rfl) pa_nil))) (pe_callB call_isi (by rfl) T.isi (by decide +kernel) (pa_cons (pv 1) (pa_cons (pe_bltn (v := .ty "tuple") (by rfl) T.tuple PyProof.Rows.boot_tuple rfl) pa_nil))) (nomark _))))) (pss_one (ps_ret pe_bl)) pss_nil)
      (pss_one (ps_ret (pe_and (pe_cmpR op_eq (pe_callB call_len_seq (by rfl) T.len PySem.boot_len (pa_cons (pv 0) pa_nil)) (pe_callB call_len_seq (by rfl) T.len PySem.boot_len (pa_cons (pv 1) pa_nil)) (nomark _)) (pe_one (pe_callB (cr_all rfl) (by rfl) T.all (by decide +kernel) (pa_cons (pe_lc (own := [("k", 2)]) (g := (gName 2)) (tt := tYes) rfl nd (pi_range1 (by rfl) hrange (pa_cons (pe_callB call_len_seq (by rfl) T.len PySem.boot_len (pa_cons (pv 1) pa_nil)) pa_nil)) (blkOk_by (own := [("k", 2)]) (N := nSam) (sc := (defScope sSam)) (by decide +kernel)) (fun _ _ _ _ _ => (pg_name (i := 2) nd rfl (.inl rfl))) (fun _ _ _ _ _ => pts_nil) (fun _ _ _ _ _ => (pe_cal CS hr (by rfl) (pa_cons (pe_ix ixS_blk (pv 0) (pv 2) (fun _ _ => rfl)) (pa_cons (pe_ix ixS_blk (pv 1) (pv 2) (fun _ _ => rfl)) pa_nil))))) pa_nil))))))) pss_nil)
      (pss_cons (ps_if (PW.pt (pw_or (pt_cmp (pc_isN (pv 1))) (pw_or1 (pt_cmp (pc_isN (pv 0)))))) (pss_one (ps_ret (pe_and (pe_cmp (pc_isN (pv 1)) rfl) (pe_one (pe_cmp (pc_isN (pv 0)) rfl))))) pss_nil)
      (pss_cons (ps_if (PW.pt (pw_or (pt_cmpR op_ne (pe_callB call_isi (by rfl) T.isi (by decide +kernel) (pa_cons (pv 1) (pa_cons (pe_bltn (v := .ty "bool") (by rfl) T.bool PyProof.Rows.boot_bool rfl) pa_nil))) (pe_callB call_isi (by rfl) T.isi (by decide +kernel) (pa_cons (pv 0) (pa_cons (pe_bltn (v := .ty "bool") (by rfl) T.bool PyProof.Rows.boot_bool rfl) pa_nil))) (nomark _)) (pw_or1 (pt_cmpR op_ne (pe_callB call_isi (by rfl) T.isi (by decide +kernel) (pa_cons (pv 1) (pa_cons (pe_bltn (v := .ty "str") (by rfl) hstr PyProof.Rows.boot_str rfl) pa_nil))) (pe_callB call_isi (by rfl) T.isi (by decide +kernel) (pa_cons (pv 0) (pa_cons (pe_bltn (v := .ty "str") (by rfl) hstr PyProof.Rows.boot_str rfl) pa_nil))) (nomark _))))) (pss_one (ps_ret pe_bl)) pss_nil)
      (pss_one (ps_ret (pe_cmpR op_eq (pv 0) (pv 1) (nomark _))))))), ?_⟩
  refine ⟨u, rfl, by show 2 ≤ sizeLine; decide, fun p np => ⟨u, p, [.ty "list", .ty "tuple"], _, _, isRow d, rfl, upd_same, .cons (.ty _) (.cons (.ty _) .nil), (Rp.ex (Ex.new np) _ _ hu).ty, kit_rows d, _, rfl, ?_⟩⟩
  have s0 : Same H (upd H p (.tup [.ty "list", .ty "tuple"])) := same_upd np
  generalize upd H p (.tup [.ty "list", .ty "tuple"]) = H0 at s0 ⊢
  refine ite2 (fun hrow => ?_) (fun hrow => ?_)
  · obtain ⟨m, ds, xs, ys, a, b, rfl, rfl, rfl, hsx, hsy, hx, hy, hlen, hdep⟩ : ∃ m ds xs ys a b, n = m + 1 ∧ v = .ref a ∧ u = .ref b ∧ StSeq H0 a xs ∧ StSeq H0 b ys ∧ RpAll H0 xs ds ∧ RpAll H0 ys ds ∧ ds.length ≤ 1000 ∧ ∀ x ∈ ds, Dep m x := by
      cases hv with
      | lst h1 h2 =>
        cases hu with
        | lst h3 h4 =>
          cases n with
          | zero => exact hd.elim
          | succ m => exact ⟨m, _, _, _, _, _, rfl, rfl, rfl, ⟨.inl (s0 _ _ h1)⟩, ⟨.inl (s0 _ _ h3)⟩, RpAll.sm s0 h2, RpAll.sm s0 h4, hd.1, hd.2⟩
      | tup h1 h2 =>
        cases hu with
        | tup h3 h4 =>
          cases n with
          | zero => exact hd.elim
          | succ m => exact ⟨m, _, _, _, _, _, rfl, rfl, rfl, ⟨.inr (s0 _ _ h1)⟩, ⟨.inr (s0 _ _ h3)⟩, RpAll.sm s0 h2, RpAll.sm s0 h4, hd.1, hd.2⟩
      | _ => cases hrow
    refine ⟨.ref a, rfl, .ref a, .ty "list", _, _, _, rfl, .ty _, (Rp.ex (Ex.of s0) d _ hv).ty, kit_list d, ?_⟩
    refine ⟨.ref b, rfl, .ref b, .ty "list", _, _, _, rfl, .ty _, (Rp.ex (Ex.of s0) d _ hu).ty, kit_list d, rfl, _, rfl, ite2 (fun z => absurd z (by simp)) (fun _ => ?_)⟩
    refine ⟨.ref a, rfl, .ref a, .ty "tuple", _, _, _, rfl, .ty _, (Rp.ex (Ex.of s0) d _ hv).ty, kit_tuple d, ?_⟩
    refine ⟨.ref b, rfl, .ref b, .ty "tuple", _, _, _, rfl, .ty _, (Rp.ex (Ex.of s0) d _ hu).ty, kit_tuple d, rfl, _, rfl, ite2 (fun z => absurd z (by simp)) (fun _ => ?_)⟩
    have sz : 5000 ≤ sizeLine := by decide
    have lx := hx.length
    have ly := hy.length
    refine ⟨.ref a, rfl, a, xs, rfl, hsx.sq, .ref b, rfl, b, ys, rfl, hsy.sq, rfl, ?_⟩
    refine ⟨_, rfl, ite2 (fun _ => ?_) (fun z => absurd (by rw [lx, ly]; simp) z)⟩
    refine ⟨.ref b, rfl, b, ys, rfl, hsy.sq, (ys.length : Int), rfl, by omega, by omega, fun D hD => ?_⟩
    refine lc_range (lo := 0) (n := ((ys.length : Int)).toNat) (fun i H2 => Same H0 H2 ∧ H2 D = some (.lst ((List.replicate i true).map V.bl))) ⟨same_upd hD, upd_same⟩ (fun i H2 hi hP => ?_) (fun H2 hP => ?_)
    · obtain ⟨s2, eD⟩ := hP
      have hiy : i < ys.length := hi
      have e0 : (0 + (i : Int)) = (i : Int) := Int.zero_add _
      obtain ⟨e, he, hRy⟩ := hy.get (List.getElem?_eq_getElem hiy)
      obtain ⟨e', he', hRx⟩ := hx.get (List.getElem?_eq_getElem (show i < xs.length by omega))
      rw [he] at he'
      cases he'
      refine ⟨rfl, yesT ?_⟩
      refine ⟨.ref a, rfl, .int (0 + (i : Int)), rfl, ?_⟩
      rw [e0]
      refine rix_of (i := i) (hsx.sm s2) (List.getElem?_eq_getElem (show i < xs.length by omega)) ⟨.ref b, rfl, .int (i : Int), by rw [← e0]; rfl, rix_of (i := i) (hsy.sm s2) (List.getElem?_eq_getElem hiy) ⟨_, _, e, rfl, Rp.sm s2 hRx, Rp.sm s2 hRy, hdep e (List.mem_of_getElem? he), fun H3 s3 => ?_⟩⟩
      refine ⟨_, s3 _ _ eD, by rw [List.length_map, List.length_replicate]; exact small1000 (by omega), same_updN (s2.trans s3) hD, ?_⟩
      rw [upd_same, List.replicate_succ', List.map_append]
      rfl
    · obtain ⟨s2, eD⟩ := hP
      refine ⟨D, _, rfl, SqL.of eD, ?_⟩
      have z : (List.replicate ((ys.length : Int)).toNat true).all id = true := by
        rw [List.all_eq_true]
        intro x hx
        rw [(List.mem_replicate.mp hx).2]
        rfl
      rw [z]
      exact q _ (s0.trans s2)
  · have sc : v = u ∧ (v = .non ∨ v ≠ .non ∧ scal v v = true) ∧ (d = .none ↔ v = .non) := by
      cases hv with
      | non => cases hu; exact ⟨rfl, .inl rfl, by simp⟩
      | bl => cases hu; exact ⟨rfl, .inr ⟨nofun, rfl⟩, by simp⟩
      | int => cases hu; exact ⟨rfl, .inr ⟨nofun, rfl⟩, by simp⟩
      | str => cases n <;> exact hd.elim
      | lst => exact absurd rfl hrow
      | tup => exact absurd rfl hrow
      | dct => cases n <;> exact hd.elim
    obtain ⟨rfl, hs, hdn⟩ := sc
    rcases hs with rfl | ⟨nv, hs⟩
    · refine ⟨.non, rfl, _, rfl, ite2 (fun _ => ?_) (fun z => absurd rfl z)⟩
      exact ⟨.non, rfl, _, rfl, iteT ⟨.non, rfl, q _ s0⟩⟩
    · refine ⟨v, rfl, decide (v = .non), rfl, ite2 (fun z => absurd (of_decide_eq_true z) nv) (fun _ => ⟨v, rfl, decide (v = .non), rfl, ite2 (fun z => absurd (of_decide_eq_true z) nv) (fun _ => ?_)⟩)⟩
      refine ⟨v, rfl, v, .ty "bool", _, _, _, rfl, .ty _, (Rp.ex (Ex.of s0) d _ hu).ty, kit_bool d, ?_⟩
      refine ⟨v, rfl, v, .ty "bool", _, _, _, rfl, .ty _, (Rp.ex (Ex.of s0) d _ hu).ty, kit_bool d, rfl, _, rfl, ite2 (fun z => absurd z (by simp)) (fun _ => ?_)⟩
      refine ⟨v, rfl, v, .ty "str", _, _, _, rfl, .ty _, (Rp.ex (Ex.of s0) d _ hu).ty, kit_str d, ?_⟩
      refine ⟨v, rfl, v, .ty "str", _, _, _, rfl, .ty _, (Rp.ex (Ex.of s0) d _ hu).ty, kit_str d, rfl, _, rfl, ite2 (fun z => absurd z (by simp)) (fun _ => ?_)⟩
      refine ⟨v, rfl, v, rfl, hs, ?_⟩
      have z : decide (v = v) = true := decide_eq_true rfl
      rw [z]
      exact q _ s0
end
end CL
set_option Elab.async false
set_option linter.all false
set_option pp.maxSteps 900
set_option maxRecDepth 100000
set_option maxHeartbeats 4000000
namespace CL
open PySem PySem.Spec PyProof.Rows L2 GE
/-! ### lists that are not the told one -/
/-- lists in the place of tuples -/
def toL : PyData → PyData
  | .tuple ds => .list ds
  | d => d
def plainD (d : PyData) : PyData := match rowsD d with
  | some ds => .list (ds.map toL)
  | none => d
def roadD (S : List StepT) : PyData := .list (S.map stepD)
def pairL (z : StepT) : PyData := .list [.int z.1, .int z.2]
theorem plain_road (S : List StepT) : plainD (roadD S) = .list (S.map pairL) := by
  show PyData.list ((S.map stepD).map toL) = _
  rw [List.map_map]
  rfl
/-- something else in the place of a window -/
def oddsAt (z : StepT) : List PyData := [.tuple [.int z.1, .int (z.2 + 1)], .tuple [.int (z.1 + 1), .int z.2], .tuple [.int z.1, .int z.2, .int 0], .tuple [.int z.1], .tuple [.int z.2, .int (z.1 - 1)], .tuple [.bool true, .int z.2]]
def odds0 (S : List StepT) : List PyData := [.none, .int 5, .str "ab", .dict [], .bool true, .list (S.map stepD ++ [.tuple [.int 0, .int 0]]), .list [.tuple []], .list [.none], .list [.int 5], .list (S.map stepD ++ [.none]), .list [.list [.int 0, .int 0], .int 1], .list (S.map stepD ++ [.list []])]
def oddsN (S : List StepT) (k : Nat) (z : StepT) : List PyData := (oddsAt z).map (fun o => .list ((S.map stepD).take k ++ [o] ++ (S.map stepD).drop (k + 1))) ++ [.list ((S.map stepD).take k ++ (S.map stepD).drop (k + 1)), .list ((S.map stepD).take (k + 1) ++ (S.map stepD).drop k)]
def OddOf (S : List StepT) (d : PyData) : Prop := d ∈ odds0 S ∨ ∃ k z, S[k]? = some z ∧ d ∈ oddsN S k z
theorem txt_int_ne (i : Int) : txt (.int i) ≠ [] := by
  unfold txt
  rw [PyData.shown_int, PyProof.Rows.signs_ofString]
  intro z
  have z2 := List.map_eq_nil_iff.mp z
  cases i with
  | ofNat n =>
    have := item_nat n
    refine this.ne ?_
    unfold txt
    rw [PyData.shown_int, PyProof.Rows.signs_ofString]
    exact z
  | negSucc n =>
    have e : (toString (Int.negSucc n)).toList = "-".toList ++ (toString (n + 1)).toList := by
      rw [← String.toList_append]
      rfl
    rw [e] at z2
    exact absurd (List.append_eq_nil_iff.mp z2).1 (by decide)
theorem item_int (i : Int) : Item (txt (.int i)) := .inl ⟨txt_int_ne i, shown_int_free (.inl (by decide)) i, shown_int_free (.inr (.inr (.inr rfl))) i, shown_int_free (.inr (.inr (.inl rfl))) i⟩
theorem free_int (i : Int) : 93 ∉ txt (.int i) := shown_int_free (.inr (.inr (.inr rfl))) i
theorem free_bool (b : Bool) : 93 ∉ txt (.bool b) := shown_bool_free (.inr (.inr (.inr rfl))) b
theorem in2 {P : PyData → Prop} {a b : PyData} (h1 : P a) (h2 : P b) : ∀ x ∈ [a, b], P x := fun x hx => by
  rcases List.mem_cons.mp hx with rfl | hx
  · exact h1
  · rw [List.mem_singleton.mp hx]; exact h2
theorem item_pair (a b : Int) : Item (txt (.list [.int a, .int b])) := item_list (in2 (free_int a) (free_int b))
/-- the inner lists have one text: item by item -/
theorem inner_txt {xs ys : List PyData} (hx : ∀ x ∈ xs, Item (txt x)) (hy : ∀ y ∈ ys, Item (txt y)) (e : txt (.list xs) = txt (.list ys)) : xs.map txt = ys.map txt := by
  rw [txt_list, txt_list] at e
  refine (jn_pf (r := []) (r' := []) (fun t ht => ?_) (fun t ht => ?_) (List.cons.inj e).2).1
  · obtain ⟨x, h1, rfl⟩ := List.mem_map.mp ht
    exact hx x h1
  · obtain ⟨y, h1, rfl⟩ := List.mem_map.mp ht
    exact hy y h1
theorem nat_inj {a b : Int} (ha : 0 ≤ a) (hb : 0 ≤ b) (e : txt (.int a) = txt (.int b)) : a = b := by
  obtain ⟨m, rfl⟩ : ∃ m : Nat, a = (m : Int) := ⟨a.toNat, by omega⟩
  obtain ⟨n, rfl⟩ : ∃ n : Nat, b = (n : Int) := ⟨b.toNat, by omega⟩
  rw [nat_txt e]
theorem neg_one : txt (.int (-1)) ≠ txt (.int 0) := by
  unfold txt
  rw [PyData.shown_int, PyData.shown_int]
  decide
theorem true_ne {b : Int} (hb : 0 ≤ b) : txt (.bool true) ≠ txt (.int b) := fun e => by
  obtain ⟨n, rfl⟩ : ∃ n : Nat, b = (n : Int) := ⟨b.toNat, by omega⟩
  have h : (84 : Nat) ∈ txt (.bool true) := by
    unfold txt
    rw [PyData.shown_bool]
    have e : (Str.ofString "True").cps.toList = [84, 114, 117, 101] := by decide
    show 84 ∈ (Str.ofString "True").cps.toList
    rw [e]
    exact List.mem_cons_self
  rw [e] at h
  exact shown_int_free' ⟨by decide, .inr (by decide)⟩ _ h
/-- something is otherwise there -/
def BadAt (e : PyData) (z : StepT) : Prop := sameW e z = false ∧ txt (toL e) ≠ txt (pairL z)
def Bad (S : List StepT) (ds : List PyData) : Prop := (∀ d ∈ ds, Item (txt (toL d))) ∧ (ds.length ≠ S.length ∨ ∃ (i : Nat) (e : PyData) (z : StepT), ds[i]? = some e ∧ S[i]? = some z ∧ BadAt e z)
theorem pair_items (S : List StepT) : ∀ y ∈ S.map pairL, Item (txt y) := fun y hy => by
  obtain ⟨z, _, rfl⟩ := List.mem_map.mp hy
  exact item_pair _ _
theorem Bad.ar {S : List StepT} {ds : List PyData} (h : Bad S ds) : arD (.list ds) S = false := by
  show sameWs ds S = false
  refine Bool.eq_false_iff.mpr fun t => ?_
  rcases h.2 with h | ⟨i, e, z, h1, h2, h3, _⟩
  · exact h (sameWs_len t)
  · rw [sameWs_get t h1 h2] at h3
    cases h3
theorem Bad.txt {S : List StepT} {ds : List PyData} (h : Bad S ds) : (plainD (.list ds)).shown ≠ (plainD (roadD S)).shown := fun t => by
  rw [plain_road] at t
  have t : (PyData.list (ds.map toL)).shown = (PyData.list (S.map pairL)).shown := t
  obtain ⟨h1, h2⟩ := rows_txt (fun x hx => by
    obtain ⟨d, hd, rfl⟩ := List.mem_map.mp hx
    exact h.1 d hd) (pair_items S) t
  rw [List.length_map, List.length_map] at h1
  rcases h.2 with h | ⟨i, e, z, h3, h4, _, h5⟩
  · exact h h1
  · exact h5 (h2 i _ _ (by rw [List.getElem?_map, h3]; rfl) (by rw [List.getElem?_map, h4]; rfl))
theorem step_item (z : StepT) : Item (txt (toL (stepD z))) := item_pair _ _
theorem steps_item {S : List StepT} : ∀ d ∈ S.map stepD, Item (txt (toL d)) := fun d hd => by
  obtain ⟨z, _, rfl⟩ := List.mem_map.mp hd
  exact step_item z
theorem item_nil : Item (txt (.list [])) := item_list fun x hx => nomatch hx
theorem bad_len {S : List StepT} {ds : List PyData} (h : ∀ d ∈ ds, Item (txt (toL d))) (n : ds.length ≠ S.length) : Bad S ds := ⟨h, .inl n⟩
theorem app_items {xs ys : List PyData} (h1 : ∀ d ∈ xs, Item (txt (toL d))) (h2 : ∀ d ∈ ys, Item (txt (toL d))) : ∀ d ∈ xs ++ ys, Item (txt (toL d)) := fun d hd => (List.mem_append.mp hd).elim (h1 d) (h2 d)
theorem one_item {d : PyData} (h : Item (txt (toL d))) : ∀ x ∈ [d], Item (txt (toL x)) := fun x hx => by rw [List.mem_singleton.mp hx]; exact h
theorem odds_item (z : StepT) : ∀ o ∈ oddsAt z, Item (txt (toL o)) := fun o ho => by
  have i2 : ∀ a b : Int, Item (txt (.list [.int a, .int b])) := item_pair
  unfold oddsAt at ho
  simp only [List.mem_cons, List.not_mem_nil, or_false] at ho
  rcases ho with rfl | rfl | rfl | rfl | rfl | rfl
  · exact i2 _ _
  · exact i2 _ _
  · refine item_list fun x hx => ?_
    simp only [List.mem_cons, List.not_mem_nil, or_false] at hx
    rcases hx with rfl | rfl | rfl <;> exact free_int _
  · refine item_list fun x hx => ?_
    rw [List.mem_singleton.mp hx]
    exact free_int _
  · exact i2 _ _
  · exact item_list (in2 (free_bool _) (free_int _))
theorem pair_eq {a b c d : PyData} (ha : Item (txt a)) (hb : Item (txt b)) (hc : Item (txt c)) (hd : Item (txt d)) (e : txt (.list [a, b]) = txt (.list [c, d])) : txt a = txt c ∧ txt b = txt d := by
  have h := inner_txt (in2 ha hb) (in2 hc hd) e
  obtain ⟨h1, h2⟩ := List.cons.inj h
  exact ⟨h1, (List.cons.inj h2).1⟩
theorem odds_bad {z : StepT} (h1 : 0 ≤ z.1) (h2 : 0 ≤ z.2) : ∀ o ∈ oddsAt z, BadAt o z := fun o ho => by
  have len : ∀ {xs : List PyData}, (∀ x ∈ xs, Item (txt x)) → xs.length ≠ 2 → txt (.list xs) ≠ txt (pairL z) := fun {xs} hx hn e => by
    have h := inner_txt hx (in2 (item_int z.1) (item_int z.2)) e
    have h := congrArg List.length h
    rw [List.length_map, List.length_map] at h
    exact hn h
  unfold oddsAt at ho
  simp only [List.mem_cons, List.not_mem_nil, or_false] at ho
  rcases ho with rfl | rfl | rfl | rfl | rfl | rfl
  · refine ⟨?_, fun e => ?_⟩
    · show (decide (z.1 = z.1) && decide (z.2 + 1 = z.2)) = false
      rw [decide_eq_false (show ¬ z.2 + 1 = z.2 by omega), Bool.and_false]
    · have := nat_inj (by omega) h2 (pair_eq (item_int _) (item_int _) (item_int _) (item_int _) e).2
      omega
  · refine ⟨?_, fun e => ?_⟩
    · show (decide (z.1 + 1 = z.1) && decide (z.2 = z.2)) = false
      rw [decide_eq_false (show ¬ z.1 + 1 = z.1 by omega), Bool.false_and]
    · have := nat_inj (by omega) h1 (pair_eq (item_int _) (item_int _) (item_int _) (item_int _) e).1
      omega
  · refine ⟨rfl, len (fun x hx => ?_) (by simp)⟩
    simp only [List.mem_cons, List.not_mem_nil, or_false] at hx
    rcases hx with rfl | rfl | rfl <;> exact item_int _
  · refine ⟨rfl, len (fun x hx => ?_) (by simp)⟩
    rw [List.mem_singleton.mp hx]
    exact item_int _
  · refine ⟨?_, fun e => ?_⟩
    · show (decide (z.2 = z.1) && decide (z.1 - 1 = z.2)) = false
      by_cases c : z.2 = z.1
      · rw [decide_eq_false (show ¬ z.1 - 1 = z.2 by omega), Bool.and_false]
      · rw [decide_eq_false c, Bool.false_and]
    · obtain ⟨e1, e2⟩ := pair_eq (item_int _) (item_int _) (item_int _) (item_int _) e
      have := nat_inj h2 h1 e1
      by_cases c : z.1 = 0
      · rw [show z.1 - 1 = -1 by omega, show z.2 = 0 by omega] at e2
        exact neg_one e2
      · have := nat_inj (by omega) h2 e2
        omega
  · refine ⟨?_, fun e => true_ne h1 (pair_eq (item_bool _) (item_int _) (item_int _) (item_int _) e).1⟩
    show (false && decide (z.2 = z.2)) = false
    rfl
theorem head_txt {d : PyData} {c : Nat} {t : List Nat} (h : txt d = c :: t) (n : c ≠ 91) (S : List StepT) : d.shown ≠ (plainD (roadD S)).shown := fun e => by
  have e2 : txt d = txt (plainD (roadD S)) := by unfold txt; rw [e]
  rw [plain_road, txt_list, h] at e2
  exact n (List.cons.inj e2).1
theorem odd_no {S : List StepT} {d : PyData} (hS : ∀ z ∈ S, 0 ≤ z.1 ∧ 0 ≤ z.2) (h : OddOf S d) : arD d S = false ∧ (plainD d).shown ≠ (plainD (roadD S)).shown := by
  have mk : ∀ {ds : List PyData}, d = .list ds → Bad S ds → arD d S = false ∧ (plainD d).shown ≠ (plainD (roadD S)).shown := fun {ds} e b => by rw [e]; exact ⟨b.ar, b.txt⟩
  rcases h with h | ⟨k, z, hk, h⟩
  · unfold odds0 at h
    simp only [List.mem_cons, List.not_mem_nil, or_false] at h
    rcases h with h | h | h | h | h | h | h | h | h | h | h | h
    · subst h
      exact ⟨rfl, head_txt (c := 78) (t := [111, 110, 101]) (by unfold txt; show PyData.none.shown.cps.toList = _; rw [PyData.shown_none]; decide) (by decide) S⟩
    · subst h
      exact ⟨rfl, head_txt (c := 53) (t := []) (by unfold txt; show (PyData.int 5).shown.cps.toList = _; rw [PyData.shown_int]; decide) (by decide) S⟩
    · subst h
      exact ⟨rfl, head_txt (c := 39) (t := [97, 98, 39]) (by unfold txt; show (PyData.str "ab").shown.cps.toList = _; decide +kernel) (by decide) S⟩
    · subst h
      exact ⟨rfl, head_txt (c := 123) (t := [125]) (by unfold txt; show (PyData.dict []).shown.cps.toList = _; decide +kernel) (by decide) S⟩
    · subst h
      exact ⟨rfl, head_txt (c := 84) (t := [114, 117, 101]) (by unfold txt; show (PyData.bool true).shown.cps.toList = _; rw [PyData.shown_bool]; decide) (by decide) S⟩
    · exact mk h (bad_len (app_items steps_item (one_item (item_pair 0 0))) (by rw [List.length_append, List.length_map]; simp))
    · refine mk h ⟨one_item item_nil, ?_⟩
      cases S with
      | nil => exact .inl (by decide)
      | cons z S =>
        refine .inr ⟨0, _, z, rfl, rfl, rfl, fun e => ?_⟩
        have e : txt (.list []) = txt (.list [.int z.1, .int z.2]) := e
        have := congrArg List.length (inner_txt (fun x (hx : x ∈ []) => absurd hx List.not_mem_nil) (in2 (item_int _) (item_int _)) e)
        simp at this
    · refine mk h ⟨one_item item_none, ?_⟩
      cases S with
      | nil => exact .inl (by decide)
      | cons z S =>
        refine .inr ⟨0, _, z, rfl, rfl, rfl, fun e => ?_⟩
        have e : txt .none = txt (.list [.int z.1, .int z.2]) := e
        rw [txt_list] at e
        have e1 : txt .none = [78, 111, 110, 101] := by unfold txt; rw [PyData.shown_none]; decide
        rw [e1] at e
        exact absurd (List.cons.inj e).1 (by decide)
    · refine mk h ⟨one_item (item_int 5), ?_⟩
      cases S with
      | nil => exact .inl (by decide)
      | cons z S =>
        refine .inr ⟨0, _, z, rfl, rfl, rfl, fun e => ?_⟩
        have e : txt (.int 5) = txt (.list [.int z.1, .int z.2]) := e
        rw [txt_list] at e
        have e1 : txt (.int 5) = [53] := by unfold txt; rw [PyData.shown_int]; decide
        rw [e1] at e
        exact absurd (List.cons.inj e).1 (by decide)
    · exact mk h (bad_len (app_items steps_item (one_item item_none)) (by rw [List.length_append, List.length_map]; simp))
    · refine mk h ⟨fun x hx => ?_, ?_⟩
      · rcases List.mem_cons.mp hx with rfl | hx
        · exact item_pair 0 0
        · rw [List.mem_singleton.mp hx]; exact item_int 1
      · match S with
        | [] => exact .inl (by decide)
        | [z] => exact .inl (by simp)
        | z :: z2 :: S =>
          refine .inr ⟨1, _, z2, rfl, rfl, rfl, fun e => ?_⟩
          have e : txt (.int 1) = txt (.list [.int z2.1, .int z2.2]) := e
          rw [txt_list] at e
          have e1 : txt (.int 1) = [49] := by unfold txt; rw [PyData.shown_int]; decide
          rw [e1] at e
          exact absurd (List.cons.inj e).1 (by decide)
    · exact mk h (bad_len (app_items steps_item (one_item item_nil)) (by rw [List.length_append, List.length_map]; simp))
  · have hlt : k < S.length := (List.getElem?_eq_some_iff.mp hk).1
    obtain ⟨z1, z2⟩ := hS z (List.mem_of_getElem? hk)
    have ht : ∀ n, ∀ d ∈ (S.map stepD).take n, Item (txt (toL d)) := fun n d hd => steps_item d (List.mem_of_mem_take hd)
    have hd : ∀ n, ∀ d ∈ (S.map stepD).drop n, Item (txt (toL d)) := fun n d hd => steps_item d (List.mem_of_mem_drop hd)
    rcases List.mem_append.mp h with h | h
    · obtain ⟨o, ho, e⟩ := List.mem_map.mp h
      refine mk e.symm ⟨app_items (app_items (ht _) (one_item (odds_item z o ho))) (hd _), .inr ⟨k, o, z, ?_, hk, odds_bad z1 z2 o ho⟩⟩
      rw [List.append_assoc, List.getElem?_append_right (by rw [List.length_take, List.length_map]; omega), List.length_take, List.length_map, show k - min k S.length = 0 by omega]
      rfl
    · simp only [List.mem_cons, List.not_mem_nil, or_false] at h
      rcases h with h | h
      · refine mk h (bad_len (app_items (ht _) (hd _)) ?_)
        rw [List.length_append, List.length_take, List.length_drop, List.length_map]
        omega
      · refine mk h (bad_len (app_items (ht _) (hd _)) ?_)
        rw [List.length_append, List.length_take, List.length_drop, List.length_map]
        omega
/-- the list itself, handed in however -/
def HandOf (S : List StepT) (d : PyData) : Prop := ∃ es, rowsD d = some es ∧ es.length = S.length ∧ ∀ (i : Nat) (e : PyData) (z : StepT), es[i]? = some e → S[i]? = some z → e = stepD z ∨ e = pairL z
theorem same_of : ∀ {es : List PyData} {S : List StepT}, es.length = S.length → (∀ (i : Nat) (e : PyData) (z : StepT), es[i]? = some e → S[i]? = some z → sameW e z = true) → sameWs es S = true
  | [], [], _, _ => rfl
  | e :: es, z :: S, h, g => by
    show (sameW e z && sameWs es S) = true
    rw [g 0 e z rfl rfl, same_of (by simpa using h) fun i e z h1 h2 => g (i + 1) e z h1 h2]
    rfl
  | [], _ :: _, h, _ => absurd h (by simp)
  | _ :: _, [], h, _ => absurd h (by simp)
theorem HandOf.ar {S : List StepT} {d : PyData} (h : HandOf S d) : arD d S = true := by
  obtain ⟨es, h1, h2, h3⟩ := h
  unfold arD
  rw [h1]
  refine same_of h2 fun i e z h4 h5 => ?_
  have g : (decide (z.1 = z.1) && decide (z.2 = z.2)) = true := by simp
  rcases h3 i e z h4 h5 with rfl | rfl
  · exact g
  · exact g
end CL
set_option Elab.async false
set_option linter.all false
set_option pp.maxSteps 900
set_option maxRecDepth 100000
set_option maxHeartbeats 4000000
namespace CL
open PySem PySem.Spec PyProof.Rows L2 GE
theorem call_reprA {X : Cx} {k : Nat} (hg : X.A.guards = some []) (hr : Room k X.A) (hsys : ∃ o, X.base.get? sysModules = some o) :
    CallR X (.builtin "repr") (fun xs H Q => ∃ v d, xs = [v] ∧ Rp H v d ∧ B 100 1000000 d ∧ Q (.str d.shown) H) := by
  intro pins s σ H xs us Q I r h
  obtain ⟨v, d, rfl, hR, hB, q⟩ := h
  have rest : ∀ a, v = .ref a → wpAny (model X.prog X.w) X.A (call (.builtin "repr") us) (EP X pins σ Q) X.xe s := fun a e =>
    call_reprD hg hr hsys pins s σ H [v] us Q I r ⟨v, d, a, rfl, e, hR, hB.mono (by decide) (by decide), q⟩
  obtain ⟨u, rfl, rx⟩ := vals1 r
  cases hR with
  | non => cases rx; exact PySem.P.repr_of_none ⟨.str _, H, I.tok _, ⟨_, rfl⟩, q⟩
  | bl b => cases rx; exact PySem.P.repr_of_bool ⟨.str _, H, I.tok _, ⟨_, rfl⟩, q⟩
  | int i =>
    obtain ⟨t, rfl⟩ := (show ∃ t, u = Value.int i t from rx)
    exact PySem.P.repr_of_int (by have := hB.sh; simpa [PyData.showable] using this) ⟨.str _, H, I.tok _, ⟨_, rfl⟩, q⟩
  | str x =>
    obtain ⟨t, rfl⟩ := (show ∃ t, u = Value.str x t from rx)
    exact PySem.P.repr_of_str ⟨.str _, H, I.tok _, ⟨_, rfl⟩, q⟩ (by have h1 : (reprText x).length ≤ 1000000 := hB.wt; rw [sizeLine_eq]; omega)
  | lst h1 h2 => exact rest _ rfl
  | tup h1 h2 => exact rest _ rfl
  | dct h1 => exact rest _ rfl
/-- a comprehension over a list or a tuple -/
theorem lc_seqW {K : PySem.W.Frag} {a : Addr} {xs : List V} {J : It} {g : TG} {tt : TT} {te : TE} {vs : List Nat} {σ : L2.St} {H1 : Hp} {D : Addr} {Qd : Hp → Prop} (Pv : Nat → Hp → Prop) (h0 : Pv 0 (upd H1 D (.lst []))) (hl : ∀ i H, Pv i H → StandsAs K a xs J H)
    (hs : ∀ i x H, xs[i]? = some x → Pv i H → g x (wipe σ vs) H fun σ2 H2 => wipe σ2 vs = wipe σ vs ∧ tt σ2 H2 fun b H3 => if b = true then te σ2 H3 fun y H4 => ∃ acc, H4 D = some (.lst acc) ∧ acc.length < sizeLine ∧ Pv (i + 1) (upd H4 D (.lst (acc ++ [y]))) else Pv (i + 1) H3) (hd : ∀ H, Pv xs.length H → Qd H) :
    ∃ W : Nat → Nat → Hp → Prop, (∃ m, W 0 m (upd H1 D (.lst []))) ∧ ∀ i m H, W i m H → (J.stop i H ∧ Qd H) ∨ (J.go i H ∧ ∃ Nx : Hp → Prop, (∀ H', Nx H' → ∃ m', m' < m ∧ W (i + 1) m' H') ∧ ∀ x H', J.yld i H x H' → g x (wipe σ vs) H' fun σ2 H2 => wipe σ2 vs = wipe σ vs ∧ tt σ2 H2 fun b H3 => if b = true then te σ2 H3 fun y H4 => ∃ acc, H4 D = some (.lst acc) ∧ acc.length < sizeLine ∧ Nx (upd H4 D (.lst (acc ++ [y]))) else Nx H3) := by
  refine ⟨fun i m H => m + i = xs.length ∧ Pv i H, ⟨xs.length, rfl, h0⟩, ?_⟩
  rintro i m H ⟨hm, p⟩
  have s := hl i H p
  cases m with
  | zero =>
    obtain rfl : i = xs.length := by omega
    exact .inl ⟨s.stop (Nat.le_refl _), hd H p⟩
  | succ m =>
    have lt : i < xs.length := by omega
    refine .inr ⟨s.go (List.getElem?_eq_getElem lt), Pv (i + 1), fun H' p' => ⟨m, Nat.lt_succ_self m, by omega, p'⟩, fun x H' y => ?_⟩
    obtain ⟨rfl, hx⟩ := s.yld y
    exact hs i x _ hx p
theorem cl_blk {X : Cx} {s : Shared} {H : Hp} {scope : Scope} {cenv : Env} {fp : List Addr} : CallR (X.blk s H scope cenv fp) (.type "list") (fun xs H Q => ∃ p ys, xs = [.ref p] ∧ (SqL X.K H p ys ∨ SqT X.K H p ys) ∧ ∀ l, H l = none → Q (.ref l) (upd H l (.lst ys))) := call_list_of
theorem isiT_blk {X : Cx} {s : Shared} {H : Hp} {scope : Scope} {cenv : Env} {fp : List Addr} : CallR (X.blk s H scope cenv fp) (.builtin "isinstance") (rIsiT X.K) := call_isiT
abbrev sPla : Stmt := topS 42
abbrev nPla : List Str := ["thing", "one"]
theorem scPla : FnScope nPla ["thing"] (defScope sPla) := ⟨rfl, rfl, rfl, by decide +kernel, rfl, by decide +kernel, by decide +kernel⟩
def spPla : Sp := fun vs H Q _ => ∃ v d, vs = [v] ∧ Rp H v d ∧ (∀ ds, rowsD d = some ds → ds.length ≤ 900) ∧ ∀ v' H', Same H H' → Rp H' v' (plainD d) → Q v' H'
theorem toL_row {d : PyData} {ds : List PyData} (h : rowsD d = some ds) : toL d = .list ds := by
  cases d with
  | list xs => cases h; rfl
  | tuple xs => cases h; rfl
  | _ => cases h
theorem toL_no {d : PyData} (h : rowsD d = none) : toL d = d := by
  cases d with
  | list xs => cases h
  | tuple xs => cases h
  | _ => rfl
section
variable {P : Program} {w : World} {K : PySem.W.Frag} {mg : Str → Option Value} {base : Heap}
theorem ok_pla {f : Addr} {fd : FuncData} (F : Fun K "_law_plain" "_law_plain" sPla f fd) (T : Nm mg) : FnOk P w K mg base CX0 1 f fd ["thing"] spPla := by
  refine F.ok scPla (fun vs H Q E ⟨_, _, e, _⟩ => by rw [e]; rfl) (fun cdv A outer s H vs Q E hr h => ?_)
  obtain ⟨v, d, rfl, hR, h9, q⟩ := h
  have nd := scPla.nd
  refine ⟨_, (pss_cons (ps_if (pt_not (pt_val (pe_callB call_isiT (by rfl) T.isi (by decide +kernel) (pa_cons (pv 0) (pa_cons (pe_tup (pa_cons (pe_bltn (v := .ty "list") (by rfl) T.list PyProof.Rows.boot_list rfl) (pa_cons (pe_bltn (v := .ty "tuple") (by rfl) T.tuple PyProof.Rows.boot_tuple rfl) pa_nil))) pa_nil))))) (pss_one (ps_ret (pv 0))) pss_nil)
      (pss_one (ps_ret (pe_lc (own := [("one", 1)]) (g := (gName 1)) (tt := tYes) rfl nd (pi_seqW (pv 0)) (blkOk_by (own := [("one", 1)]) (N := nPla) (sc := (defScope sPla)) (by decide +kernel)) (fun _ _ _ _ _ => (pg_name (i := 1) nd rfl (.inl rfl))) (fun _ _ _ _ _ => pts_nil) (fun _ _ _ _ _ => (pe_ifExp (pt_val (pe_callB isiT_blk (by rfl) T.isi (by decide +kernel) (pa_cons (pv 1) (pa_cons (pe_tup (pa_cons (pe_bltn (v := .ty "list") (by rfl) T.list PyProof.Rows.boot_list rfl) (pa_cons (pe_bltn (v := .ty "tuple") (by rfl) T.tuple PyProof.Rows.boot_tuple rfl) pa_nil))) pa_nil)))) (pe_callTy cl_blk (by rfl) T.list (by decide +kernel) (pa_cons (pv 1) pa_nil)) (pv 1))))))), ?_⟩
  refine ⟨v, rfl, by show 2 ≤ sizeLine; decide, fun p np => ⟨v, p, [.ty "list", .ty "tuple"], _, _, isRow d, rfl, upd_same, .cons (.ty _) (.cons (.ty _) .nil), (Rp.ex (Ex.new np) _ _ hR).ty, kit_rows _, _, rfl, ?_⟩⟩
  have s0 : Same H (upd H p (.tup [.ty "list", .ty "tuple"])) := same_upd np
  generalize upd H p (.tup [.ty "list", .ty "tuple"]) = H0 at s0 ⊢
  have hR0 := Rp.sm s0 hR
  cases hds : rowsD d with
  | none =>
    rw [show isRow d = false by unfold isRow; rw [hds]; rfl]
    refine iteT ⟨v, rfl, ?_⟩
    refine q v H0 s0 ?_
    rw [show plainD d = d by unfold plainD; rw [hds]]
    exact hR0
  | some ds =>
    rw [show isRow d = true by unfold isRow; rw [hds]; rfl]
    obtain ⟨b, xs, rfl, hA, hso⟩ := hR0.rows hds
    have hl := hA.length
    have l9 := h9 ds hds
    refine iteF ?_
    refine ⟨.ref b, rfl, b, xs, rfl, ⟨hso⟩, fun J hJ D hD => ?_⟩
    refine lc_seqW (K := K) (a := b) (xs := xs) (fun i H2 => Same H0 H2 ∧ ∃ ws, H2 D = some (.lst ws) ∧ ws.length = i ∧ RpAll (Hw (fun b => b = D) H2) ws ((ds.take i).map toL)) ⟨same_upd hD, [], upd_same, rfl, .nil⟩ (fun i H2 hP => hJ H2 fun o ho => hP.1 _ _ ho) (fun i x H2 hx hP => ?_) (fun H2 hP => ?_)
    · obtain ⟨s2, ws, eD, hlw, hW⟩ := hP
      have hi : i < xs.length := (List.getElem?_eq_some_iff.mp hx).1
      obtain ⟨di, hdi, hRi⟩ := hA.get hx
      have hRw : Rp (Hw (fun b => b = D) H2) x di := Rp.sm (fun b o e => by rw [Hw.at (fun z => by rw [z, hD] at e; cases e)]; exact s2 _ _ e) hRi
      have fin : ∀ {y : V} {H4 : Hp}, Same H2 H4 → Rp (Hw (fun b => b = D) H4) y (toL di) → ∃ acc, H4 D = some (.lst acc) ∧ acc.length < sizeLine ∧ Same H0 (upd H4 D (.lst (acc ++ [y]))) ∧ ∃ ws, (upd H4 D (.lst (acc ++ [y]))) D = some (.lst ws) ∧ ws.length = i + 1 ∧ RpAll (Hw (fun b => b = D) (upd H4 D (.lst (acc ++ [y])))) ws ((ds.take (i + 1)).map toL) := fun {y H4} s4 hy => by
        refine ⟨ws, s4 _ _ eD, small1000 (by omega), same_updN (s2.trans s4) hD, ws ++ [y], upd_same, by rw [List.length_append, hlw]; rfl, ?_⟩
        rw [hw_upd (W := fun b => b = D) rfl, List.take_add_one, hdi, List.map_append]
        exact (RpAll.sm (Same.hw s4) hW).snoc hy
      refine ⟨rfl, yesT ?_⟩
      refine ⟨x, rfl, by show 2 ≤ sizeLine; decide, fun p2 np2 => ⟨x, p2, [.ty "list", .ty "tuple"], _, _, isRow di, rfl, upd_same, .cons (.ty _) (.cons (.ty _) .nil), (Rp.ex (Ex.new np2) _ _ (Rp.sm s2 hRi)).ty, kit_rows _, _, rfl, ?_⟩⟩
      have s3 : Same H2 (upd H2 p2 (.tup [.ty "list", .ty "tuple"])) := same_upd np2
      generalize upd H2 p2 (.tup [.ty "list", .ty "tuple"]) = H3 at s3 ⊢
      cases hdi2 : rowsD di with
      | none =>
        rw [show isRow di = false by unfold isRow; rw [hdi2]; rfl]
        refine iteF ⟨x, rfl, fin s3 ?_⟩
        rw [toL_no hdi2]
        exact Rp.sm (Same.hw s3) hRw
      | some dsi =>
        rw [show isRow di = true by unfold isRow; rw [hdi2]; rfl]
        obtain ⟨b2, ys, rfl, hA2, hso2⟩ := (Rp.sm (Same.hw s3) hRw).rows hdi2
        have hso3 : StSeq H3 b2 ys := ⟨hso2.imp (Hw.sub _ _ _ _) (Hw.sub _ _ _ _)⟩
        refine iteT ⟨.ref b2, rfl, b2, ys, rfl, hso3.sq, fun l nl => ?_⟩
        have s4 : Same H3 (upd H3 l (.lst ys)) := same_upd nl
        refine fin (s3.trans s4) ?_
        rw [toL_row hdi2]
        refine .lst (by rw [Hw.at (W := fun b => b = D) (fun z => by rw [z, s3 _ _ eD] at nl; cases nl)]; exact upd_same) (RpAll.sm (Same.hw s4) hA2)
    · obtain ⟨s2, ws, eD, hlw, hW⟩ := hP
      refine q (.ref D) H2 (s0.trans s2) ?_
      rw [show plainD d = .list (ds.map toL) by unfold plainD; rw [hds]]
      rw [hl, List.take_length] at hW
      exact .lst eD (RpAll.sm (Hw.sub _ _) hW)
end
end CL
set_option Elab.async false
set_option linter.all false
set_option pp.maxSteps 900
set_option maxRecDepth 100000
set_option maxHeartbeats 4000000
namespace CL
open PySem PySem.Spec PyProof.Rows L2 GE
abbrev sLis : Stmt := topS 36
abbrev nLis : List Str := ["thing", "inner"]
theorem scLis : FnScope nLis ["thing"] (defScope sLis) := ⟨rfl, rfl, rfl, by decide +kernel, rfl, by decide +kernel, by decide +kernel⟩
def spL0 : Sp := fun vs H Q _ => ∃ i : Int, vs = [.int i] ∧ ∀ H', Same H H' → Q (.int i) H'
def spL1 : Sp := fun vs H Q _ => ∃ (b : Addr) (x y : Int), vs = [.ref b] ∧ H b = some (.tup [.int x, .int y]) ∧ ∀ t H', Same H H' → H t = none → H' t = some (.lst [.int x, .int y]) → Q (.ref t) H'
def spL2 : Sp := fun vs H Q _ => ∃ (p : Addr) (ws : List V) (S : List StepT), vs = [.ref p] ∧ H p = some (.lst ws) ∧ StAt H ws S ∧ S.length ≤ 64 ∧ ∀ q H', Same H H' → H q = none → Rp (Hw (fun b => H b ≠ none) H') (.ref q) (.list (S.map pairL)) → Q (.ref q) H'
section
variable {P : Program} {w : World} {K : PySem.W.Frag} {mg : Str → Option Value} {base : Heap}
theorem ok_no {f : Addr} {fd : FuncData} (F : Fun K "_law_lists" "_law_lists" sLis f fd) : FnOk P w K mg base CX0 1 f fd ["thing"] spNo :=
  F.ok (k := 0) scLis (fun vs H Q E h => False.elim h) (fun cdv A outer s H vs Q E hr h => False.elim h)
theorem ok_l0 {k : Nat} {f : Addr} {fd : FuncData} (F : Fun K "_law_lists" "_law_lists" sLis f fd) (T : Nm mg) (CD : Cal P w K mg base k "_law_lists" ["thing"] spNo) : FnOk P w K mg base CX0 (k + 1) f fd ["thing"] spL0 := by
  refine F.ok scLis (fun vs H Q E ⟨o, e, _⟩ => by rw [e]; rfl) (fun cdv A outer s H vs Q E hr h => ?_)
  obtain ⟨i, rfl, q⟩ := h
  have nd := scLis.nd
  refine ⟨_, (pss_one (ps_ret (pe_ifExp (pt_val (pe_callB call_isiT (by rfl) T.isi (by decide +kernel) (pa_cons (pv 0) (pa_cons (pe_tup (pa_cons (pe_bltn (v := .ty "list") (by rfl) T.list PyProof.Rows.boot_list rfl) (pa_cons (pe_bltn (v := .ty "tuple") (by rfl) T.tuple PyProof.Rows.boot_tuple rfl) pa_nil))) pa_nil)))) (pe_lc (own := [("inner", 1)]) (g := (gName 1)) (tt := tYes) rfl nd (pi_seqW (pv 0)) (blkOk_by (own := [("inner", 1)]) (N := nLis) (sc := (defScope sLis)) (by decide +kernel)) (fun _ _ _ _ _ => (pg_name (i := 1) nd rfl (.inl rfl))) (fun _ _ _ _ _ => pts_nil) (fun _ _ _ _ _ => (pe_cal CD hr (by rfl) (pa_cons (pv 1) pa_nil)))) (pv 0)))), ?_⟩
  have hR : Rp H (.int i) (.int i) := .int i
  refine ⟨.int i, rfl, by show 2 ≤ sizeLine; decide, fun p np => ⟨.int i, p, [.ty "list", .ty "tuple"], _, _, isRow (.int i), rfl, upd_same, .cons (.ty _) (.cons (.ty _) .nil), (Rp.ex (Ex.new np) _ _ hR).ty, kit_rows _, _, rfl, ?_⟩⟩
  exact iteF ⟨.int i, rfl, q _ (same_upd np)⟩
theorem ok_l1 {k : Nat} {f : Addr} {fd : FuncData} (F : Fun K "_law_lists" "_law_lists" sLis f fd) (T : Nm mg) (CD : Cal P w K mg base k "_law_lists" ["thing"] spL0) : FnOk P w K mg base CX0 (k + 1) f fd ["thing"] spL1 := by
  refine F.ok scLis (fun vs H Q E ⟨_, _, _, e, _⟩ => by rw [e]; rfl) (fun cdv A outer s H vs Q E hr h => ?_)
  obtain ⟨b, x, y, rfl, hb, q⟩ := h
  have nd := scLis.nd
  refine ⟨_, (pss_one (ps_ret (pe_ifExp (pt_val (pe_callB call_isiT (by rfl) T.isi (by decide +kernel) (pa_cons (pv 0) (pa_cons (pe_tup (pa_cons (pe_bltn (v := .ty "list") (by rfl) T.list PyProof.Rows.boot_list rfl) (pa_cons (pe_bltn (v := .ty "tuple") (by rfl) T.tuple PyProof.Rows.boot_tuple rfl) pa_nil))) pa_nil)))) (pe_lc (own := [("inner", 1)]) (g := (gName 1)) (tt := tYes) rfl nd (pi_seqW (pv 0)) (blkOk_by (own := [("inner", 1)]) (N := nLis) (sc := (defScope sLis)) (by decide +kernel)) (fun _ _ _ _ _ => (pg_name (i := 1) nd rfl (.inl rfl))) (fun _ _ _ _ _ => pts_nil) (fun _ _ _ _ _ => (pe_cal CD hr (by rfl) (pa_cons (pv 1) pa_nil)))) (pv 0)))), ?_⟩
  have hR : Rp H (.ref b) (.tuple [.int x, .int y]) := .tup hb (.cons (.int _) (.cons (.int _) .nil))
  refine ⟨.ref b, rfl, by show 2 ≤ sizeLine; decide, fun p np => ⟨.ref b, p, [.ty "list", .ty "tuple"], _, _, true, rfl, upd_same, .cons (.ty _) (.cons (.ty _) .nil), (Rp.ex (Ex.new np) _ _ hR).ty, kit_rows _, _, rfl, iteT ?_⟩⟩
  have s0 : Same H (upd H p (.tup [.ty "list", .ty "tuple"])) := same_upd np
  generalize upd H p (.tup [.ty "list", .ty "tuple"]) = H0 at s0 ⊢
  refine ⟨.ref b, rfl, b, [.int x, .int y], rfl, ⟨.inr (s0 _ _ hb)⟩, fun J hJ D hD => ?_⟩
  refine lc_seqW (K := K) (a := b) (xs := [V.int x, V.int y]) (fun i H2 => Same H0 H2 ∧ H2 D = some (.lst ([V.int x, V.int y].take i))) ⟨same_upd hD, upd_same⟩ (fun i H2 hP => hJ H2 fun o ho => hP.1 _ _ ho) (fun i v H2 hx hP => ?_) (fun H2 hP => q D H2 (s0.trans hP.1) (s0.free hD) hP.2)
  obtain ⟨s2, e2⟩ := hP
  obtain ⟨n, hn⟩ : ∃ n, v = V.int n := by
    match i, hx with
    | 0, hx => cases hx; exact ⟨x, rfl⟩
    | 1, hx => cases hx; exact ⟨y, rfl⟩
  have li : i < 2 := (List.getElem?_eq_some_iff.mp hx).1
  subst hn
  refine ⟨rfl, yesT ⟨.int n, rfl, n, rfl, fun H3 s3 => ⟨_, s3 _ _ e2, by rw [List.length_take]; exact small1000 (by omega), same_updN (s2.trans s3) hD, ?_⟩⟩⟩
  rw [upd_same, List.take_add_one, hx]
  rfl
theorem ok_l2 {k : Nat} {f : Addr} {fd : FuncData} (F : Fun K "_law_lists" "_law_lists" sLis f fd) (T : Nm mg) (CD : Cal P w K mg base k "_law_lists" ["thing"] spL1) : FnOk P w K mg base CX0 (k + 1) f fd ["thing"] spL2 := by
  refine F.ok scLis (fun vs H Q E ⟨_, _, _, e, _⟩ => by rw [e]; rfl) (fun cdv A outer s H vs Q E hr h => ?_)
  obtain ⟨p0, ws, S, rfl, hp0, hS, l64, q⟩ := h
  have nd := scLis.nd
  refine ⟨_, (pss_one (ps_ret (pe_ifExp (pt_val (pe_callB call_isiT (by rfl) T.isi (by decide +kernel) (pa_cons (pv 0) (pa_cons (pe_tup (pa_cons (pe_bltn (v := .ty "list") (by rfl) T.list PyProof.Rows.boot_list rfl) (pa_cons (pe_bltn (v := .ty "tuple") (by rfl) T.tuple PyProof.Rows.boot_tuple rfl) pa_nil))) pa_nil)))) (pe_lc (own := [("inner", 1)]) (g := (gName 1)) (tt := tYes) rfl nd (pi_seqW (pv 0)) (blkOk_by (own := [("inner", 1)]) (N := nLis) (sc := (defScope sLis)) (by decide +kernel)) (fun _ _ _ _ _ => (pg_name (i := 1) nd rfl (.inl rfl))) (fun _ _ _ _ _ => pts_nil) (fun _ _ _ _ _ => (pe_cal CD hr (by rfl) (pa_cons (pv 1) pa_nil)))) (pv 0)))), ?_⟩
  have hR : Rp H (.ref p0) (roadD S) := .lst hp0 (rp_steps hS)
  refine ⟨.ref p0, rfl, by show 2 ≤ sizeLine; decide, fun p np => ⟨.ref p0, p, [.ty "list", .ty "tuple"], _, _, true, rfl, upd_same, .cons (.ty _) (.cons (.ty _) .nil), (Rp.ex (Ex.new np) _ _ hR).ty, kit_rows _, _, rfl, iteT ?_⟩⟩
  have s0 : Same H (upd H p (.tup [.ty "list", .ty "tuple"])) := same_upd np
  generalize upd H p (.tup [.ty "list", .ty "tuple"]) = H0 at s0 ⊢
  have hlw := hS.len
  refine ⟨.ref p0, rfl, p0, ws, rfl, ⟨.inl (s0 _ _ hp0)⟩, fun J hJ D hD => ?_⟩
  refine lc_seqW (K := K) (a := p0) (xs := ws) (fun i H2 => Same H0 H2 ∧ ∃ vs, H2 D = some (.lst vs) ∧ vs.length = i ∧ RpAll (Hw (fun b => H0 b ≠ none ∨ b = D) H2) vs ((S.take i).map pairL)) ⟨same_upd hD, [], upd_same, rfl, .nil⟩ (fun i H2 hP => hJ H2 fun o ho => hP.1 _ _ ho) (fun i v H2 hx hP => ?_) (fun H2 hP => ?_)
  · obtain ⟨s2, vs, e2, hl, hW⟩ := hP
    have li : i < ws.length := (List.getElem?_eq_some_iff.mp hx).1
    obtain ⟨z, hz⟩ : ∃ z, S[i]? = some z := ⟨_, List.getElem?_eq_getElem (by omega)⟩
    obtain ⟨b, hb, hb2⟩ := hS.at_ i z hz
    rw [hx] at hb
    cases hb
    refine ⟨rfl, yesT ⟨.ref b, rfl, b, z.1, z.2, rfl, s2 _ _ (s0 _ _ hb2), fun t H3 s3 nt et => ?_⟩⟩
    have tD : t ≠ D := fun c => by rw [c, e2] at nt; cases nt
    refine ⟨vs, s3 _ _ e2, small1000 (by omega), same_updN (s2.trans s3) hD, vs ++ [.ref t], upd_same, by rw [List.length_append, hl]; rfl, ?_⟩
    rw [hw_upd (W := fun b => H0 b ≠ none ∨ b = D) (.inr rfl), List.take_add_one, hz, List.map_append]
    refine (RpAll.sm (Same.hw s3) hW).snoc (.lst (by rw [Hw.at (W := fun b => H0 b ≠ none ∨ b = D) (fun c => c.elim (fun c => c (s2.free nt)) tD)]; exact et) (.cons (.int _) (.cons (.int _) .nil)))
  · obtain ⟨s2, vs, e2, hl, hW⟩ := hP
    rw [hlw, List.take_length] at hW
    refine q D H2 (s0.trans s2) (s0.free hD) (.lst (by rw [Hw.at (W := fun b => H b ≠ none) (fun c => c (s0.free hD))]; exact e2) ?_)
    refine RpAll.sm (Hw.less (W := fun b => H b ≠ none) (W' := fun b => H0 b ≠ none ∨ b = D) fun b hb => .inl ?_) hW
    cases e : H b with
    | none => exact absurd e hb
    | some o => rw [s0 _ _ e]; exact Option.some_ne_none _
end
/-! ### the list itself, handed in however -/
abbrev sHan : Stmt := topS 37
abbrev nHan : List Str := ["spring", "thing", "kind", "one"]
theorem scHan : FnScope nHan ["spring", "thing"] (defScope sHan) := ⟨rfl, rfl, rfl, by decide +kernel, rfl, by decide +kernel, by decide +kernel⟩
def StL (z : StepT) (e : PyData) : Prop := e = stepD z ∨ e = pairL z
inductive StsL : List StepT → List PyData → Prop
  | nil : StsL [] []
  | cons {z : StepT} {S : List StepT} {e : PyData} {es : List PyData} : StL z e → StsL S es → StsL (z :: S) (e :: es)
theorem sts_self : ∀ S : List StepT, StsL S (S.map stepD)
  | [] => .nil
  | z :: S => .cons (.inl rfl) (sts_self S)
theorem sts_lists : ∀ S : List StepT, StsL S (S.map pairL)
  | [] => .nil
  | z :: S => .cons (.inr rfl) (sts_lists S)
theorem StsL.snoc : ∀ {S : List StepT} {es : List PyData} {z : StepT} {e : PyData}, StsL S es → StL z e → StsL (S ++ [z]) (es ++ [e])
  | _, _, _, _, .nil, h => .cons h .nil
  | _, _, _, _, .cons a b, h => .cons a (StsL.snoc b h)
theorem StsL.len {S : List StepT} {es : List PyData} (h : StsL S es) : es.length = S.length := by
  induction h with
  | nil => rfl
  | cons _ _ ih => rw [List.length_cons, List.length_cons, ih]
theorem StsL.at_ {S : List StepT} {es : List PyData} (h : StsL S es) : ∀ {i : Nat} {e : PyData} {z : StepT}, es[i]? = some e → S[i]? = some z → StL z e := by
  induction h with
  | nil => intro i e z h1; cases h1
  | cons a _ ih =>
    intro i e z h1 h2
    cases i with
    | zero => cases h1; cases h2; exact a
    | succ i => exact ih h1 h2
def spHan (r : Addr) : Sp := fun vs H Q _ => ∃ p0 S, vs = [.ref r, .ref p0] ∧ ReelAt H r ∧ Rp (Hw (fun b => b = r) H) (.ref p0) (roadD S) ∧ S.length ≤ 64 ∧ ∀ v d H', ReelAt H' r → Mv r H H' → Rp (Hw (fun b => b = r) H') v d → HandOf S d → (∃ p, v = .ref p) → Q v H'
theorem st_at {H : Hp} : ∀ {ws : List V} {S : List StepT}, RpAll H ws (S.map stepD) → StAt H ws S
  | [], [], _ => ⟨rfl, fun i s hs => nomatch hs⟩
  | w :: ws, z :: S, h => by
    cases h with
    | cons h1 h2 =>
      have i := st_at h2
      refine ⟨by rw [List.length_cons, List.length_cons, i.len], fun k s hs => ?_⟩
      cases k with
      | zero =>
        cases hs
        cases h1 with
        | @tup b xs _ hb hx =>
          cases hx with
          | cons a1 hx2 =>
            cases hx2 with
            | cons a2 hx3 =>
              cases hx3
              cases a1
              cases a2
              exact ⟨b, rfl, hb⟩
      | succ k => exact i.at_ k s hs
  | [], _ :: _, h => by cases h
  | _ :: _, [], h => by cases h
section
variable {P : Program} {w : World} {K : PySem.W.Frag} {mg : Str → Option Value} {base : Heap}
theorem ok_han {k : Nat} {f r : Addr} {fd : FuncData} (F : Fun K "_law_handed" "_law_handed" sHan f fd) (T : Nm mg) (CD : Cal P w K mg base k "_law_draw" ["spring", "many"] (spDraw r)) (CL : Cal P w K mg base k "_law_lists" ["thing"] spL1) (CLP : Cal P w K mg base k "_law_lists" ["thing"] spL2) : FnOk P w K mg base CX0 (k + 1) f fd ["spring", "thing"] (spHan r) := by
  refine F.ok scHan (fun vs H Q E ⟨_, _, e, _⟩ => by rw [e]; rfl) (fun cdv A outer s H vs Q E hr h => ?_)
  obtain ⟨p0, S, rfl, hre, hRw, l64, q⟩ := h
  have nd := scHan.nd
  refine ⟨_, (pss_cons (ps_set (i := 2) nd rfl (.inl rfl) (pe_cal CD hr (by rfl) (pa_cons (pv 0) (pa_cons pe_int pa_nil))))
      (pss_cons (ps_if (pt_cmpR op_eq (pv 2) pe_int (nomark _)) (pss_one (ps_ret (pe_cal CLP hr (by rfl) (pa_cons (pv 1) pa_nil)))) pss_nil)
      (pss_cons (ps_if (pt_cmpR op_eq (pv 2) pe_int (nomark _)) (pss_one (ps_ret (pe_lc (own := [("one", 3)]) (g := (gName 3)) (tt := tYes) rfl nd (pi_list (pv 1)) (blkOk_by (own := [("one", 3)]) (N := nHan) (sc := (defScope sHan)) (by decide +kernel)) (fun _ _ _ _ _ => (pg_name (i := 3) nd rfl (.inl rfl))) (fun _ _ _ _ _ => pts_nil) (fun _ _ _ _ _ => (pe_ifExp (pt_cmpR op_eq (pe_cal CD hr (by rfl) (pa_cons (pv 0) (pa_cons pe_int pa_nil))) pe_int (nomark _)) (pe_cal CL hr (by rfl) (pa_cons (pv 3) pa_nil)) (pv 3)))))) pss_nil)
      (pss_cons (ps_if (pt_cmpR op_eq (pv 2) pe_int (nomark _)) (pss_one (ps_ret (pe_callTy call_tuple_of (by rfl) T.tuple (by decide +kernel) (pa_cons (pe_lc (own := [("one", 3)]) (g := (gName 3)) (tt := tYes) rfl nd (pi_list (pv 1)) (blkOk_by (own := [("one", 3)]) (N := nHan) (sc := (defScope sHan)) (by decide +kernel)) (fun _ _ _ _ _ => (pg_name (i := 3) nd rfl (.inl rfl))) (fun _ _ _ _ _ => pts_nil) (fun _ _ _ _ _ => (pe_cal CL hr (by rfl) (pa_cons (pv 3) pa_nil)))) pa_nil)))) pss_nil)
      (pss_one (ps_ret (pe_ifExp (pt_cmpR op_eq (pv 2) pe_int (nomark _)) (pe_callTy call_tuple_of (by rfl) T.tuple (by decide +kernel) (pa_cons (pv 1) pa_nil)) (pv 1)))))))), ?_⟩
  obtain ⟨_, xs, e, hp0, hx⟩ := rp_list hRw
  cases e
  have hpr : p0 ≠ r := Hw.ne (W := fun b => b = r) hp0
  have hp := Hw.sub _ _ _ _ hp0
  have hlx : xs.length = S.length := by rw [hx.length, List.length_map]
  refine ⟨.ref r, rfl, 5, rfl, hre, by decide, by decide, fun x H1 re1 m1 x0 x1 => ?_⟩
  have m1w : Same (Hw (fun b => b = r) H) (Hw (fun b => b = r) H1) := m1.hw (W := fun b => b = r) rfl
  have hp1 := m1.keep p0 _ hpr hp
  have hx1 := RpAll.sm m1w hx
  have hS1 := st_at hx1
  have rowat : ∀ {i : Nat} {v : V} {H2 : Hp}, Mv r H1 H2 → xs[i]? = some v → ∃ (b : Addr) (z : StepT), S[i]? = some z ∧ v = .ref b ∧ b ≠ r ∧ H1 b = some (.tup [.int z.1, .int z.2]) ∧ H2 b = some (.tup [.int z.1, .int z.2]) := fun {i v H2} m2 hv => by
    have li : i < xs.length := (List.getElem?_eq_some_iff.mp hv).1
    obtain ⟨z, hz⟩ : ∃ z, S[i]? = some z := ⟨_, List.getElem?_eq_getElem (by omega)⟩
    obtain ⟨b, hb, hb2⟩ := hS1.at_ i z hz
    rw [hv] at hb
    cases hb
    have br := Hw.ne (W := fun b => b = r) hb2
    have h1 := Hw.sub _ _ _ _ hb2
    exact ⟨b, z, hz, rfl, br, h1, m2.keep _ _ br h1⟩
  have finish : ∀ {H2 : Hp} {p : Addr} {ys : List V} {es : List PyData}, ReelAt H2 r → Mv r H1 H2 → p ≠ r → (H2 p = some (.lst ys) ∨ H2 p = some (.tup ys)) → RpAll (Hw (fun b => b = r) H2) ys es → StsL S es → Q (.ref p) H2 := fun {H2 p ys es} re2 m2 hpr hp hys hes => by
    have hh : ∀ d, rowsD d = some es → HandOf S d := fun d e => ⟨es, e, hes.len, fun i e z h1 h2 => hes.at_ h1 h2⟩
    rcases hp with hp | hp
    · exact q _ (.list es) H2 re2 (m1.trans m2) (.lst (by rw [Hw.at (W := fun b => b = r) hpr]; exact hp) hys) (hh _ rfl) ⟨p, rfl⟩
    · exact q _ (.tuple es) H2 re2 (m1.trans m2) (.tup (by rw [Hw.at (W := fun b => b = r) hpr]; exact hp) hys) (hh _ rfl) ⟨p, rfl⟩
  refine ⟨.int x, rfl, rfl, _, rfl, ite2 (fun _ => ?_) (fun _ => ?_)⟩
  · refine ⟨.ref p0, rfl, p0, xs, S, rfl, hp1, st_at (RpAll.sm (Hw.sub (fun b => b = r) H1) hx1), l64, fun p H2 s2 np hH => ?_⟩
    obtain ⟨_, ys, e, hp', hys⟩ := rp_list (Rp.sm (Hw.less (W := fun b => b = r) (W' := fun b => H1 b ≠ none) fun b hb => by rw [hb]; exact re1.some) hH)
    cases e
    exact finish (re1.same s2) (Mv.of s2) (re1.new np) (.inl (Hw.sub _ _ _ _ hp')) hys (sts_lists S)
  have grow : ∀ {D : Addr} {ws : List V} {es : List PyData} {i : Nat} {H2 H3 : Hp} {v : V} {e : PyData} {z : StepT}, H1 D = none → D ≠ r → S[i]? = some z → ReelAt H3 r → Mv r H1 H2 → Mv r H2 H3 → H2 D = some (.lst ws) → ws.length = i → RpAll (Hw (fun b => b = r ∨ b = D) H2) ws es → StsL (S.take i) es → Rp (Hw (fun b => b = r ∨ b = D) H3) v e → StL z e →
      ∃ acc, H3 D = some (.lst acc) ∧ acc.length < sizeLine ∧ ∃ ws es, ReelAt (upd H3 D (.lst (acc ++ [v]))) r ∧ Mv r H1 (upd H3 D (.lst (acc ++ [v]))) ∧ (upd H3 D (.lst (acc ++ [v]))) D = some (.lst ws) ∧ ws.length = i + 1 ∧ RpAll (Hw (fun b => b = r ∨ b = D) (upd H3 D (.lst (acc ++ [v])))) ws es ∧ StsL (S.take (i + 1)) es := fun {D ws es i H2 H3 v e z} hD Dr hrow re3 m2 m3 eD hl hw hes hv he => by
    have li : i < S.length := (List.getElem?_eq_some_iff.mp hrow).1
    refine ⟨ws, m3.keep _ _ Dr eD, small1000 (by omega), ws ++ [v], es ++ [e], re3.store Dr, (m2.trans m3).upd hD, upd_same, by rw [List.length_append, hl]; rfl, ?_, ?_⟩
    · rw [hw_upd (W := fun b => b = r ∨ b = D) (.inr rfl)]
      exact (RpAll.sm (m3.hw (W := fun b => b = r ∨ b = D) (.inl rfl)) hw).snoc hv
    · rw [List.take_add_one, hrow]
      exact hes.snoc he
  have newl : ∀ {D t : Addr} {z : StepT} {H3 H4 : Hp} {ws : List V}, ReelAt H3 r → H3 D = some (.lst ws) → H3 t = none → H4 t = some (.lst [.int z.1, .int z.2]) → Rp (Hw (fun b => b = r ∨ b = D) H4) (.ref t) (pairL z) := fun {D t z H3 H4 ws} re3 eD3 nt et =>
    .lst (by rw [Hw.at (W := fun b => b = r ∨ b = D) (fun c => c.elim (re3.new nt) fun c => by rw [c, eD3] at nt; cases nt)]; exact et) (.cons (.int _) (.cons (.int _) .nil))
  refine ⟨.int x, rfl, rfl, _, rfl, ite2 (fun _ => ?_) (fun _ => ?_)⟩
  · refine ⟨.ref p0, rfl, p0, rfl, ⟨xs, SqL.of hp1⟩, fun D hD => ?_⟩
    have Dr := re1.new hD
    refine lc_list (xs := xs) (fun i H2 => ∃ ws es, ReelAt H2 r ∧ Mv r H1 H2 ∧ H2 D = some (.lst ws) ∧ ws.length = i ∧ RpAll (Hw (fun b => b = r ∨ b = D) H2) ws es ∧ StsL (S.take i) es) ⟨[], [], re1.same (same_upd hD), Mv.of (same_upd hD), upd_same, rfl, .nil, .nil⟩ (fun i H2 _ ⟨_, _, _, m2, _⟩ => SqL.of (m2.keep _ _ hpr hp1)) (fun i x H2 hxi hP => ?_) (fun H2 hP => ?_)
    · obtain ⟨ws, es, re2, m2, eD, hl, hw, hes⟩ := hP
      refine ⟨rfl, yesT ⟨.ref r, rfl, 2, rfl, re2, by decide, by decide, fun y H3 re3 m3 _ _ => ⟨rfl, _, rfl, ite2 (fun _ => ?_) (fun _ => ?_)⟩⟩⟩
      · obtain ⟨b, z, hrow, rfl, br, h1, hb⟩ := rowat (m2.trans m3) hxi
        refine ⟨.ref b, rfl, b, z.1, z.2, rfl, hb, fun t H4 s4 nt et => ?_⟩
        exact grow hD Dr hrow (re3.same s4) m2 (m3.trans (Mv.of s4)) eD hl hw hes (newl re3 (m3.keep _ _ Dr eD) nt et) (.inr rfl)
      · obtain ⟨b, z, hrow, rfl, br, h1, hb⟩ := rowat (m2.trans m3) hxi
        have bD : b ≠ D := fun c => by rw [c, hD] at h1; cases h1
        refine ⟨.ref b, rfl, grow hD Dr hrow re3 m2 m3 eD hl hw hes (.tup (by rw [Hw.at (W := fun b => b = r ∨ b = D) (fun c => c.elim br bD)]; exact hb) (.cons (.int _) (.cons (.int _) .nil))) (.inl rfl)⟩
    · obtain ⟨ws, es, re2, m2, eD, hl, hw, hes⟩ := hP
      rw [hlx, List.take_length] at hes
      exact finish re2 m2 Dr (.inl eD) (RpAll.sm (Hw.less (W := fun b => b = r) (W' := fun b => b = r ∨ b = D) fun b hb => .inl hb) hw) hes
  refine ⟨.int x, rfl, rfl, _, rfl, ite2 (fun _ => ?_) (fun _ => ?_)⟩
  · refine ⟨.ref p0, rfl, p0, rfl, ⟨xs, SqL.of hp1⟩, fun D hD => ?_⟩
    have Dr := re1.new hD
    refine lc_list (xs := xs) (fun i H2 => ∃ ws es, ReelAt H2 r ∧ Mv r H1 H2 ∧ H2 D = some (.lst ws) ∧ ws.length = i ∧ RpAll (Hw (fun b => b = r ∨ b = D) H2) ws es ∧ StsL (S.take i) es) ⟨[], [], re1.same (same_upd hD), Mv.of (same_upd hD), upd_same, rfl, .nil, .nil⟩ (fun i H2 _ ⟨_, _, _, m2, _⟩ => SqL.of (m2.keep _ _ hpr hp1)) (fun i x H2 hxi hP => ?_) (fun H2 hP => ?_)
    · obtain ⟨ws, es, re2, m2, eD, hl, hw, hes⟩ := hP
      obtain ⟨b, z, hrow, rfl, br, h1, hb⟩ := rowat m2 hxi
      refine ⟨rfl, yesT ⟨.ref b, rfl, b, z.1, z.2, rfl, hb, fun t H4 s4 nt et => ?_⟩⟩
      exact grow hD Dr hrow (re2.same s4) m2 (Mv.of s4) eD hl hw hes (newl re2 eD nt et) (.inr rfl)
    · obtain ⟨ws, es, re2, m2, eD, hl, hw, hes⟩ := hP
      rw [hlx, List.take_length] at hes
      refine ⟨D, ws, rfl, .inl ⟨SqL.of eD, fun l nl => ?_⟩⟩
      have sl : Same H2 (upd H2 l (.tup ws)) := same_upd nl
      exact finish (re2.same sl) (m2.trans (Mv.of sl)) (re2.new nl) (.inr upd_same) (RpAll.sm (Same.hw sl) (RpAll.sm (Hw.less (W := fun b => b = r) (W' := fun b => b = r ∨ b = D) fun b hb => .inl hb) hw)) hes
  refine ⟨.int x, rfl, rfl, _, rfl, ite2 (fun _ => ?_) (fun _ => ?_)⟩
  · refine ⟨.ref p0, rfl, p0, xs, rfl, .inl ⟨SqL.of hp1, fun l nl => ?_⟩⟩
    have sl : Same H1 (upd H1 l (.tup xs)) := same_upd nl
    exact finish (re1.same sl) (Mv.of sl) (re1.new nl) (.inr upd_same) (RpAll.sm (Same.hw sl) hx1) (sts_self S)
  · exact ⟨.ref p0, rfl, finish re1 (Mv.refl r H1) hpr (.inl hp1) hx1 (sts_self S)⟩
end
end CL
set_option Elab.async false
set_option linter.all false
set_option pp.maxSteps 900
set_option maxRecDepth 100000
set_option maxHeartbeats 2000000
namespace CL
open PySem PySem.Spec PyProof.Rows L2 GE
abbrev sOth : Stmt := topS 41
abbrev nOth : List Str := ["spring", "road", "some", "at", "first", "last", "odd"]
theorem scOth : FnScope nOth ["spring", "road"] (defScope sOth) := ⟨rfl, rfl, rfl, by decide +kernel, rfl, by decide +kernel, by decide +kernel⟩
section
variable {r : Addr} {W : Addr → Prop} {G : Gam} {σ : L2.St}
theorem x_to {K : PySem.W.Frag} {te ti : TE} {ds : List PyData} (k : Nat) (a : EvX r W G σ te (.list ds)) (b : EvI r W G σ ti (· = (k : Int))) : EvX r W G σ (tSl (rSlL K) te tNoPart (tPart ti)) (.list (ds.take k)) := fun H Q s q =>
  a H _ s fun v d H1 re1 m1 rp1 e1 => b H1 _ (s.mv re1 m1) fun i H2 re2 m2 e2 => by
    subst e1 e2
    obtain ⟨p, xs, rfl, hp, hx⟩ := rp_list (Rp.sm (m2.hw s.wk.reel) rp1)
    refine ⟨_, rfl, p, xs, rfl, SqL.of (Hw.sub W H2 _ _ hp), fun t nt => ?_⟩
    rw [cut_to]
    exact q (.ref t) (.list (ds.take k)) _ (re2.same (same_upd nt)) ((m1.trans m2).trans (Mv.of (same_upd nt))) (.lst (by rw [Hw.at ((s.wk.mv re2 (m1.trans m2)).out nt)]; exact upd_same) (RpAll.sm (Same.hw (same_upd nt)) (hx.take k))) rfl
theorem x_from {K : PySem.W.Frag} {te ti : TE} {ds : List PyData} (k : Nat) (a : EvX r W G σ te (.list ds)) (b : EvI r W G σ ti (· = (k : Int))) : EvX r W G σ (tSl (rSlL K) te (tPart ti) tNoPart) (.list (ds.drop k)) := fun H Q s q =>
  a H _ s fun v d H1 re1 m1 rp1 e1 => b H1 _ (s.mv re1 m1) fun i H2 re2 m2 e2 => by
    subst e1 e2
    obtain ⟨p, xs, rfl, hp, hx⟩ := rp_list (Rp.sm (m2.hw s.wk.reel) rp1)
    refine ⟨_, rfl, p, xs, rfl, SqL.of (Hw.sub W H2 _ _ hp), fun t nt => ?_⟩
    rw [cut_from]
    exact q (.ref t) (.list (ds.drop k)) _ (re2.same (same_upd nt)) ((m1.trans m2).trans (Mv.of (same_upd nt))) (.lst (by rw [Hw.at ((s.wk.mv re2 (m1.trans m2)).out nt)]; exact upd_same) (RpAll.sm (Same.hw (same_upd nt)) (hx.drop k))) rfl
end
theorem xs_setN {r : Addr} {W : Addr → Prop} {G : Gam} {σ : L2.St} {i : Nat} {ta : TA} {ds : List PyData} {B : TS} {D : Ends} {H : Hp} (s : Se r W G H) (hn : ds.length ≤ 1000) (a : EvXs r W G σ ta ds) (k : ∀ vs H1 p, ReelAt H1 r → Mv r H H1 → RpAll (Hw W H1) vs ds → H1 p = none → B D (σ.set i (some (.ref p))) (upd H1 p (.lst vs))) : tSeq (tAsg (tLst ta) (gName i)) B D σ H :=
  a H _ s fun vs H1 re1 m1 rp1 => ⟨small_le (by rw [rp1.length]; exact hn), fun p np => k vs H1 p re1 m1 rp1 np⟩
theorem for_lstE {r : Addr} {W : Addr → Prop} {G : Gam} {σ : L2.St} {K : PySem.W.Frag} {g : TG} {tb : TS} {ta : TA} {ds : List PyData} {D : Ends} {H : Hp} (s : Se r W G H) (hn : ds.length ≤ 1000) (a : EvXs r W G σ ta ds) (k : ∀ vs H1 L, ReelAt H1 r → Mv r H H1 → RpAll (Hw W H1) vs ds → H1 L = none → tFor (iList K (tC (.ref L))) g tb D σ (upd H1 L (.lst vs))) : tFor (iList K (tLst ta)) g tb D σ H :=
  a H _ s fun vs H1 re1 m1 rp1 => ⟨small_le (by rw [rp1.length]; exact hn), fun L nL => k vs H1 L re1 m1 rp1 nL⟩
def spOth (r : Addr) : Sp := fun vs H Q _ => ∃ p0 S, vs = [.ref r, .ref p0] ∧ ReelAt H r ∧ Rp (Hw (fun b => b = r) H) (.ref p0) (roadD S) ∧ S.length ≤ 64 ∧ ∀ v d H', ReelAt H' r → Mv r H H' → Rp (Hw (fun b => b = r) H') v d → OddOf S d → Q v H'
section
variable {P : Program} {w : World} {K : PySem.W.Frag} {mg : Str → Option Value} {base : Heap}
theorem ok_oth {f r : Addr} {fd : FuncData} (F : Fun K "_law_otherwise" "_law_otherwise" sOth f fd) (T : Nm mg) (CD : Cal P w K mg base 1 "_law_draw" ["spring", "many"] (spDraw r)) : FnOk P w K mg base CX0 2 f fd ["spring", "road"] (spOth r) := by
  refine F.ok scOth (fun vs H Q E ⟨_, _, e, _⟩ => by rw [e]; rfl) (fun cdv A outer s H vs Q E hr h => ?_)
  obtain ⟨p0, S, rfl, hre, hRw, l64, q⟩ := h
  have nd := scOth.nd
  refine ⟨_, (pss_cons (ps_set (i := 2) nd rfl (.inl rfl) (pe_lst (pa_cons pe_non (pa_cons pe_int (pa_cons pe_str (pa_cons pe_dnewK (pa_cons pe_bl (pa_cons (pe_op op_cat (pv 1) (pe_lst (pa_cons (pe_tup (pa_cons pe_int (pa_cons pe_int pa_nil))) pa_nil))) (pa_cons (pe_lst (pa_cons (pe_tup pa_nil) pa_nil)) (pa_cons (pe_lst (pa_cons pe_non pa_nil)) (pa_cons (pe_lst (pa_cons pe_int pa_nil)) (pa_cons (pe_op op_cat (pv 1) (pe_lst (pa_cons pe_non pa_nil))) (pa_cons (pe_lst (pa_cons (pe_lst (pa_cons pe_int (pa_cons pe_int pa_nil))) (pa_cons pe_int pa_nil))) (pa_cons (pe_op op_cat (pv 1) (pe_lst (pa_cons (pe_lst pa_nil) pa_nil))) pa_nil))))))))))))))
      (pss_cons (ps_if (pt_cmpR (op_neE hr.units0) (pv 1) (pe_lst pa_nil) (nomark _)) (pss_cons (ps_set (i := 3) nd rfl (.inl rfl) (pe_cal (CD.mono (by decide)) hr (by rfl) (pa_cons (pv 0) (pa_cons (pe_callB call_len_seq (by rfl) T.len PySem.boot_len (pa_cons (pv 1) pa_nil)) pa_nil))))
      (pss_cons (ps_asg (pe_ix ix_list (pv 1) (pv 3) (fun _ _ => rfl)) (pg_tup rfl (pgs_cons (pg_name (i := 4) nd rfl (.inl rfl)) (pgs_cons (pg_name (i := 5) nd rfl (.inl rfl)) pgs_nil))))
      (pss_cons (ps_for PassesOwn.never rfl (pi_list (pe_lst (pa_cons (pe_tup (pa_cons (pv 4) (pa_cons (pe_op op_add (pv 5) pe_int) pa_nil))) (pa_cons (pe_tup (pa_cons (pe_op op_add (pv 4) pe_int) (pa_cons (pv 5) pa_nil))) (pa_cons (pe_tup (pa_cons (pv 4) (pa_cons (pv 5) (pa_cons pe_int pa_nil)))) (pa_cons (pe_tup (pa_cons (pv 4) pa_nil)) (pa_cons (pe_tup (pa_cons (pv 5) (pa_cons (pe_op op_sub (pv 4) pe_int) pa_nil))) (pa_cons (pe_tup (pa_cons pe_bl (pa_cons (pv 5) pa_nil))) pa_nil)))))))) (pg_name (i := 6) nd rfl (.inl rfl)) (pss_one (ps_expr (pe_bm PySem.F.plainAttrs_list PySem.F.slot_list_append PySem.F.type_list_append mt_append (pv 2) (pa_cons (pe_op op_cat (pe_op op_cat (pe_slice sl_list (pv 1) po_none (po_some (pv 3))) (pe_lst (pa_cons (pv 6) pa_nil))) (pe_slice sl_list (pv 1) (po_some (pe_op op_add (pv 3) pe_int)) po_none)) pa_nil)))))
      (pss_one (ps_set (i := 2) nd rfl (.inl rfl) (pe_op op_cat (pv 2) (pe_lst (pa_cons (pe_op op_cat (pe_slice sl_list (pv 1) po_none (po_some (pv 3))) (pe_slice sl_list (pv 1) (po_some (pe_op op_add (pv 3) pe_int)) po_none)) (pa_cons (pe_op op_cat (pe_slice sl_list (pv 1) po_none (po_some (pe_op op_add (pv 3) pe_int))) (pe_slice sl_list (pv 1) (po_some (pv 3)) po_none)) pa_nil))))))))) pss_nil)
      (pss_one (ps_ret (pe_ix ix_list (pv 2) (pe_cal (CD.mono (by decide)) hr (by rfl) (pa_cons (pv 0) (pa_cons (pe_callB call_len_seq (by rfl) T.len PySem.boot_len (pa_cons (pv 2) pa_nil)) pa_nil))) (fun _ _ => rfl)))))), ?_⟩
  have lS : (S.map stepD).length ≤ 1000 := by rw [List.length_map]; omega
  have s0 : Se r (fun b => b = r) [(.ref p0, roadD S)] H := ⟨hre, ⟨rfl, fun b hb => by rw [hb]; exact hre.some⟩, fun p hp => by rw [List.mem_singleton.mp hp]; exact hRw⟩
  have xr : ∀ {W : Addr → Prop} {G : Gam} {σ : L2.St}, σ[1]? = some (some (.ref p0)) → (V.ref p0, roadD S) ∈ G → EvX r W G σ (tVar 1) (.list (S.map stepD)) := fun h1 h2 => x_var h1 h2
  refine xs_setN (ds := odds0 S) s0 (by show 12 ≤ 1000; decide) (
    xs_cons x_non (xs_cons (xi ev_int) (xs_cons x_str (xs_cons x_dict (xs_cons x_bl (xs_cons (x_cat (xr rfl (by simp)) (x_lst (xs_cons (x_tup (xs_cons (xi ev_int) (xs_cons (xi ev_int) xs_nil))) xs_nil)) lS) (xs_cons (x_lst (xs_cons (x_tup xs_nil) xs_nil)) (xs_cons (x_lst (xs_cons x_non xs_nil)) (xs_cons (x_lst (xs_cons (xi ev_int) xs_nil)) (xs_cons (x_cat (xr rfl (by simp)) (x_lst (xs_cons x_non xs_nil)) lS) (xs_cons (x_lst (xs_cons (x_lst (xs_cons (xi ev_int) (xs_cons (xi ev_int) xs_nil))) (xs_cons (xi ev_int) xs_nil))) (xs_cons (x_cat (xr rfl (by simp)) (x_lst (xs_cons (x_lst xs_nil) xs_nil)) lS) xs_nil)))))))))))) fun vs0 H1 ps re1 m1 rps nps => ?_
  have l12 : vs0.length = 12 := rps.length
  have psr := re1.new nps
  have nps0 : H ps = none := by
    cases e : H ps with
    | none => rfl
    | some o => rw [m1.keep ps o psr e] at nps; cases nps
  have road1 : Rp (Hw (fun b => b = r) H1) (.ref p0) (roadD S) := Rp.sm (m1.hw (W := fun b => b = r) rfl) hRw
  have s1 := same_upd (o := .lst vs0) nps
  have e1 : (upd H1 ps (.lst vs0)) ps = some (.lst vs0) := upd_same
  have toW2 : Same (Hw (fun b => b = r) H1) (Hw (fun b => b = r ∨ b = ps) (upd H1 ps (.lst vs0))) := fun b o e => by
    have hb := Hw.sub _ _ _ _ e
    have hbr := Hw.ne (W := fun b => b = r) e
    rw [Hw.at (W := fun b => b = r ∨ b = ps) (fun c => c.elim hbr fun c => by rw [c, nps] at hb; cases hb)]
    exact s1 _ _ hb
  have road2 := Rp.sm toW2 road1
  have rps2 := RpAll.sm toW2 rps
  have hodd : ∀ d ∈ odds0 S, OddOf S d := fun d hd => .inl hd
  have re2 := re1.same s1
  have m2 : Mv r H (upd H1 ps (.lst vs0)) := m1.trans (Mv.of s1)
  generalize upd H1 ps (.lst vs0) = H2 at s1 e1 road2 rps2 re2 m2 ⊢
  generalize odds0 S = dd at rps2 hodd
  clear toW2 rps road1 s0 nps
  dsimp only [gName]
  show tSeq _ _ _ [some (.ref r), some (.ref p0), some (.ref ps), none, none, none, none] H2
  refine seqP (fun σ' H' => ∃ p vs ds y3 y4 y5 y6, σ' = [some (.ref r), some (.ref p0), some (.ref p), y3, y4, y5, y6] ∧ ReelAt H' r ∧ Mv r H H' ∧ p ≠ r ∧ H' p = some (.lst vs) ∧ RpAll (Hw (fun b => b = r) H') vs ds ∧ (∀ d ∈ ds, OddOf S d) ∧ 1 ≤ vs.length ∧ vs.length ≤ 20) (fun σ' H' hR => ?_) (fun nx hnx => ?_)
  · obtain ⟨p, vs, ds, y3, y4, y5, y6, rfl, re3, m3, pr, ep, hds, hod, l1, l20⟩ := hR
    refine ⟨.ref p, rfl, .ref r, rfl, .ref p, rfl, p, vs, rfl, .inl (SqL.of ep), (vs.length : Int), rfl, re3, by omega, by rw [p140]; omega, fun x H4 re4 m4 x0 x1 => ?_⟩
    obtain ⟨xn, rfl⟩ : ∃ xn : Nat, x = (xn : Int) := ⟨x.toNat, by omega⟩
    have hxl : xn < vs.length := by omega
    obtain ⟨d, hd, hRd⟩ := (RpAll.sm (m4.hw (W := fun b => b = r) rfl) hds).get (List.getElem?_eq_getElem hxl)
    exact ⟨p, vs, (xn : Int), vs[xn], rfl, rfl, SqL.of (m4.keep _ _ pr ep), atI_nat (List.getElem?_eq_getElem hxl), q _ d H4 re4 (m3.trans m4) hRd (hod d (List.mem_of_getElem? hd))⟩
  have start2 : Se r (fun b => b = r ∨ b = ps) [(.ref p0, roadD S)] H2 := ⟨re2, ⟨.inl rfl, fun b hb => by
    rcases hb with rfl | rfl
    · exact re2.some
    · rw [e1]; exact Option.some_ne_none _⟩, fun p hp => by rw [List.mem_singleton.mp hp]; exact road2⟩
  obtain ⟨_, xs, e0, hp0, hx0⟩ := rp_list road2
  cases e0
  have hp0' := Hw.sub _ _ _ _ hp0
  have hlx : xs.length = S.length := by rw [hx0.length, List.length_map]
  have fin : ∀ {p : Addr} {vs : List V} {ds : List PyData} {y3 y4 y5 y6 : Option V} {H' : Hp}, ReelAt H' r → Mv r H H' → p ≠ r → H' p = some (.lst vs) → RpAll (Hw (fun b => b = r) H') vs ds → (∀ d ∈ ds, OddOf S d) → 1 ≤ vs.length → vs.length ≤ 20 → nx [some (.ref r), some (.ref p0), some (.ref p), y3, y4, y5, y6] H' := fun {p vs ds y3 y4 y5 y6 H'} a b c d e f g h => hnx _ _ ⟨p, vs, ds, y3, y4, y5, y6, rfl, a, b, c, d, e, f, g, h⟩
  refine ⟨.ref p0, rfl, small_le (by show 0 ≤ 1000; decide), fun e ne => ⟨p0, e, xs, rfl, rfl, (same_upd ne : Same H2 _) _ _ hp0', upd_same, _, rfl, ?_⟩⟩
  have s3 := same_upd (o := .lst []) ne
  have re3 := re2.same s3
  have m3 := m2.trans (Mv.of s3)
  have ep3 := s3 _ _ e1
  have start3 := start2.same s3
  have rps3 := RpAll.sm (Same.hw (W := fun b => b = r ∨ b = ps) s3) rps2
  have hp03 := s3 _ _ hp0'
  have hx3 := RpAll.sm (Same.hw (W := fun b => b = r ∨ b = ps) s3) hx0
  generalize upd H2 e (.lst []) = H3 at s3 re3 m3 ep3 start3 rps3 hp03 hx3 ⊢
  cases hS : S with
  | nil =>
    have : xs = [] := List.eq_nil_of_length_eq_zero (by rw [hlx, hS]; rfl)
    rw [this]
    refine iteF ?_
    exact fin re3 m3 psr ep3 (RpAll.sm (Hw.less (W := fun b => b = r) (W' := fun b => b = r ∨ b = ps) fun b hb => .inl hb) rps3) hodd (by omega) (by omega)
  | cons zz SS =>
    have hne : xs.isEmpty = false := by
      cases hx : xs with
      | nil => rw [hx, hS] at hlx; cases hlx
      | cons a b => rfl
    rw [hne]
    have hl1 : 1 ≤ S.length := by rw [hS]; exact Nat.succ_le_succ (Nat.zero_le _)
    clear hS
    refine iteT ?_
    refine ⟨.ref r, rfl, .ref p0, rfl, p0, xs, rfl, .inl (SqL.of hp03), (xs.length : Int), rfl, re3, by omega, by rw [p140]; omega, fun at_ H4 re4 m4 a0 a1 => ?_⟩
    obtain ⟨k, rfl⟩ : ∃ k : Nat, at_ = (k : Int) := ⟨at_.toNat, by omega⟩
    have start4 := start3.mv re4 m4
    have ep4 := m4.keep ps _ psr ep3
    have hp0r : p0 ≠ r := fun z => Hw.ne (W := fun b => b = r ∨ b = ps) hp0 (.inl z)
    have hp04 := m4.keep p0 _ hp0r hp03
    have rps4 := RpAll.sm (m4.hw (W := fun b => b = r ∨ b = ps) (.inl rfl)) rps3
    have hS4 := st_at (RpAll.sm (m4.hw (W := fun b => b = r ∨ b = ps) (.inl rfl)) hx3)
    have m4' := m3.trans m4
    obtain ⟨z, hz⟩ : ∃ z, S[k]? = some z := ⟨_, List.getElem?_eq_getElem (by omega)⟩
    obtain ⟨b, hb, hb2⟩ := hS4.at_ k z hz
    dsimp only [gName]
    show tSeq _ _ _ [some (.ref r), some (.ref p0), some (.ref ps), some (.int (k : Int)), none, none, none] H4
    refine ⟨.ref p0, rfl, .int (k : Int), rfl, p0, xs, (k : Int), .ref b, rfl, rfl, SqL.of hp04, atI_nat hb, b, _, rfl, SqT.of (Hw.sub _ _ _ _ hb2), rfl, .int z.1, _, rfl, .int z.2, _, rfl, rfl, ?_⟩
    show tSeq _ _ _ [some (.ref r), some (.ref p0), some (.ref ps), some (.int (k : Int)), some (.int z.1), some (.int z.2), none] H4
    refine for_lstE (ds := oddsAt z) start4 (by show 6 ≤ 1000; decide) (xs_cons (x_tup (xs_cons (xi (ev_varI (x := z.1) rfl)) (xs_cons (xi (evi_add (ev_varI (x := z.2) rfl) ev_int)) xs_nil))) (xs_cons (x_tup (xs_cons (xi (evi_add (ev_varI (x := z.1) rfl) ev_int)) (xs_cons (xi (ev_varI (x := z.2) rfl)) xs_nil))) (xs_cons (x_tup (xs_cons (xi (ev_varI (x := z.1) rfl)) (xs_cons (xi (ev_varI (x := z.2) rfl)) (xs_cons (xi ev_int) xs_nil)))) (xs_cons (x_tup (xs_cons (xi (ev_varI (x := z.1) rfl)) xs_nil)) (xs_cons (x_tup (xs_cons (xi (ev_varI (x := z.2) rfl)) (xs_cons (xi (evi_sub (ev_varI (x := z.1) rfl) ev_int)) xs_nil))) (xs_cons (x_tup (xs_cons x_bl (xs_cons (xi (ev_varI (x := z.2) rfl)) xs_nil))) xs_nil)))))) fun us H5 L re5 m5 rpu nL => ?_
    have s6 := same_upd (o := .lst us) nL
    have eL : (upd H5 L (.lst us)) L = some (.lst us) := upd_same
    have re6 := re5.same s6
    have m6 := m4'.trans (m5.trans (Mv.of s6))
    have start6 := (start4.mv re5 m5).same s6
    have ep6 := s6 _ _ (m5.keep ps _ psr ep4)
    have rps6 := RpAll.sm (Same.hw (W := fun b => b = r ∨ b = ps) s6) (RpAll.sm (m5.hw (W := fun b => b = r ∨ b = ps) (.inl rfl)) rps4)
    have rpu6 := RpAll.sm (Same.hw (W := fun b => b = r ∨ b = ps) s6) rpu
    have Lr := re5.new nL
    have Lps : L ≠ ps := fun c => by rw [c, m5.keep ps _ psr ep4] at nL; cases nL
    generalize upd H5 L (.lst us) = H6 at s6 eL re6 m6 start6 ep6 rps6 rpu6 ⊢
    refine ⟨L, rfl, ⟨_, SqL.of eL⟩, for_list (xs := us) (fun i σ H' => ∃ y6 vs ds, σ = [some (.ref r), some (.ref p0), some (.ref ps), some (.int (k : Int)), some (.int z.1), some (.int z.2), y6] ∧ Se r (fun b => b = r ∨ b = ps) [(.ref p0, roadD S)] H' ∧ Mv r H H' ∧ H' ps = some (.lst vs) ∧ RpAll (Hw (fun b => b = r ∨ b = ps) H') vs ds ∧ (∀ d ∈ ds, OddOf S d) ∧ vs.length = 12 + i ∧ H' L = some (.lst us) ∧ RpAll (Hw (fun b => b = r ∨ b = ps) H') us (oddsAt z)) ⟨none, vs0, dd, rfl, start6, m6, ep6, rps6, hodd, l12, eL, rpu6⟩ (fun i σ H' _ hP => ?_) (fun i x σ H' hx hP => ?_) (fun σ H' hP => ?_)⟩
    · obtain ⟨_, _, _, _, _, _, _, _, _, _, eL', _⟩ := hP
      exact SqL.of eL'
    · obtain ⟨y6, vs, ds, rfl, st, m, ep, rpv, hod, hlv, eL', rpu'⟩ := hP
      have hi : i < us.length := (List.getElem?_eq_some_iff.mp hx).1
      have lu : us.length = 6 := rpu'.length
      obtain ⟨o, ho, hRo⟩ := rpu'.get hx
      dsimp only [gName]
      show tDrop _ _ [some (.ref r), some (.ref p0), some (.ref ps), some (.int (k : Int)), some (.int z.1), some (.int z.2), some x] H'
      have st2 : Se r (fun b => b = r ∨ b = ps) [(x, o), (.ref p0, roadD S)] H' := ⟨st.re, st.wk, st.ok.cons hRo⟩
      have xr2 : EvX r (fun b => b = r ∨ b = ps) [(x, o), (.ref p0, roadD S)] [some (.ref r), some (.ref p0), some (.ref ps), some (.int (k : Int)), some (.int z.1), some (.int z.2), some x] (tVar 1) (.list (S.map stepD)) := x_var rfl (List.mem_cons_of_mem _ List.mem_cons_self)
      have ltk : ∀ n : Nat, ((S.map stepD).take n).length ≤ 900 := fun n => by rw [List.length_take, List.length_map]; omega
      refine ⟨.ref ps, rfl, .inl ⟨rfl, _, SqL.of ep⟩, ?_⟩
      refine (show EvX r (fun b => b = r ∨ b = ps) [(x, o), (.ref p0, roadD S)] [some (.ref r), some (.ref p0), some (.ref ps), some (.int (k : Int)), some (.int z.1), some (.int z.2), some x] _ (.list ((S.map stepD).take k ++ [o] ++ (S.map stepD).drop (k + 1))) from
        x_cat (x_cat (x_to k xr2 (ev_varI (x := (k : Int)) rfl)) (x_lst (xs_cons (x_var rfl List.mem_cons_self) xs_nil)) (by have := ltk k; omega) (by show 1 ≤ 1000; decide)) (x_from (k + 1) xr2 (evi_add (ev_varI (x := (k : Int)) rfl) ev_int)) (by have := ltk k; rw [List.length_append]; simp only [List.length_cons, List.length_nil]; omega) (by rw [List.length_drop]; omega)) H' _ st2 fun v d H7 re7 m7 rp7 e7 => ?_
      subst e7
      refine ⟨ps, vs, v, rfl, rfl, m7.keep ps _ psr ep, small1000 (by omega), ?_⟩
      have hadd : OddOf S (.list ((S.map stepD).take k ++ [o] ++ (S.map stepD).drop (k + 1))) := .inr ⟨k, z, hz, List.mem_append_left _ (List.mem_map.mpr ⟨o, List.mem_of_getElem? ho, rfl⟩)⟩
      refine ⟨_, vs ++ [v], ds ++ [PyData.list ((S.map stepD).take k ++ [o] ++ (S.map stepD).drop (k + 1))], rfl, ?_, (m.trans m7).upd nps0, upd_same, ?_, fun d hd => ?_, by rw [List.length_append, hlv]; rfl, by rw [upd_ne Lps]; exact m7.keep L _ Lr eL', ?_⟩
      · have st7 := st.mv re7 m7
        refine ⟨st7.re.store psr, ⟨.inl rfl, fun b hb => ?_⟩, fun p hp => ?_⟩
        · rcases hb with rfl | rfl
          · exact (st7.re.store psr).some
          · rw [upd_same]; exact Option.some_ne_none _
        · rw [hw_upd (W := fun b => b = r ∨ b = ps) (.inr rfl)]
          exact st7.ok p hp
      · rw [hw_upd (W := fun b => b = r ∨ b = ps) (.inr rfl)]
        exact (RpAll.sm (m7.hw (W := fun b => b = r ∨ b = ps) (.inl rfl)) rpv).snoc rp7
      · rcases List.mem_append.mp hd with hd | hd
        · exact hod d hd
        · rw [List.mem_singleton.mp hd]; exact hadd
      · rw [hw_upd (W := fun b => b = r ∨ b = ps) (.inr rfl)]
        exact RpAll.sm (m7.hw (W := fun b => b = r ∨ b = ps) (.inl rfl)) rpu'
    · obtain ⟨y6, vs, ds, rfl, st, m, ep, rpv, hod, hlv, eL', rpu'⟩ := hP
      have lu : us.length = 6 := rpu'.length
      have lss := Hw.less (H := H') (W := fun b => b = r) (W' := fun b => b = r ∨ b = ps) fun b hb => .inl hb
      have st3 : Se r (fun b => b = r) [(.ref ps, .list ds), (.ref p0, roadD S)] H' := ⟨st.re, ⟨rfl, fun b hb => by rw [hb]; exact st.re.some⟩, fun p hp => by
        rcases List.mem_cons.mp hp with rfl | hp
        · exact .lst (by rw [Hw.at (W := fun b => b = r) psr]; exact ep) (RpAll.sm lss rpv)
        · rw [List.mem_singleton.mp hp]; exact Rp.sm lss (st.ok _ List.mem_cons_self)⟩
      have hlen : ds.length = 18 := by rw [← rpv.length, hlv, lu]
      have xr3 : EvX r (fun b => b = r) [(.ref ps, .list ds), (.ref p0, roadD S)] [some (.ref r), some (.ref p0), some (.ref ps), some (.int (k : Int)), some (.int z.1), some (.int z.2), y6] (tVar 1) (.list (S.map stepD)) := x_var rfl (List.mem_cons_of_mem _ List.mem_cons_self)
      have ltk : ∀ n : Nat, ((S.map stepD).take n).length ≤ 1000 := fun n => by rw [List.length_take, List.length_map]; omega
      have ldr : ∀ n : Nat, ((S.map stepD).drop n).length ≤ 1000 := fun n => by rw [List.length_drop]; omega
      refine ev_set (r := r) (W := fun b => b = r) (G := [(.ref ps, .list ds), (.ref p0, roadD S)]) (σ := [some (.ref r), some (.ref p0), some (.ref ps), some (.int (k : Int)), some (.int z.1), some (.int z.2), y6]) (P := (· = PyData.list (ds ++ [PyData.list ((S.map stepD).take k ++ (S.map stepD).drop (k + 1)), PyData.list ((S.map stepD).take (k + 1) ++ (S.map stepD).drop k)]))) (x_cat (x_var rfl List.mem_cons_self) (x_lst (xs_cons (x_cat (x_to k xr3 (ev_varI (x := (k : Int)) rfl)) (x_from (k + 1) xr3 (evi_add (ev_varI (x := (k : Int)) rfl) ev_int)) (ltk _) (ldr _)) (xs_cons (x_cat (x_to (k + 1) xr3 (evi_add (ev_varI (x := (k : Int)) rfl) ev_int)) (x_from k xr3 (ev_varI (x := (k : Int)) rfl)) (ltk _) (ldr _)) xs_nil)) (by show 2 ≤ 1000; decide)) (by omega) (by show 2 ≤ 1000; decide)) st3 fun v d H8 s8 m8 e8 => ?_
      subst e8
      obtain ⟨p9, vs9, rfl, hp9, hv9⟩ := rp_list (s8.ok _ List.mem_cons_self)
      have l9 : vs9.length = 20 := by rw [hv9.length, List.length_append, hlen]; rfl
      refine fin s8.re (m.trans m8) (Hw.ne (W := fun b => b = r) hp9) (Hw.sub _ _ _ _ hp9) hv9 (fun d hd => ?_) (by omega) (by omega)
      rcases List.mem_append.mp hd with hd | hd
      · exact hod d hd
      · exact .inr ⟨k, z, hz, List.mem_append_right _ hd⟩
end
end CL
set_option Elab.async false
set_option linter.all false
set_option pp.maxSteps 900
set_option maxRecDepth 100000
set_option maxHeartbeats 4000000
namespace CL
open PySem PySem.Spec PyProof.Rows L2 GE
abbrev sLaw : Stmt := topS 43
abbrev nLaw : List Str := ["script", "spring", "turn", "plan", "total", "again", "person", "road", "beside", "good", "odd", "stays", "due", "told"]
theorem scLaw : FnScope nLaw ["script"] (defScope sLaw) := ⟨rfl, rfl, rfl, by decide +kernel, rfl, by decide +kernel, by decide +kernel⟩
def spE (sp : Addr → Sp) : Sp := fun vs H Q E => ∃ r, sp r vs H Q E
def spLaw (K : PySem.W.Frag) (P1 P2 P3 P4 : Addr) : Sp := fun vs H Q _ => ∃ (a : Addr) (ns : List Int), vs = [.ref a] ∧ SqL K H a (ns.map V.int) ∧ ns.length ≤ 63 ∧ Tb P1 P2 H ∧ GxR.TabG H P3 ∧ GxR.TabG H P4 ∧ ∀ H', Q (.bl true) H'
theorem pick2q {a b z : Int} (h0 : 0 ≤ z) (h1 : z < 2) : ∃ k : Int, atI [V.int a, .int b] z = some (.int k) ∧ (k = a ∨ k = b) := by
  have h : z = 0 ∨ z = 1 := by omega
  rcases h with rfl | rfl
  · exact ⟨a, rfl, .inl rfl⟩
  · exact ⟨b, rfl, .inr rfl⟩
/-! ### how great the windows are -/
theorem road_bnd {ps : List PieceT} (hp : PsOk ps) {b : Option Int} {s x : Int} {S : List StepT} (h : Road ps b s x S) : 0 ≤ s → ∀ z ∈ S, 0 ≤ z.1 ∧ z.1 ≤ x ∧ z.1 ≤ z.2 ∧ z.2 ≤ z.1 + GREAT := by
  induction h with
  | spare h => exact fun _ z hz => nomatch hz
  | own h h0 =>
    intro hs z hz
    rw [List.mem_singleton.mp hz]
    have := wp_le hp h
    have G30 : GREAT = 1000000000000000000000000000000 := rfl
    exact ⟨hs, Int.le_refl _, by show _ ≤ _ + _ - 1; omega, by show _ + _ - 1 ≤ _ + GREAT; omega⟩
  | inn h h0 h1 _ ih =>
    intro hs z hz
    have := wp_le hp h
    have G30 : GREAT = 1000000000000000000000000000000 := rfl
    rcases List.mem_cons.mp hz with rfl | hz
    · exact ⟨hs, by show _ ≤ _; omega, by show _ ≤ _ + _ - 1; omega, by show _ + _ - 1 ≤ _ + GREAT; omega⟩
    · exact ih (by omega) z hz
  | skip h h0 _ ih =>
    intro hs z hz
    exact ih (by omega) z hz
def Sml (S : List StepT) : Prop := S.length ≤ 64 ∧ ∀ z ∈ S, 0 ≤ z.1 ∧ 0 ≤ z.2 ∧ z.1 ≤ 10000000000000000000000000000000 ∧ z.2 ≤ 10000000000000000000000000000000
theorem b_int1 {i : Int} (h : -1 ≤ i) (h2 : i ≤ 10000000000000000000000000000001) : B 0 200 (.int i) := by
  refine b_int ?_
  have h3 : (2 : Nat) ^ 140 = 1393796574908163946345982392040522594123776 := by decide +kernel
  omega
theorem b_items {xs : List PyData} (h : ∀ x ∈ xs, B 0 200 x) (hn : xs.length ≤ 4) : B 1 1000 (.list xs) ∧ B 1 1000 (.tuple xs) := ⟨(B.list h hn).mono (by decide) (by decide), (B.tuple h hn).mono (by decide) (by decide)⟩
theorem b_pair {a b : Int} (ha : -1 ≤ a ∧ a ≤ 10000000000000000000000000000001) (hb : -1 ≤ b ∧ b ≤ 10000000000000000000000000000001) : B 1 1000 (.list [.int a, .int b]) ∧ B 1 1000 (.tuple [.int a, .int b]) :=
  b_items (in2 (b_int1 ha.1 ha.2) (b_int1 hb.1 hb.2)) (by show 2 ≤ 4; decide)
theorem b_step {S : List StepT} (h : Sml S) {z : StepT} (hz : z ∈ S) : B 1 1000 (stepD z) ∧ B 1 1000 (pairL z) := by
  obtain ⟨h1, h2, h3, h4⟩ := h.2 z hz
  have := b_pair (a := z.1) (b := z.2) ⟨by omega, by omega⟩ ⟨by omega, by omega⟩
  exact ⟨this.2, this.1⟩
theorem b_steps {S : List StepT} (h : Sml S) : ∀ d ∈ S.map stepD, B 1 1000 d := fun d hd => by
  obtain ⟨z, hz, rfl⟩ := List.mem_map.mp hd
  exact (b_step h hz).1
theorem b_big {xs : List PyData} (h : ∀ x ∈ xs, B 1 1000 x) (hn : xs.length ≤ 100) : B 2 200000 (.list xs) ∧ B 2 200000 (.tuple xs) := ⟨(B.list h hn).mono (by decide) (by decide), (B.tuple h hn).mono (by decide) (by decide)⟩
theorem b_1 {d : PyData} {u : Nat} (h : B 0 u d) (hu : u ≤ 1000) : B 1 1000 d := h.mono (by decide) hu
theorem b_one {d : PyData} (h : B 1 1000 d) : ∀ x ∈ [d], B 1 1000 x := fun x hx => by rw [List.mem_singleton.mp hx]; exact h
theorem b_app {xs ys : List PyData} (h1 : ∀ x ∈ xs, B 1 1000 x) (h2 : ∀ x ∈ ys, B 1 1000 x) : ∀ x ∈ xs ++ ys, B 1 1000 x := fun d hd => (List.mem_append.mp hd).elim (h1 d) (h2 d)
theorem b_none0 : B 0 200 .none := b_none
theorem b_odds {S : List StepT} (h : Sml S) {z : StepT} (hz : z ∈ S) : ∀ o ∈ oddsAt z, B 1 1000 o := fun o ho => by
  obtain ⟨h1, h2, h3, h4⟩ := h.2 z hz
  unfold oddsAt at ho
  simp only [List.mem_cons, List.not_mem_nil, or_false] at ho
  rcases ho with rfl | rfl | rfl | rfl | rfl | rfl
  · exact (b_pair ⟨by omega, by omega⟩ ⟨by omega, by omega⟩).2
  · exact (b_pair ⟨by omega, by omega⟩ ⟨by omega, by omega⟩).2
  · refine (b_items (fun x hx => ?_) (by show 3 ≤ 4; decide)).2
    simp only [List.mem_cons, List.not_mem_nil, or_false] at hx
    rcases hx with rfl | rfl | rfl <;> exact b_int1 (by omega) (by omega)
  · refine (b_items (fun x hx => ?_) (by show 1 ≤ 4; decide)).2
    rw [List.mem_singleton.mp hx]
    exact b_int1 (by omega) (by omega)
  · exact (b_pair ⟨by omega, by omega⟩ ⟨by omega, by omega⟩).2
  · exact (b_items (in2 b_bool (b_int1 (by omega) (by omega))) (by show 2 ≤ 4; decide)).2
/-- each such thing is small, and has few things -/
structure Neat (d : PyData) : Prop where
  b : B 2 200000 d
  few : ∀ ds, rowsD d = some ds → ds.length ≤ 100 ∧ ∀ x ∈ ds, B 1 1000 x
theorem neat_list {xs : List PyData} (h : ∀ x ∈ xs, B 1 1000 x) (hn : xs.length ≤ 100) : Neat (.list xs) := ⟨(b_big h hn).1, fun ds e => by cases e; exact ⟨hn, h⟩⟩
theorem neat_flat {d : PyData} {u : Nat} (h : B 0 u d) (hu : u ≤ 200000) (n : rowsD d = none) : Neat d := ⟨h.mono (by decide) hu, fun ds e => by rw [n] at e; cases e⟩
theorem toL_b {d : PyData} (h : B 1 1000 d) : B 1 1000 (toL d) := by
  cases d with
  | tuple xs => exact ⟨h.dp, h.wt, by have := h.sh; simpa [PyData.showable, toL] using this⟩
  | _ => exact h
theorem neat_plain {d : PyData} (h : Neat d) : B 2 200000 (plainD d) := by
  unfold plainD
  cases e : rowsD d with
  | none => exact h.b
  | some ds =>
    obtain ⟨h1, h2⟩ := h.few ds e
    refine (b_big (fun x hx => ?_) (by rw [List.length_map]; exact h1)).1
    obtain ⟨y, hy, rfl⟩ := List.mem_map.mp hx
    exact toL_b (h2 y hy)
theorem neat_road {S : List StepT} (h : Sml S) : Neat (roadD S) := neat_list (b_steps h) (by rw [List.length_map]; have := h.1; omega)
theorem neat_hand {S : List StepT} {d : PyData} (h : Sml S) (g : HandOf S d) : B 2 200000 d := by
  obtain ⟨es, h1, h2, h3⟩ := g
  have hb : ∀ x ∈ es, B 1 1000 x := fun x hx => by
    obtain ⟨i, hi⟩ := List.getElem?_of_mem hx
    have lt : i < es.length := (List.getElem?_eq_some_iff.mp hi).1
    obtain ⟨z, hz⟩ : ∃ z, S[i]? = some z := ⟨_, List.getElem?_eq_getElem (by omega)⟩
    have := b_step h (List.mem_of_getElem? hz)
    rcases h3 i x z hi hz with rfl | rfl
    · exact this.1
    · exact this.2
  have := b_big hb (by have := h.1; omega)
  cases d with
  | list xs => cases h1; exact this.1
  | tuple xs => cases h1; exact this.2
  | _ => cases h1
theorem neat_odd {S : List StepT} {d : PyData} (h : Sml S) (g : OddOf S d) : Neat d := by
  have l64 := h.1
  have hp0 : B 1 1000 (.tuple [.int 0, .int 0]) := (b_pair ⟨by decide, by decide⟩ ⟨by decide, by decide⟩).2
  have ls : (S.map stepD).length ≤ 64 := by rw [List.length_map]; exact l64
  have none1 : B 1 1000 .none := b_1 b_none0 (by decide)
  have nil1 : B 1 1000 (.list []) := (b_items (xs := []) (fun x hx => absurd hx List.not_mem_nil) (by show 0 ≤ 4; decide)).1
  have nilT : B 1 1000 (.tuple []) := (b_items (xs := []) (fun x hx => absurd hx List.not_mem_nil) (by show 0 ≤ 4; decide)).2
  have int1 : ∀ i : Int, -1 ≤ i → i ≤ 5 → B 1 1000 (.int i) := fun i h1 h2 => b_1 (b_int1 h1 (by omega)) (by decide)
  rcases g with g | ⟨k, z, hk, g⟩
  · unfold odds0 at g
    simp only [List.mem_cons, List.not_mem_nil, or_false] at g
    rcases g with g | g | g | g | g | g | g | g | g | g | g | g <;> subst g
    · exact neat_flat b_none0 (by decide) rfl
    · exact neat_flat (b_int1 (by decide) (by decide)) (by decide) rfl
    · exact neat_flat (u := 200) ⟨Nat.zero_le _, by decide +kernel, rfl⟩ (by decide) rfl
    · exact ⟨⟨by decide, by decide, rfl⟩, fun ds e => by cases e⟩
    · exact neat_flat (u := 200) b_bool (by decide) rfl
    · exact neat_list (b_app (b_steps h) (b_one hp0)) (by rw [List.length_append]; simp only [List.length_cons, List.length_nil]; omega)
    · exact neat_list (b_one nilT) (by show 1 ≤ 100; decide)
    · exact neat_list (b_one none1) (by show 1 ≤ 100; decide)
    · exact neat_list (b_one (int1 5 (by decide) (by decide))) (by show 1 ≤ 100; decide)
    · exact neat_list (b_app (b_steps h) (b_one none1)) (by rw [List.length_append]; simp only [List.length_cons, List.length_nil]; omega)
    · exact neat_list (in2 (b_pair ⟨by decide, by decide⟩ ⟨by decide, by decide⟩).1 (int1 1 (by decide) (by decide))) (by show 2 ≤ 100; decide)
    · exact neat_list (b_app (b_steps h) (b_one nil1)) (by rw [List.length_append]; simp only [List.length_cons, List.length_nil]; omega)
  · have hz := List.mem_of_getElem? hk
    have ht : ∀ n, ∀ d ∈ (S.map stepD).take n, B 1 1000 d := fun n d hd => b_steps h d (List.mem_of_mem_take hd)
    have hd : ∀ n, ∀ d ∈ (S.map stepD).drop n, B 1 1000 d := fun n d hd => b_steps h d (List.mem_of_mem_drop hd)
    have lt : ∀ n, ((S.map stepD).take n).length ≤ 64 := fun n => by rw [List.length_take]; omega
    have ld : ∀ n, ((S.map stepD).drop n).length ≤ 64 := fun n => by rw [List.length_drop]; omega
    rcases List.mem_append.mp g with g | g
    · obtain ⟨o, ho, rfl⟩ := List.mem_map.mp g
      refine neat_list (b_app (b_app (ht _) (b_one (b_odds h hz o ho))) (hd _)) ?_
      have hk2 : k < S.length := (List.getElem?_eq_some_iff.mp hk).1
      rw [List.length_append, List.length_append, List.length_take, List.length_drop, List.length_map]
      simp only [List.length_cons, List.length_nil]
      omega
    · simp only [List.mem_cons, List.not_mem_nil, or_false] at g
      rcases g with rfl | rfl
      · refine neat_list (b_app (ht _) (hd _)) ?_
        rw [List.length_append, List.length_take, List.length_drop, List.length_map]
        omega
      · refine neat_list (b_app (ht _) (hd _)) ?_
        rw [List.length_append, List.length_take, List.length_drop, List.length_map]
        omega
theorem c_isD {r P1 P2 P3 P4 C C2 : Addr} {v : V} {rs : List RowT} {H : Hp} {Q : VK} {E : XK} (hF : Fine rs) (s : Sl r P1 P2 v rs H) {n : Int} (ha : Asks rs n) (h3 : GxR.TabG H P3) (h4 : GxR.TabG H P4) {y : V} {dt : PyData} (hy : Rp H y dt) (q : ∀ S H', RoadR rs n S → Ex H H' → Sl r P1 P2 v rs H' → Q (.bl (arD dt S)) H') : spIsArD P1 P2 P3 P4 C C2 [v, .int n, y] H Q E := by
  obtain ⟨ps, pc, e, e2, e3⟩ := parts hF
  refine ⟨v, .int n, y, _, .int n, dt, rfl, s.rpH, .int n, hy, fun m em => by cases em; exact ha.hi, s.tb, h3, h4, fun z => absurd (fine_plan hF) (by rw [z]; simp), fun _ => ⟨ps, pc, e, fun z => absurd ha.ok (by rw [← e3, z]; simp), fun _ m S H' em hRd ex => ?_⟩⟩
  cases em
  refine q S H' ?_ ex (s.ex ex ⟨tabG_ex s.tb.1 ex, tabG_ex s.tb.2 ex⟩)
  unfold RoadR bR
  rw [e2, ← e3]
  exact hRd
theorem road_ne {H : Hp} {r D : Addr} {ws : List V} {S : List StepT} (re : ReelAt H r) (eD : H D = some (.lst ws)) (hS : StAt H ws S) : D ≠ r := fun z => by
  obtain ⟨f, st, n, er, _⟩ := re
  rw [z, er] at eD
  injection eD with eD
  injection eD with eD
  have hl := hS.len
  rw [← eD] at hl
  obtain ⟨s, hs⟩ : ∃ s, S[0]? = some s := ⟨_, List.getElem?_eq_getElem (by rw [← hl]; simp)⟩
  obtain ⟨b, h1, _⟩ := hS.at_ 0 s hs
  rw [← eD] at h1
  cases h1
theorem stat_hw {H : Hp} {r : Addr} {ws : List V} {S : List StepT} (re : ReelAt H r) (hS : StAt H ws S) : StAt (Hw (fun b => b = r) H) ws S := ⟨hS.len, fun i s hs => by
  obtain ⟨b, h1, h2⟩ := hS.at_ i s hs
  refine ⟨b, h1, ?_⟩
  rw [Hw.at (W := fun b => b = r) fun z => ?_]
  · exact h2
  · obtain ⟨f, st, n, er, _⟩ := re
    rw [z, er] at h2
    cases h2⟩
theorem nine_tot {lrs : List RowT} (f : Fine (cutR lrs)) : 9 ≤ totR (cutR lrs) := by
  unfold totR
  cases e : dueO (cutR lrs) with
  | none => show 9 ≤ GREAT; decide
  | some s =>
    have h1 := (rows_last f).2 s e
    have h2 := sumW_nn (rs := lrs.take 7) fun y hy => (f.row y (List.mem_cons_of_mem _ hy)).many
    have e2 : sumW (cutR lrs) = 9 + sumW (lrs.take 7) := rfl
    show 9 ≤ s
    omega
section
variable {P : Program} {w : World} {K : PySem.W.Frag} {mg : Str → Option Value} {base : Heap}
theorem ok_law {f P1 P2 P3 P4 C C2 : Addr} {fd : FuncData} (F : Fun K "law" "law" sLaw f fd) (T : Nm mg) (T2 : Nm2 mg)
    (CS : Cal P w K mg base 1 "_law_spring" ["script"] (spSpring K)) (CD : Cal P w K mg base 1 "_law_draw" ["spring", "many"] (spE spDraw)) (CPL : Cal P w K mg base 3 "_law_plan" ["spring", "ends"] (spE spPlanL)) (CT : Cal P w K mg base 1 "_law_total" ["plan"] spTot)
    (CR : CalX P w K mg base 10 "windows_around" ["plan", "person"] (spWinAr P1 P2 C C2)) (CI : CalX P w K mg base 11 "is_around" ["plan", "person", "thing"] (spIsArD P1 P2 P3 P4 C C2)) (CH : Cal P w K mg base 5 "_law_handed" ["spring", "thing"] (spE spHan)) (CO : Cal P w K mg base 2 "_law_otherwise" ["spring", "road"] (spE spOth)) (CP : Cal P w K mg base 1 "_law_plain" ["thing"] spPla) (CSm : Cal P w K mg base 3 "_law_same" ["found", "due"] (spSam 1)) (hsys : ∃ o, base.get? sysModules = some o) : FnG P w K mg base 12 f fd ["script"] (spLaw K P1 P2 P3 P4) := by
  refine fng_of F scLaw (fun vs H Q E ⟨a, ns, e, _⟩ => by rw [e]; rfl) (fun cdv A outer s H vs Q E hgd hr h => ?_)
  obtain ⟨a, ns, rfl, hS, h63, hTb, t3, t4, q⟩ := h
  have nd := scLaw.nd
  refine ⟨_, (pss_cons (ps_set (i := 1) nd rfl (.inl rfl) (pe_cal (CS.mono (by decide)) hr (by rfl) (pa_cons (pv 0) pa_nil)))
      (pss_cons (ps_for PassesOwn.never rfl (pi_range1 (by rfl) T2.range (pa_cons (pe_op op_add pe_int (pe_callB (call_min2 rfl) (by rfl) T2.min (by decide +kernel) (pa_cons (pe_callB call_len_seq (by rfl) T.len PySem.boot_len (pa_cons (pv 0) pa_nil)) (pa_cons pe_int pa_nil)))) pa_nil)) (pg_name (i := 2) nd rfl (.inl rfl)) (pss_cons (ps_set (i := 3) nd rfl (.inl rfl) (pe_op op_cat (pe_lst (pa_cons (pe_tup (pa_cons (pe_lst (pa_cons pe_int (pa_cons pe_int pa_nil))) (pa_cons pe_int pa_nil))) pa_nil)) (pe_slice sl_list (pe_cal (CPL.mono (by decide)) hr (by rfl) (pa_cons (pv 1) (pa_cons pe_bl pa_nil))) po_none (po_some pe_int))))
      (pss_cons (ps_set (i := 4) nd rfl (.inl rfl) (pe_cal (CT.mono (by decide)) hr (by rfl) (pa_cons (pv 3) pa_nil)))
      (pss_one (ps_for PassesOwn.never rfl (pi_range1 (by rfl) T2.range (pa_cons pe_int pa_nil)) (pg_name (i := 5) nd rfl (.inl rfl)) (pss_cons (ps_set (i := 6) nd rfl (.inl rfl) (pe_ix ix_list (pe_lst (pa_cons (pe_cal (CD.mono (by decide)) hr (by rfl) (pa_cons (pv 1) (pa_cons (pv 4) pa_nil))) (pa_cons (pe_cal (CD.mono (by decide)) hr (by rfl) (pa_cons (pv 1) (pa_cons pe_int pa_nil))) pa_nil))) (pe_cal (CD.mono (by decide)) hr (by rfl) (pa_cons (pv 1) (pa_cons pe_int pa_nil))) (fun _ _ => rfl)))
      (pss_cons (ps_set (i := 7) nd rfl (.inl rfl) (pe_calX (CR.mono (by decide)) hr (by rfl) (passes_call takes0 fun _ _ _ _ h => h) (pa_cons (pv 3) (pa_cons (pv 6) pa_nil))))
      (pss_one (ps_for PassesOwn.never rfl (pi_range1 (by rfl) T2.range (pa_cons pe_int pa_nil)) (pg_name (i := 8) nd rfl (.inl rfl)) (pss_cons (ps_par (i := 9) (j := 10) rfl nd rfl rfl (by decide) rfl rfl (pa_cons (pe_cal (CH.mono (by decide)) hr (by rfl) (pa_cons (pv 1) (pa_cons (pv 7) pa_nil))) (pa_cons (pe_cal (CO.mono (by decide)) hr (by rfl) (pa_cons (pv 1) (pa_cons (pv 7) pa_nil))) pa_nil)) (by rfl))
      (pss_cons (ps_set (i := 11) nd rfl (.inl rfl) (pe_callB (call_reprD hgd hr hsys) (by rfl) T2.repr (by decide +kernel) (pa_cons (pe_lst (pa_cons (pv 9) (pa_cons (pv 10) pa_nil))) pa_nil)))
      (pss_cons (ps_set (i := 12) nd rfl (.inl rfl) (pe_cmpR op_eq (pe_callB (call_reprA hgd hr hsys) (by rfl) T2.repr (by decide +kernel) (pa_cons (pe_cal (CP.mono (by decide)) hr (by rfl) (pa_cons (pv 10) pa_nil)) pa_nil)) (pe_callB (call_reprA hgd hr hsys) (by rfl) T2.repr (by decide +kernel) (pa_cons (pe_cal (CP.mono (by decide)) hr (by rfl) (pa_cons (pv 7) pa_nil)) pa_nil)) (nomark _)))
      (pss_cons (ps_set (i := 13) nd rfl (.inl rfl) (pe_lst (pa_cons (pe_calX (CI.mono (by decide)) hr (by rfl) (passes_call takes0 fun _ _ _ _ h => h) (pa_cons (pv 3) (pa_cons (pv 6) (pa_cons (pv 9) pa_nil)))) (pa_cons (pe_calX (CI.mono (by decide)) hr (by rfl) (passes_call takes0 fun _ _ _ _ h => h) (pa_cons (pv 3) (pa_cons (pv 6) (pa_cons (pv 10) pa_nil)))) pa_nil))))
      (pss_one (ps_if (PW.pt (pw_or (pt_not (pt_val (pe_cal (CSm.mono (by decide)) hr (by rfl) (pa_cons (pv 13) (pa_cons (pe_lst (pa_cons pe_bl (pa_cons (pv 12) pa_nil))) pa_nil))))) (pw_or1 (pt_cmpR op_ne (pe_callB (call_reprD hgd hr hsys) (by rfl) T2.repr (by decide +kernel) (pa_cons (pe_lst (pa_cons (pv 9) (pa_cons (pv 10) pa_nil))) pa_nil)) (pv 11) (nomark _))))) (pss_one (ps_ret pe_bl)) pss_nil)))))))))))))))
      (pss_one (ps_ret pe_bl)))), ?_⟩
  refine ⟨.ref a, rfl, a, ns, rfl, hS, h63, fun r H1 s1 nr re1 => ?_⟩
  have lm : (ns.map V.int).length = ns.length := List.length_map ..
  refine ⟨.ref a, rfl, a, ns.map V.int, rfl, .inl (s1.seq hS), (ns.map V.int).length, 6, rfl, 2, _, rfl, rfl, _, rfl, by split <;> omega, by split <;> omega, ?_⟩
  refine for_range (lo := 0) (n := ((2 : Int) + (if (6 : Int) < ((ns.map V.int).length : Int) then 6 else ((ns.map V.int).length : Int))).toNat) (fun i σ H2 => ∃ y2 y3 y4 y5 y6 y7 y8 y9 y10 y11 y12 y13, σ = [some (.ref a), some (.ref r), y2, y3, y4, y5, y6, y7, y8, y9, y10, y11, y12, y13] ∧ ReelAt H2 r ∧ Wk (fun b => b = r) H2 r ∧ Tb P1 P2 H2 ∧ GxR.TabG H2 P3 ∧ GxR.TabG H2 P4)
    ⟨none, none, none, none, none, none, none, none, none, none, none, none, rfl, re1, ⟨rfl, fun b hb => by rw [hb]; exact re1.some⟩, hTb.same s1, tabG_same s1 t3, tabG_same s1 t4⟩ (fun i σ H2 hi hP => ?_) (fun σ H2 hP => ?_)
  rotate_left
  · obtain ⟨y2, y3, y4, y5, y6, y7, y8, y9, y10, y11, y12, y13, rfl, re2, W2, tb2, t32, t42⟩ := hP
    exact q H2
  obtain ⟨y2, y3, y4, y5, y6, y7, y8, y9, y10, y11, y12, y13, rfl, re2, W2, tb2, t32, t42⟩ := hP
  have s2 : Se r (fun b => b = r) [] H2 := ⟨re2, W2, fun p hp => nomatch hp⟩
  show (tOp rCat (tLst (tCons (tTup (tCons (tLst (tCons (tC (V.int 4)) (tCons (tC (V.int 1)) tNil))) (tCons (tC (V.int 9)) tNil))) tNil)) _) [some (.ref a), some (.ref r), some (.int (0 + (i : Int))), y3, y4, y5, y6, y7, y8, y9, y10, y11, y12, y13] H2 _
  refine (show tLst _ _ H2 _ from ?_)
  refine (show EvX r (fun b => b = r) [] [some (.ref a), some (.ref r), some (.int (0 + (i : Int))), y3, y4, y5, y6, y7, y8, y9, y10, y11, y12, y13] _ (.list [rowD r0]) from x_lst (xs_cons (x_tup (xs_cons (x_lst (xs_cons (xi ev_int) (xs_cons (xi ev_int) xs_nil))) (xs_cons (xi ev_int) xs_nil))) xs_nil)) H2 _ s2 fun v0 d0 H3 re3 m3 rp3 e3 => ?_
  subst e3
  have W3 := W2.mv re3 m3
  refine ⟨.ref r, rfl, r, false, fun b => b = r, rfl, re3, W3, fun p lrs H4 re4 m4 rp4 hF h29 _ => ?_⟩
  obtain ⟨p', xs, ep, hp4, hx4⟩ := rp_list rp4
  obtain rfl : p = p' := V.ref.inj ep
  have hl4 : xs.length = lrs.length := by rw [hx4.length, List.length_map]
  have l8 := hF.hi
  refine ⟨7, rfl, p, xs, rfl, SqL.of (Hw.sub _ _ _ _ hp4), fun t nt => ?_⟩
  rw [show cutV xs none (some 7) = xs.take 7 from cut_to _ 7]
  have s5 : Same H4 (upd H4 t (.lst (xs.take 7))) := same_upd nt
  have et5 : (upd H4 t (.lst (xs.take 7))) t = some (.lst (xs.take 7)) := upd_same
  generalize upd H4 t (.lst (xs.take 7)) = H5 at s5 et5
  obtain ⟨p0, xs0, rfl, hp0, hx0⟩ := rp_list (Rp.sm ((m4.trans (Mv.of s5)).hw (W := fun b => b = r) rfl) rp3)
  have re5 := re4.same s5
  have l0 : xs0.length = 1 := hx0.length
  refine ⟨p0, t, xs0, xs.take 7, rfl, rfl, Hw.sub _ _ _ _ hp0, et5, small_add (by omega) (by rw [List.length_take]; omega), fun v nv => ?_⟩
  have s6 : Same H5 (upd H5 v (.lst (xs0 ++ xs.take 7))) := same_upd nv
  have ev6 : (upd H5 v (.lst (xs0 ++ xs.take 7))) v = some (.lst (xs0 ++ xs.take 7)) := upd_same
  show tSeq _ _ _ [some (.ref a), some (.ref r), some (.int (0 + (i : Int))), some (.ref v), y4, y5, y6, y7, y8, y9, y10, y11, y12, y13] (upd H5 v (.lst (xs0 ++ xs.take 7)))
  generalize upd H5 v (.lst (xs0 ++ xs.take 7)) = H6 at s6 ev6
  have m26 : Mv r H2 H6 := (m3.trans m4).trans ((Mv.of s5).trans (Mv.of s6))
  have re6 := re5.same s6
  have hFc := cut_fine hF h29
  have rp6 : Rp (Hw (fun b => b = r) H6) (.ref v) (.list ((cutR lrs).map rowD)) := by
    have e : (cutR lrs).map rowD = [rowD r0] ++ (lrs.map rowD).take 7 := by
      unfold cutR
      rw [List.map_cons, List.map_take]
      rfl
    rw [e]
    refine .lst (by rw [Hw.at (W := fun b => b = r) (re5.new nv)]; exact ev6) ((RpAll.sm (Same.hw s6) hx0).append (RpAll.sm (Same.hw (s5.trans s6)) (hx4.take 7)))
  have tb6 := tb2.mv re2 m26
  have t36 := tabG_mv t32 re2 m26
  have t46 := tabG_mv t42 re2 m26
  have hpa : Past (dueO (cutR lrs)) := two_come hFc
  have S6 : Sl r P1 P2 (.ref v) (cutR lrs) H6 := ⟨re6, tb6, rp6⟩
  have t9 := nine_tot hFc
  clear rp4 hp4 hx4 hp0 hx0 rp3 rp6 tb6
  generalize cutR lrs = rs at hFc hpa S6 t9
  obtain ⟨t2, t30⟩ := tot_bnd hpa
  have hTd : ∀ s, dueO rs = some s → totR rs = s := fun s e => by unfold totR; rw [e]; rfl
  refine ⟨.ref v, rfl, .ref v, rs, rfl, S6.rpH, hFc, fun H9 s9 => ?_⟩
  have S9 := S6.sm s9
  have t39 := tabG_same s9 (tabG_same s6 (tabG_same s5 (tabG_mv (tabG_mv t32 re2 m3) re3 m4)))
  have t49 := tabG_same s9 (tabG_same s6 (tabG_same s5 (tabG_mv (tabG_mv t42 re2 m3) re3 m4)))
  generalize totR rs = TT at t2 t30 hTd t9
  dsimp only [gName]
  show tFor _ _ _ _ [some (.ref a), some (.ref r), some (.int (0 + (i : Int))), some (.ref v), some (.int TT), y5, y6, y7, y8, y9, y10, y11, y12, y13] H9
  refine ⟨3, rfl, by decide, by decide, ?_⟩
  refine for_range (lo := 0) (n := (3 : Int).toNat) (fun i2 σ H10 => ∃ y5 y6 y7 y8 y9 y10 y11 y12 y13, σ = [some (.ref a), some (.ref r), some (.int (0 + (i : Int))), some (.ref v), some (.int TT), y5, y6, y7, y8, y9, y10, y11, y12, y13] ∧ Sl r P1 P2 (.ref v) rs H10 ∧ GxR.TabG H10 P3 ∧ GxR.TabG H10 P4)
    ⟨_, _, _, _, _, _, _, _, _, rfl, S9, t39, t49⟩ (fun i2 σ H10 hi2 hP => ?_) (fun σ H10 hP => ?_)
  rotate_left
  · obtain ⟨y5, y6, y7, y8, y9, y10, y11, y12, y13, rfl, S10, t3, t4⟩ := hP
    exact ⟨_, _, _, _, _, _, _, _, _, _, _, _, rfl, S10.re, S10.wk, S10.tb, t3, t4⟩
  obtain ⟨y5, y6, y7, y8, y9, y10, y11, y12, y13, rfl, S10, t310, t410⟩ := hP
  dsimp only [gName]
  show tSeq _ _ _ [some (.ref a), some (.ref r), some (.int (0 + (i : Int))), some (.ref v), some (.int TT), some (.int (0 + (i2 : Int))), y6, y7, y8, y9, y10, y11, y12, y13] H10
  refine ⟨.ref r, rfl, .int TT, rfl, r, TT, rfl, S10.re, by omega, by rw [p140]; omega, fun x1 H11 re11 m11 x10 x11 => ⟨.ref r, rfl, r, 9, rfl, re11, by decide, by rw [p140]; decide, fun x2 H12 re12 m12 x20 x21 => ⟨small_le (by show 2 ≤ 1000; decide), fun L nL => ?_⟩⟩⟩
  have S12 := (S10.mv re11 m11).mv re12 m12
  have s13 := same_upd (o := .lst [.int x1, .int x2]) nL
  have e13 : (upd H12 L (.lst [.int x1, .int x2])) L = some (.lst [.int x1, .int x2]) := upd_same
  have Lr := re12.new nL
  have S13 := S12.sm s13
  have t313 := tabG_same s13 (tabG_mv (tabG_mv t310 S10.re m11) re11 m12)
  have t413 := tabG_same s13 (tabG_mv (tabG_mv t410 S10.re m11) re11 m12)
  generalize upd H12 L (.lst [.int x1, .int x2]) = H13 at s13 e13 S13 t313 t413 ⊢
  refine ⟨.ref r, rfl, r, 2, rfl, S13.re, by decide, by rw [p140]; decide, fun zz H14 re14 m14 z0 z1 => ?_⟩
  obtain ⟨x, hx, hx2⟩ := pick2q (a := x1) (b := x2) z0 z1
  have x0 : 0 ≤ x := by omega
  have xT : x < TT := by omega
  have S14 := S13.mv re14 m14
  have t314 := tabG_mv t313 S13.re m14
  have t414 := tabG_mv t413 S13.re m14
  refine ⟨L, _, zz, .int x, rfl, rfl, SqL.of (m14.keep _ _ Lr e13), hx, ?_⟩
  clear hx hx2 S10 S12 S13 t310 t410 t313 t413
  have p138' : (2 : Int) ^ 138 = 348449143727040986586495598010130648530944 := by decide +kernel
  have ask : Asks rs x := asks_of x0 (fun b hb => by
    unfold bR at hb
    cases e : dueO rs with
    | none => rw [e] at hb; cases hb
    | some s =>
      rw [e] at hb
      have hb : s - 1 = b := Option.some.inj hb
      have := hTd s e
      omega) (by rw [p138']; omega)
  dsimp only [gName]
  show tSeq _ _ _ [some (.ref a), some (.ref r), some (.int (0 + (i : Int))), some (.ref v), some (.int TT), some (.int (0 + (i2 : Int))), some (.int x), y7, y8, y9, y10, y11, y12, y13] H14
  refine ⟨.ref v, rfl, .int x, rfl, ?_⟩
  dsimp only [tNil]
  show spWinAr P1 P2 C C2 [.ref v, .int x] H14 _ _
  refine c_around hFc S14 ask fun D ws S H15 ex15 S15 eD hS hl hR => ?_
  have t315 := tabG_ex t314 ex15
  have t415 := tabG_ex t414 ex15
  have Dr := road_ne S15.re eD hS
  have rpD : Rp (Hw (fun b => b = r) H15) (.ref D) (roadD S) := .lst (by rw [Hw.at (W := fun b => b = r) Dr]; exact eD) (rp_steps (stat_hw S15.re hS))
  have hbd := road_bnd (psR_ok hFc) hR (Int.le_refl 0)
  have G30 : GREAT = 1000000000000000000000000000000 := rfl
  have hsm : Sml S := ⟨hl, fun z hz => by have := hbd z hz; omega⟩
  clear eD hS S14 t314 t414
  dsimp only [gName]
  show tFor _ _ _ _ [some (.ref a), some (.ref r), some (.int (0 + (i : Int))), some (.ref v), some (.int TT), some (.int (0 + (i2 : Int))), some (.int x), some (.ref D), y8, y9, y10, y11, y12, y13] H15
  refine ⟨3, rfl, by decide, by decide, ?_⟩
  refine for_range (lo := 0) (n := (3 : Int).toNat) (fun i3 σ H16 => ∃ y8 y9 y10 y11 y12 y13, σ = [some (.ref a), some (.ref r), some (.int (0 + (i : Int))), some (.ref v), some (.int TT), some (.int (0 + (i2 : Int))), some (.int x), some (.ref D), y8, y9, y10, y11, y12, y13] ∧ Sl r P1 P2 (.ref v) rs H16 ∧ GxR.TabG H16 P3 ∧ GxR.TabG H16 P4 ∧ Rp (Hw (fun b => b = r) H16) (.ref D) (roadD S))
    ⟨_, _, _, _, _, _, rfl, S15, t315, t415, rpD⟩ (fun i3 σ H16 hi3 hP => ?_) (fun σ H16 hP => ?_)
  rotate_left
  · obtain ⟨y8, y9, y10, y11, y12, y13, rfl, S16, t3, t4, _⟩ := hP
    exact ⟨_, _, _, _, _, _, _, _, _, rfl, S16, t3, t4⟩
  obtain ⟨y8, y9, y10, y11, y12, y13, rfl, S16, t316, t416, rp16⟩ := hP
  clear S15 t315 t415 rpD
  dsimp only [gName]
  show tSeq _ _ _ [some (.ref a), some (.ref r), some (.int (0 + (i : Int))), some (.ref v), some (.int TT), some (.int (0 + (i2 : Int))), some (.int x), some (.ref D), some (.int (0 + (i3 : Int))), y9, y10, y11, y12, y13] H16
  refine ⟨.ref r, rfl, .ref D, rfl, r, D, S, rfl, S16.re, rp16, hl, fun vg dg H17 re17 m17 rpg hg hgr => ?_⟩
  have S17 := S16.mv re17 m17
  have t317 := tabG_mv t316 S16.re m17
  have t417 := tabG_mv t416 S16.re m17
  have rp17 := Rp.sm (m17.hw (W := fun b => b = r) rfl) rp16
  refine ⟨.ref r, rfl, .ref D, rfl, r, D, S, rfl, S17.re, rp17, hl, fun vo do_ H18 re18 m18 rpo ho => ?_⟩
  have S18 := S17.mv re18 m18
  have t318 := tabG_mv t317 S17.re m18
  have t418 := tabG_mv t417 S17.re m18
  have rp18 := Rp.sm (m18.hw (W := fun b => b = r) rfl) rp17
  have rpg18 := Rp.sm (m18.hw (W := fun b => b = r) rfl) rpg
  have hbg := neat_hand hsm hg
  have hno := neat_odd hsm ho
  obtain ⟨har, htx⟩ := odd_no (fun z hz => by have := hsm.2 z hz; omega) ho
  have hb2 : B 100 10000000 (.list [dg, do_]) := (B.list (n := 2) (in2 hbg hno.b) (by show 2 ≤ 2; decide)).mono (by decide) (by decide)
  refine ⟨_, _, rfl, ?_⟩
  show tSeq _ _ _ [some (.ref a), some (.ref r), some (.int (0 + (i : Int))), some (.ref v), some (.int TT), some (.int (0 + (i2 : Int))), some (.int x), some (.ref D), some (.int (0 + (i3 : Int))), some vg, some vo, y11, y12, y13] H18
  clear S16 S17 t316 t416 t317 t417 rp16 rp17 rpg
  have lessr : ∀ {H : Hp} {u : V} {d : PyData}, Rp (Hw (fun b => b = r) H) u d → Rp H u d := fun h => Rp.sm (Hw.sub _ _) h
  refine ⟨vg, rfl, vo, rfl, small_le (by show 2 ≤ 1000; decide), fun L nL => ?_⟩
  have s19 := same_upd (o := .lst [vg, vo]) nL
  have e19 : (upd H18 L (.lst [vg, vo])) L = some (.lst [vg, vo]) := upd_same
  have S19 := S18.sm s19
  have t319 := tabG_same s19 t318
  have t419 := tabG_same s19 t418
  have rpo19 := Rp.sm (Same.hw (W := fun b => b = r) s19) rpo
  have rpg19 := Rp.sm (Same.hw (W := fun b => b = r) s19) rpg18
  have rpD19 := Rp.sm (Same.hw (W := fun b => b = r) s19) rp18
  generalize upd H18 L (.lst [vg, vo]) = H19 at s19 e19 S19 t319 t419 rpo19 rpg19 rpD19 ⊢
  refine ⟨.ref L, .list [dg, do_], L, rfl, rfl, .lst e19 (.cons (lessr rpg19) (.cons (lessr rpo19) .nil)), hb2, ?_⟩
  dsimp only [gName]
  show tSeq _ _ _ [some (.ref a), some (.ref r), some (.int (0 + (i : Int))), some (.ref v), some (.int TT), some (.int (0 + (i2 : Int))), some (.int x), some (.ref D), some (.int (0 + (i3 : Int))), some vg, some vo, some (.str (PyData.list [dg, do_]).shown), y12, y13] H19
  generalize hst : (PyData.list [dg, do_]).shown = st
  refine ⟨vo, rfl, vo, do_, rfl, lessr rpo19, fun ds e => by have := (hno.few ds e).1; omega, fun v1 H20 s20 rp1 => ?_⟩
  refine ⟨v1, plainD do_, rfl, rp1, (neat_plain hno).mono (by decide) (by decide), ?_⟩
  have S20 := S19.sm s20
  have t320 := tabG_same s20 t319
  have t420 := tabG_same s20 t419
  have rpo20 := Rp.sm (Same.hw (W := fun b => b = r) s20) rpo19
  have rpg20 := Rp.sm (Same.hw (W := fun b => b = r) s20) rpg19
  have rpD20 := Rp.sm (Same.hw (W := fun b => b = r) s20) rpD19
  refine ⟨.ref D, rfl, .ref D, roadD S, rfl, lessr rpD20, fun ds e => by have := ((neat_road hsm).few ds e).1; omega, fun v2 H21 s21 rp2 => ?_⟩
  refine ⟨v2, plainD (roadD S), rfl, rp2, (neat_plain (neat_road hsm)).mono (by decide) (by decide), ?_⟩
  have S21 := S20.sm s21
  have t321 := tabG_same s21 t320
  have t421 := tabG_same s21 t420
  have rpo21 := Rp.sm (Same.hw (W := fun b => b = r) s21) rpo20
  have rpg21 := Rp.sm (Same.hw (W := fun b => b = r) s21) rpg20
  have rpD21 := Rp.sm (Same.hw (W := fun b => b = r) s21) rpD20
  clear S18 S19 S20 t318 t319 t320 t418 t419 t420 rp18 rpg18 rpo rpo19 rpg19 rpD19 rpo20 rpg20 rpD20 rp1 rp2 e19
  refine ⟨rfl, ?_⟩
  have hde : decide (V.str (plainD do_).shown = V.str (plainD (roadD S)).shown) = false := decide_eq_false fun z => htx (V.str.inj z)
  rw [hde]
  dsimp only [gName]
  show tSeq _ _ _ [some (.ref a), some (.ref r), some (.int (0 + (i : Int))), some (.ref v), some (.int TT), some (.int (0 + (i2 : Int))), some (.int x), some (.ref D), some (.int (0 + (i3 : Int))), some vg, some vo, some (.str st), some (.bl false), y13] H21
  refine ⟨.ref v, rfl, .int x, rfl, vg, rfl, ?_⟩
  dsimp only [tNil]
  show spIsArD P1 P2 P3 P4 C C2 [.ref v, .int x, vg] H21 _ _
  refine c_isD hFc S21 ask t321 t421 (lessr rpg21) fun S' H22 hR' ex22 S22 => ?_
  rw [show S' = S from (road_uniq hR hR').symm, hg.ar]
  refine ⟨.ref v, rfl, .int x, rfl, vo, rfl, ?_⟩
  dsimp only [tNil]
  show spIsArD P1 P2 P3 P4 C C2 [.ref v, .int x, vo] H22 _ _
  refine c_isD hFc S22 ask (tabG_ex t321 ex22) (tabG_ex t421 ex22) (lessr (Rp.ex ex22.hw _ _ rpo21)) fun S'' H23 hR'' ex23 S23 => ?_
  rw [show S'' = S from (road_uniq hR hR'').symm, har]
  have ex2 := ex22.trans ex23
  have t323 := tabG_ex t321 ex2
  have t423 := tabG_ex t421 ex2
  have rpo23 := Rp.ex ex2.hw _ _ rpo21
  have rpg23 := Rp.ex ex2.hw _ _ rpg21
  have rpD23 := Rp.ex ex2.hw _ _ rpD21
  clear S21 S22 t321 t421 rpo21 rpg21 rpD21
  refine ⟨small_le (by show 2 ≤ 1000; decide), fun L2_ nL2 => ?_⟩
  have s24 := same_upd (o := .lst [.bl true, .bl false]) nL2
  have e24 : (upd H23 L2_ (.lst [.bl true, .bl false])) L2_ = some (.lst [.bl true, .bl false]) := upd_same
  have S24 := S23.sm s24
  have t324 := tabG_same s24 t323
  have t424 := tabG_same s24 t423
  have rpo24 := Rp.sm (Same.hw (W := fun b => b = r) s24) rpo23
  have rpg24 := Rp.sm (Same.hw (W := fun b => b = r) s24) rpg23
  have rpD24 := Rp.sm (Same.hw (W := fun b => b = r) s24) rpD23
  generalize upd H23 L2_ (.lst [.bl true, .bl false]) = H24 at s24 e24 S24 t324 t424 rpo24 rpg24 rpD24 ⊢
  dsimp only [gName]
  show tIfS _ _ _ _ [some (.ref a), some (.ref r), some (.int (0 + (i : Int))), some (.ref v), some (.int TT), some (.int (0 + (i2 : Int))), some (.int x), some (.ref D), some (.int (0 + (i3 : Int))), some vg, some vo, some (.str st), some (.bl false), some (.ref L2_)] H24
  refine ⟨.ref L2_, rfl, .bl false, rfl, small_le (by show 2 ≤ 1000; decide), fun L3 nL3 => ?_⟩
  have s25 := same_upd (o := .lst [.bl true, .bl false]) nL3
  have e25 : (upd H24 L3 (.lst [.bl true, .bl false])) L3 = some (.lst [.bl true, .bl false]) := upd_same
  have S25 := S24.sm s25
  have t325 := tabG_same s25 t324
  have t425 := tabG_same s25 t424
  have rpo25 := Rp.sm (Same.hw (W := fun b => b = r) s25) rpo24
  have rpg25 := Rp.sm (Same.hw (W := fun b => b = r) s25) rpg24
  have rpD25 := Rp.sm (Same.hw (W := fun b => b = r) s25) rpD24
  have e245 := s25 _ _ e24
  generalize upd H24 L3 (.lst [.bl true, .bl false]) = H25 at s25 e25 S25 t325 t425 rpo25 rpg25 rpD25 e245 ⊢
  refine ⟨.ref L2_, .ref L3, .list [.bool true, .bool false], rfl, .lst e245 (.cons (.bl _) (.cons (.bl _) .nil)), .lst e25 (.cons (.bl _) (.cons (.bl _) .nil)), ⟨by show 2 ≤ 1000; decide, fun y hy => ?_⟩, fun H26 s26 => ?_⟩
  · rcases List.mem_cons.mp hy with rfl | hy
    · trivial
    · rw [List.mem_singleton.mp hy]; trivial
  refine ⟨true, rfl, iteF ?_⟩
  have S26 := S25.sm s26
  have t326 := tabG_same s26 t325
  have t426 := tabG_same s26 t425
  have rpo26 := Rp.sm (Same.hw (W := fun b => b = r) s26) rpo25
  have rpg26 := Rp.sm (Same.hw (W := fun b => b = r) s26) rpg25
  have rpD26 := Rp.sm (Same.hw (W := fun b => b = r) s26) rpD25
  refine ⟨vg, rfl, vo, rfl, small_le (by show 2 ≤ 1000; decide), fun L4 nL4 => ?_⟩
  have s27 := same_upd (o := .lst [vg, vo]) nL4
  have e27 : (upd H26 L4 (.lst [vg, vo])) L4 = some (.lst [vg, vo]) := upd_same
  have S27 := S26.sm s27
  have t327 := tabG_same s27 t326
  have t427 := tabG_same s27 t426
  have rpo27 := Rp.sm (Same.hw (W := fun b => b = r) s27) rpo26
  have rpg27 := Rp.sm (Same.hw (W := fun b => b = r) s27) rpg26
  have rpD27 := Rp.sm (Same.hw (W := fun b => b = r) s27) rpD26
  generalize upd H26 L4 (.lst [vg, vo]) = H27 at s27 e27 S27 t327 t427 rpo27 rpg27 rpD27 ⊢
  refine ⟨.ref L4, .list [dg, do_], L4, rfl, rfl, .lst e27 (.cons (lessr rpg27) (.cons (lessr rpo27) .nil)), hb2, ?_⟩
  rw [hst]
  refine ⟨.str st, rfl, rfl, _, rfl, ?_⟩
  rw [show (!decide (V.str st = V.str st)) = false by simp]
  refine iteF ?_
  exact ⟨_, _, _, _, _, _, rfl, S27, t327, t427, rpD27⟩
end
end CL
set_option Elab.async false
set_option linter.all false
set_option maxRecDepth 100000
set_option maxHeartbeats 4000000
namespace CL
open PySem PySem.Spec PyProof.Rows L2 GE
/-! ### the end: what is tracked when the law is called, and that the run leaves the heap as it was but for the tables -/
def H0 (ts : List Addr) (K : PySem.W.Frag) (a : Addr) (vs : List Value) (ns : List Int) : Hp := fun b =>
  if b ∈ ts then some (.tbl #[]) else if b = a ∧ (K.lookup a).isNone = true then some (.frz { cls := .type "list", data := .seq vs.toArray } (.lst (ns.map V.int))) else none
section
variable {ts : List Addr} {K : PySem.W.Frag} {a : Addr} {vs : List Value} {ns : List Int} {h : Heap}
theorem H0.tab {b : Addr} (m : b ∈ ts) : H0 ts K a vs ns b = some (.tbl #[]) := if_pos m
theorem H0.cases {b : Addr} {u : HO} (e : H0 ts K a vs ns b = some u) : (b ∈ ts ∧ u = .tbl #[]) ∨ (b = a ∧ K.lookup a = none ∧ u = .frz { cls := .type "list", data := .seq vs.toArray } (.lst (ns.map V.int))) := by
  unfold H0 at e
  split at e
  · rename_i m
    exact .inl ⟨m, (Option.some.inj e).symm⟩
  · split at e
    · rename_i z
      exact .inr ⟨z.1, Option.isNone_iff_eq_none.mp z.2, (Option.some.inj e).symm⟩
    · cases e
/-- an object that is no list and no empty table is not tracked -/
theorem H0.other (hT : ∀ b ∈ ts, h.get? b = some { cls := .none, data := .fields #[] }) (ha : h.get? a = some { cls := .type "list", data := .seq vs.toArray }) {b : Addr} {o : Obj} (e : h.get? b = some o) (h1 : o.data ≠ .seq vs.toArray) (h2 : o.data ≠ .fields #[]) :
    H0 ts K a vs ns b = none := by
  cases q : H0 ts K a vs ns b with
  | none => rfl
  | some u =>
    rcases H0.cases q with ⟨m, _⟩ | ⟨rfl, _, _⟩
    · rw [hT b m] at e
      cases e
      exact absurd rfl h2
    · rw [ha] at e
      cases e
      exact absurd rfl h1
end
theorem end_own {P : Program} {w : World} {K : PySem.W.Frag} {mg mb : Str → Option Value} {q : Program} {loose : List Str} {mean : ExcName → Option Value} {k : Nat} {fa a : Addr} {fd : FuncData} {x : Str} {sp : Sp} {s₁ : Shared} {vs : List Value} {ns : List Int} (ts : List Addr)
    (KX : K.In s₁.heap) (T : Top q loose mean mg mb s₁.heap) (hi0 : importsNone q = true) (hg : s₁.gens = #[])
    (hT : ∀ b ∈ ts, s₁.heap.get? b = some { cls := .none, data := .fields #[] }) (hC : ∀ b ∈ ts, ∃ c, PySem.W.codeHdIn K c b = true) (nT : ∀ b ∈ ts, K.lookup b = none)
    (ha : s₁.heap.get? a = some { cls := .type "list", data := .seq vs.toArray }) (hi : IntsAre vs ns) (hl : ns.length ≤ sizeLine) (hr : Room k callerA)
    (F : ∀ base : Heap, K.In base → base.Ns mainGlobals mg → (∃ o, base.get? sysModules = some o) → (∀ b ∈ ts, base.BuiltinsAt mg b ∧ mainGlobals ≠ b) → FnG P w K mg base k fa fd [x] sp)
    (hbind : ∀ (s : Shared) (u : Value), BindsTo s fd ⟨[u], []⟩ [(x, u)])
    (hsp : ∀ H : Hp, (∀ b ∈ ts, H b = some (.tbl #[])) → SqL K H a (ns.map V.int) → sp [.ref a] H (fun v _ => v = .bl true) fun _ _ _ => False) :
    codeAny (model P w) callerA (.call (.ref fa) ⟨[.ref a], []⟩) (fun r s' => r = .ok (.ret (.bool true)) ∧ OldK s₁.heap s'.heap ∧ s'.os = s₁.os ∧ AllBare s'.gens) s₁ := by
  have rv := vals_ints hi
  have aT : a ∉ ts := fun m => by
    have z := hT a m
    rw [ha] at z
    cases z
  generalize hH : H0 ts K a vs ns = H
  have tabs : ∀ b ∈ ts, H b = some (.tbl #[]) := fun b m => by rw [← hH]; exact H0.tab m
  have cs : ∀ {b : Addr} {u : HO}, H b = some u → (b ∈ ts ∧ u = .tbl #[]) ∨ (b = a ∧ K.lookup a = none ∧ u = .frz { cls := .type "list", data := .seq vs.toArray } (.lst (ns.map V.int))) := fun e => by
    rw [← hH] at e
    exact H0.cases e
  have oth : ∀ {b : Addr} {o : Obj}, s₁.heap.get? b = some o → o.data ≠ .seq vs.toArray → o.data ≠ .fields #[] → H b = none := fun e h1 h2 => by
    rw [← hH]
    exact H0.other hT ha e h1 h2
  have inB : ∀ {b : Addr} {o : Obj}, s₁.heap.get? b = some o → H b = none → (hidT s₁.heap H).get? b = some o := fun e n => hidT_get e n
  have nsB : ∀ {b : Addr} {m : Str → Option Value}, s₁.heap.Ns b m → (hidT s₁.heap H).Ns b m := fun ⟨o, es, ep, e, d, r⟩ => ⟨o, es, ep, inB e (oth e (by rw [d]; exact nofun) (by rw [d]; exact nofun)), d, r⟩
  have hok : HOk P w H s₁.heap := fun b u e => by
    rcases cs e with ⟨m, rfl⟩ | ⟨rfl, _, rfl⟩
    · exact hT b m
    · exact ⟨ha, by rw [List.length_map]; exact hl, vs, _, rv, ha⟩
  have hS : SqL K H a (ns.map V.int) := by
    cases hk : K.lookup a with
    | some o =>
      have e := KX a o hk
      rw [ha] at e
      cases e
      exact .inr ⟨_, vs.toArray, _, hk, rfl, rfl, rfl, by rw [List.size_toArray, hi.length]; exact hl, by simpa using rv⟩
    | none =>
      have e : H a = some (.frz { cls := .type "list", data := .seq vs.toArray } (.lst (ns.map V.int))) := by
        rw [← hH]
        unfold H0
        rw [if_neg aT, if_pos ⟨rfl, by rw [hk]; rfl⟩]
      exact .inl (.inr ⟨_, e⟩)
  have KB : K.In (hidT s₁.heap H) := fun b o e => inB (KX b o e) (by
    cases z : H b with
    | none => rfl
    | some u =>
      rcases cs z with ⟨m, _⟩ | ⟨rfl, n, _⟩
      · rw [nT b m] at e; cases e
      · rw [n] at e; cases e)
  have hM : L2.Mod K mg (hidT s₁.heap H) := ⟨KB, nsB T.g, ⟨mb, nsB T.b, T.builtins⟩, let ⟨mc, h1, h2⟩ := T.nolimit; ⟨mc, nsB h1, h2⟩⟩
  have sysB : ∃ o, (hidT s₁.heap H).get? sysModules = some o := by
    obtain ⟨mm, ⟨o, es, ep, e, d, _⟩, _⟩ := (T.seer hi0).mods
    exact ⟨o, inB e (oth e (by rw [d]; exact nofun) (by rw [d]; exact nofun))⟩
  have gB : ∀ b ∈ ts, mainGlobals ≠ b := fun b m z => by
    obtain ⟨o, es, ep, e, d, _⟩ := T.g
    rw [z, hT b m] at e
    cases e
    cases d
  have bB : ∀ b ∈ ts, (hidT s₁.heap H).BuiltinsAt mg b := fun b m => by
    obtain ⟨bm, ob, b1, b2, b3, b4, b5, b6⟩ := T.bmain
    refine ⟨bm, ob, b1, b2, fun z => ?_, fun z => ?_, inB b3 (oth b3 (by rw [b6]; exact nofun) (by rw [b6]; exact nofun)), b4, b5, b6⟩
    · obtain ⟨o, es, ep, e, d, _⟩ := T.g
      rw [z, e] at b3
      cases b3
      rw [d] at b6
      cases b6
    · rw [z, hT b m] at b3
      cases b3
      cases b6
  have e0 : Env0 P w K mg (hidT s₁.heap H) callerA [] s₁ H := ⟨rfl, hM, fun b o e => of_hidT e, Nat.le_of_eq (hidT_size _ _), trivial, fun b hb => absurd (show b ∈ ([] : List Addr) from hb) (by simp), hok, .of_eq hg⟩
  have G := F _ KB (nsB T.g) sysB fun b m => ⟨bB b m, gB b m⟩
  refine codeAny_mono (G.run callerA [] s₁ H ⟨[.ref a], []⟩ [.ref a] [.ref a] _ _ rfl hr e0 (hbind s₁ (.ref a)) (.cons rfl .nil) (hsp H tabs hS)) fun r s' z => ?_
  cases r with
  | error e => exact False.elim z
  | ok fl =>
    cases fl with
    | next => exact False.elim z
    | brk => exact False.elim z
    | cont => exact False.elim z
    | ret u =>
      obtain ⟨v, H', os, bare, un, hok', r', e'⟩ := z
      obtain rfl : v = .bl true := e'
      obtain rfl : u = Value.bool true := r'
      have stays : ∀ b o, b ∉ ts → s₁.heap.get? b = some o → s'.heap.get? b = some o := fun b o nb e => by
        cases z : H b with
        | none => exact un.keep b o e z (fun y => absurd (show b ∈ ([] : List Addr) from y) (by simp)) (by simp)
        | some u =>
          rcases cs z with ⟨m, _⟩ | ⟨rfl, _, rfl⟩
          · exact absurd m nb
          · rw [ha] at e
            cases e
            exact (hok' _ _ (un.frzs _ _ _ z)).1
      have grow : ∀ b ∈ ts, ∃ more : Array Value, s'.heap.get? b = some { cls := .none, data := .fields more } := fun b m => by
        obtain ⟨more, e⟩ := un.tbls b #[] (tabs b m)
        exact ⟨_, hok' b _ e⟩
      refine ⟨rfl, ⟨fun b o e => ?_, fun b o e => ?_⟩, os, bare⟩
      · by_cases m : b ∈ ts
        · obtain ⟨c, hc⟩ := hC b m
          obtain ⟨more, hm⟩ := grow b m
          rw [hT b m] at e
          cases e
          exact .inr (.inl ⟨((PySem.W.codeHd_of_K KX hc).tab (hT b m)).isCodeTable, rfl, #[], more, rfl, by rw [Array.empty_append]; exact hm⟩)
        · exact .inl (stays b o m e)
      · by_cases m : b ∈ ts
        · obtain ⟨more, hm⟩ := grow b m
          exact ⟨_, hm⟩
        · exact ⟨o, stays b o m e⟩
end CL
set_option Elab.async false
set_option linter.all false
set_option maxRecDepth 100000
set_option maxHeartbeats 4000000
namespace CL
open PySem PySem.Spec PyProof.Rows L2 GE
theorem fnE {P : Program} {w : World} {K : PySem.W.Frag} {mg : Str → Option Value} {base : Heap} {k : Nat} {f : Addr} {fd : FuncData} {ps : List Str} {sp : Addr → Sp} (F : ∀ r, FnOk P w K mg base CX0 k f fd ps (sp r)) : FnOk P w K mg base CX0 k f fd ps (spE sp) :=
  ⟨fun vs H Q E ⟨r, h⟩ => (F r).len vs H Q E h, fun A outer s H args us vs Q E hr e0 hb rv ⟨r, h⟩ => (F r).run A outer s H args us vs Q E hr e0 hb rv h⟩
/-- the table of a def of the program is empty when the law is called -/
theorem tab_of {q : Program} {loose : List Str} {mean : ExcName → Option Value} {mg mb : Str → Option Value} {h : Heap} {K : PySem.W.Frag} {n : Str} {f c P : Addr} {o : Obj} {fd : FuncData} (T : Top q loose mean mg mb h) (KX : K.In h) (hr : ((recsOf q).any fun e => e.name == n) = true)
    (hm : mg n = some (.ref f)) (k1 : K.lookup f = some o) (k2 : o.data = .func fd) (k3 : fd.code = .ref c) (hh : PySem.W.codeHdIn K c P = true) : h.get? P = some { cls := .none, data := .fields #[] } := by
  obtain ⟨d, hd, e⟩ := List.any_eq_true.mp hr
  have e' : d.name = n := beq_iff_eq.mp e
  obtain ⟨a', o', fd', c', P', t1, t2, t3, t4, t5, t6⟩ := T.tab d hd
  rw [e', hm] at t1
  cases t1
  rw [KX _ _ k1] at t2
  cases t2
  rw [k2] at t3
  cases t3
  rw [k3] at t4
  cases t4
  obtain ⟨⟨oc, vc, g1, _, g3, g4⟩, g5⟩ := t6
  obtain ⟨oh, uh, _, _, _, _, _, _, _, i1, _, i2, i3, _⟩ := PySem.W.codeHd_of_K KX hh
  rw [g1] at i1
  cases i1
  rw [g3] at i2
  cases i2
  rw [g4] at i3
  cases i3
  exact g5
/-- what the head must know of the law's def -/
def AtLaw (l : PySem.W.OpenLaw) (w : World) (K : PySem.W.Frag) (mg : Str → Option Value) (fa : Addr) (h : Heap) : Prop :=
  ∃ (fd : FuncData) (P1 P2 P3 P4 : Addr), (∀ b ∈ [P1, P2, P3, P4], h.get? b = some { cls := .none, data := .fields #[] }) ∧ (∀ b ∈ [P1, P2, P3, P4], ∃ c, PySem.W.codeHdIn K c b = true) ∧ (∀ b ∈ [P1, P2, P3, P4], K.lookup b = none) ∧ (∀ (s : Shared) (u : Value), BindsTo s fd ⟨[u], []⟩ [("script", u)]) ∧
    ∀ base : Heap, K.In base → base.Ns mainGlobals mg → (∃ o, base.get? sysModules = some o) → (∀ b ∈ [P1, P2, P3, P4], base.BuiltinsAt mg b ∧ mainGlobals ≠ b) → FnG l.prog w K mg base 12 fa fd ["script"] (spLaw K P1 P2 P3 P4)
theorem walk {l : PySem.W.OpenLaw} {q : Program} {loose : List Str} {XP : (Str → Option Value) → Heap → Prop} {YP : World → Heap → Prop} {d : DefRec} {K : Params → PySem.W.Frag} (hn : l.most = some 63) (hdf : d.params.defaults = []) (hi0 : importsNone q = true)
    (hY : ∀ (w : World) (h : Heap), YP w h → (K w.params).In h)
    (F : ∀ (w : World) (mg mb : Str → Option Value) (mean : ExcName → Option Value) (lo : List Str) (fa : Addr) (h : Heap), (K w.params).In h → Top q lo mean mg mb h → mg d.name = some (.ref fa) → AtLaw l w (K w.params) mg fa h) :
    PySem.W.WalkO q loose XP YP l.row.toRowW d [] (fun f vs => PySem.call f vs) := by
  refine Att.attach_callB hn hdf fun w s₀ s₁ mg mb fa o pm cd doc a vs ns G Y ho hd hcd hmg hobj hints hlen _ hg => ?_
  obtain ⟨fd, P1, P2, P3, P4, h1, h2, h3, h4, h5⟩ := F w mg mb _ _ fa s₁.heap (hY w _ Y) G.T hmg
  exact end_own [P1, P2, P3, P4] (hY w _ Y) G.T hi0 hg h1 h2 h3 hobj hints (Nat.le_trans hlen (by decide)) ⟨rfl, by decide, by decide⟩ h5 h4 fun H t hS => ⟨a, ns, rfl, hS, hlen, ⟨⟨#[], t P1 (by simp), trivial⟩, ⟨#[], t P2 (by simp), trivial⟩⟩, ⟨#[], t P3 (by simp), trivial⟩, ⟨#[], t P4 (by simp), trivial⟩, fun _ => rfl⟩
theorem all_mk {l : PySem.W.OpenLaw} {w : World} {K : PySem.W.Frag} {q : Program} {lo : List Str} {mean : ExcName → Option Value} {h : Heap} {mg mb : Str → Option Value} {fa fW fR fA fT fI fL fck fG fM fV fC fIn fse fwi fss fro fob fls fwn fwr fSW fia fE fD fpa fpl fto fms flt fhd fot fpn fZ cT cL cSW cia PT PL PSW Pia X1 X2 CR : Addr} (X : K.In h) (G : Top q lo mean mg mb h) (hfa : mg "law" = some (.ref fa))
    {odW anW : Option Addr} {slW : Array (Option Value)} {ocW kVW dcW pmW cdW ctW : Value}
    {odR anR : Option Addr} {slR : Array (Option Value)} {ocR kVR dcR pmR cdR ctR : Value}
    {odA anA : Option Addr} {slA : Array (Option Value)} {ocA kVA dcA pmA cdA ctA : Value}
    {odT anT : Option Addr} {slT : Array (Option Value)} {ocT kVT dcT pmT ctT : Value}
    {odI anI : Option Addr} {slI : Array (Option Value)} {ocI kVI dcI pmI cdI ctI : Value}
    {odL anL : Option Addr} {slL : Array (Option Value)} {ocL kVL dcL pmL ctL : Value}
    {odck anck : Option Addr} {slck : Array (Option Value)} {occk kVck dcck pmck cdck ctck : Value}
    {odG anG : Option Addr} {slG : Array (Option Value)} {ocG kVG dcG pmG cdG ctG : Value}
    {odM anM : Option Addr} {slM : Array (Option Value)} {ocM kVM dcM pmM cdM ctM : Value}
    {odV anV : Option Addr} {slV : Array (Option Value)} {ocV kVV dcV pmV cdV ctV : Value}
    {odC anC : Option Addr} {slC : Array (Option Value)} {ocC kVC dcC pmC cdC ctC : Value}
    {odIn anIn : Option Addr} {slIn : Array (Option Value)} {ocIn kVIn dcIn pmIn cdIn ctIn : Value}
    {odse anse : Option Addr} {slse : Array (Option Value)} {ocse kVse dcse pmse cdse ctse : Value}
    {odwi anwi : Option Addr} {slwi : Array (Option Value)} {ocwi kVwi dcwi pmwi cdwi ctwi : Value}
    {odss anss : Option Addr} {slss : Array (Option Value)} {ocss kVss dcss pmss cdss ctss : Value}
    {odro anro : Option Addr} {slro : Array (Option Value)} {ocro kVro dcro pmro cdro ctro : Value}
    {odob anob : Option Addr} {slob : Array (Option Value)} {ocob kVob dcob pmob cdob ctob : Value}
    {odls anls : Option Addr} {slls : Array (Option Value)} {ocls kVls dcls pmls cdls ctls : Value}
    {odwn anwn : Option Addr} {slwn : Array (Option Value)} {ocwn kVwn dcwn pmwn cdwn ctwn : Value}
    {odwr anwr : Option Addr} {slwr : Array (Option Value)} {ocwr kVwr dcwr pmwr cdwr ctwr : Value}
    {odSW anSW : Option Addr} {slSW : Array (Option Value)} {ocSW kVSW dcSW pmSW ctSW : Value}
    {odia ania : Option Addr} {slia : Array (Option Value)} {ocia kVia dcia pmia ctia : Value}
    {odE anE : Option Addr} {slE : Array (Option Value)} {ocE kVE dcE pmE cdE ctE : Value}
    {odD anD : Option Addr} {slD : Array (Option Value)} {ocD kVD dcD pmD cdD ctD : Value}
    {odpa anpa : Option Addr} {slpa : Array (Option Value)} {ocpa kVpa dcpa pmpa cdpa ctpa : Value}
    {odpl anpl : Option Addr} {slpl : Array (Option Value)} {ocpl kVpl dcpl pmpl cdpl ctpl : Value}
    {odto anto : Option Addr} {slto : Array (Option Value)} {octo kVto dcto pmto cdto ctto : Value}
    {odms anms : Option Addr} {slms : Array (Option Value)} {ocms kVms dcms pmms cdms ctms : Value}
    {odlt anlt : Option Addr} {sllt : Array (Option Value)} {oclt kVlt dclt pmlt cdlt ctlt : Value}
    {odhd anhd : Option Addr} {slhd : Array (Option Value)} {ochd kVhd dchd pmhd cdhd cthd : Value}
    {odot anot : Option Addr} {slot : Array (Option Value)} {ocot kVot dcot pmot cdot ctot : Value}
    {odpn anpn : Option Addr} {slpn : Array (Option Value)} {ocpn kVpn dcpn pmpn cdpn ctpn : Value}
    {odZ anZ : Option Addr} {slZ : Array (Option Value)} {ocZ kVZ dcZ pmZ cdZ ctZ : Value} {eT : Value} {dT : Option Addr} {usT : Array Value} {wT : Array (Option Value)} {eL : Value} {dL : Option Addr} {usL : Array Value} {wL : Array (Option Value)} {eSW : Value} {dSW : Option Addr} {usSW : Array Value} {wSW : Array (Option Value)} {eia : Value} {dia : Option Addr} {usia : Array Value} {wia : Array (Option Value)}
    (gR : PySem.W.nsIn K mainGlobals "Run" = some (some (.ref CR)))
    (pgR : PySem.W.plainGet K CR Str.empty = true)
    (hdR : PySem.W.hasDictIn K CR = true)
    (poR : PySem.W.plainOver K CR = true)
    (saR : PySem.W.findIn K (.ref CR) "__setattr__" = some (some (.builtin "object.__setattr__")))
    (mkR : PySem.W.makesIn K CR = true)
    (kcR : PySem.W.keepIn K (.ref CR) = true)
    (nSt : PySem.W.findIn K (.ref CR) "steps" = some none)
    (nSp : PySem.W.findIn K (.ref CR) "spare" = some none)
    (nLe : PySem.W.findIn K (.ref CR) "length" = some none)
    (nTi : PySem.W.findIn K (.ref CR) "times" = some none)
    (aW : PySem.W.nsIn K mainGlobals "is_whole" = some (some (.ref fW))) (lW : K.lookup fW = some ⟨ocW, odW, .func (PySem.W.fnOf "is_whole" "is_whole" (defArgs sWhole) (defBody sWhole) (defScope sWhole) .none kVW dcW pmW anW cdW ctW), slW⟩) (Wc : PySem.W.codeIn K cdW "is_whole" = true) (kW : PySem.W.keepIn K (.ref fW) = true)
    (aR : PySem.W.nsIn K mainGlobals "is_row" = some (some (.ref fR))) (lR : K.lookup fR = some ⟨ocR, odR, .func (PySem.W.fnOf "is_row" "is_row" (defArgs sRow) (defBody sRow) (defScope sRow) .none kVR dcR pmR anR cdR ctR), slR⟩) (Rc : PySem.W.codeIn K cdR "is_row" = true) (kR : PySem.W.keepIn K (.ref fR) = true)
    (aA : PySem.W.nsIn K mainGlobals "is_patience" = some (some (.ref fA))) (lA : K.lookup fA = some ⟨ocA, odA, .func (PySem.W.fnOf "is_patience" "is_patience" (defArgs sPat) (defBody sPat) (defScope sPat) .none kVA dcA pmA anA cdA ctA), slA⟩) (Ac : PySem.W.codeIn K cdA "is_patience" = true) (kA : PySem.W.keepIn K (.ref fA) = true)
    (aT : PySem.W.nsIn K mainGlobals "is_turns" = some (some (.ref fT))) (lT : K.lookup fT = some ⟨ocT, odT, .func (PySem.W.fnOf "is_turns" "is_turns" (defArgs sTurns) (defBody sTurns) (defScope sTurns) .none kVT dcT pmT anT (.ref cT) ctT), slT⟩) (Tc : PySem.W.codeIn K (.ref cT) "is_turns" = true) (kT : PySem.W.keepIn K (.ref fT) = true)
    (aI : PySem.W.nsIn K mainGlobals "is_piece" = some (some (.ref fI))) (lI : K.lookup fI = some ⟨ocI, odI, .func (PySem.W.fnOf "is_piece" "is_piece" (defArgs sPiece) (defBody sPiece) (defScope sPiece) .none kVI dcI pmI anI cdI ctI), slI⟩) (Ic : PySem.W.codeIn K cdI "is_piece" = true) (kI : PySem.W.keepIn K (.ref fI) = true)
    (aL : PySem.W.nsIn K mainGlobals "is_plan" = some (some (.ref fL))) (lL : K.lookup fL = some ⟨ocL, odL, .func (PySem.W.fnOf "is_plan" "is_plan" (defArgs sPlan) (defBody sPlan) (defScope sPlan) .none kVL dcL pmL anL (.ref cL) ctL), slL⟩) (Lc : PySem.W.codeIn K (.ref cL) "is_plan" = true) (kL : PySem.W.keepIn K (.ref fL) = true)
    (ack : PySem.W.nsIn K mainGlobals "check_plan" = some (some (.ref fck))) (lck : K.lookup fck = some ⟨occk, odck, .func (PySem.W.fnOf "check_plan" "check_plan" (defArgs sCheck) (defBody sCheck) (defScope sCheck) .none kVck dcck pmck anck cdck ctck), slck⟩) (ckc : PySem.W.codeIn K cdck "check_plan" = true) (kck : PySem.W.keepIn K (.ref fck) = true)
    (aG : PySem.W.nsIn K mainGlobals "pieces_of" = some (some (.ref fG))) (lG : K.lookup fG = some ⟨ocG, odG, .func (PySem.W.fnOf "pieces_of" "pieces_of" (defArgs sPieces) (defBody sPieces) (defScope sPieces) .none kVG dcG pmG anG cdG ctG), slG⟩) (Gc : PySem.W.codeIn K cdG "pieces_of" = true) (kG : PySem.W.keepIn K (.ref fG) = true)
    (aM : PySem.W.nsIn K mainGlobals "many_in" = some (some (.ref fM))) (lM : K.lookup fM = some ⟨ocM, odM, .func (PySem.W.fnOf "many_in" "many_in" (defArgs sMany) (defBody sMany) (defScope sMany) .none kVM dcM pmM anM cdM ctM), slM⟩) (Mc : PySem.W.codeIn K cdM "many_in" = true) (kM : PySem.W.keepIn K (.ref fM) = true)
    (aV : PySem.W.nsIn K mainGlobals "piece_number" = some (some (.ref fV))) (lV : K.lookup fV = some ⟨ocV, odV, .func (PySem.W.fnOf "piece_number" "piece_number" (defArgs sPieceNo) (defBody sPieceNo) (defScope sPieceNo) .none kVV dcV pmV anV cdV ctV), slV⟩) (Vc : PySem.W.codeIn K cdV "piece_number" = true) (kV : PySem.W.keepIn K (.ref fV) = true)
    (aC : PySem.W.nsIn K mainGlobals "check_person" = some (some (.ref fC))) (lC : K.lookup fC = some ⟨ocC, odC, .func (PySem.W.fnOf "check_person" "check_person" (defArgs sCkP) (defBody sCkP) (defScope sCkP) .none kVC dcC pmC anC cdC ctC), slC⟩) (Cc : PySem.W.codeIn K cdC "check_person" = true) (kC : PySem.W.keepIn K (.ref fC) = true)
    (aIn : PySem.W.findIn K (.ref CR) "__init__" = some (some (.ref fIn))) (lIn : K.lookup fIn = some ⟨ocIn, odIn, .func (PySem.W.fnOf "__init__" "Run.__init__" (defArgs sInit) (defBody sInit) (defScope sInit) .none kVIn dcIn pmIn anIn cdIn ctIn), slIn⟩) (Inc : PySem.W.codeIn K cdIn "Run.__init__" = true) (kIn : PySem.W.keepIn K (.ref fIn) = true)
    (ase : PySem.W.nsIn K mainGlobals "stretch_end" = some (some (.ref fse))) (lse : K.lookup fse = some ⟨ocse, odse, .func (PySem.W.fnOf "stretch_end" "stretch_end" (defArgs sEnd) (defBody sEnd) (defScope sEnd) .none kVse dcse pmse anse cdse ctse), slse⟩) (sec : PySem.W.codeIn K cdse "stretch_end" = true) (kse : PySem.W.keepIn K (.ref fse) = true)
    (awi : PySem.W.nsIn K mainGlobals "window_widths" = some (some (.ref fwi))) (lwi : K.lookup fwi = some ⟨ocwi, odwi, .func (PySem.W.fnOf "window_widths" "window_widths" (defArgs sWid) (defBody sWid) (defScope sWid) .none kVwi dcwi pmwi anwi cdwi ctwi), slwi⟩) (wic : PySem.W.codeIn K cdwi "window_widths" = true) (kwi : PySem.W.keepIn K (.ref fwi) = true)
    (ass : PySem.W.nsIn K mainGlobals "stretch_steps" = some (some (.ref fss))) (lss : K.lookup fss = some ⟨ocss, odss, .func (PySem.W.fnOf "stretch_steps" "stretch_steps" (defArgs sSteps) (defBody sSteps) (defScope sSteps) .none kVss dcss pmss anss cdss ctss), slss⟩) (ssc : PySem.W.codeIn K cdss "stretch_steps" = true) (kss : PySem.W.keepIn K (.ref fss) = true)
    (aro : PySem.W.nsIn K mainGlobals "runs_on" = some (some (.ref fro))) (lro : K.lookup fro = some ⟨ocro, odro, .func (PySem.W.fnOf "runs_on" "runs_on" (defArgs sRuns) (defBody sRuns) (defScope sRuns) .none kVro dcro pmro anro cdro ctro), slro⟩) (roc : PySem.W.codeIn K cdro "runs_on" = true) (kro : PySem.W.keepIn K (.ref fro) = true)
    (aob : PySem.W.nsIn K mainGlobals "outer_bound" = some (some (.ref fob))) (lob : K.lookup fob = some ⟨ocob, odob, .func (PySem.W.fnOf "outer_bound" "outer_bound" (defArgs sBnd) (defBody sBnd) (defScope sBnd) .none kVob dcob pmob anob cdob ctob), slob⟩) (obc : PySem.W.codeIn K cdob "outer_bound" = true) (kob : PySem.W.keepIn K (.ref fob) = true)
    (als : PySem.W.nsIn K mainGlobals "last_step" = some (some (.ref fls))) (lls : K.lookup fls = some ⟨ocls, odls, .func (PySem.W.fnOf "last_step" "last_step" (defArgs sLstStep) (defBody sLstStep) (defScope sLstStep) .none kVls dcls pmls anls cdls ctls), slls⟩) (lsc : PySem.W.codeIn K cdls "last_step" = true) (kls : PySem.W.keepIn K (.ref fls) = true)
    (awn : PySem.W.nsIn K mainGlobals "windows_in" = some (some (.ref fwn))) (lwn : K.lookup fwn = some ⟨ocwn, odwn, .func (PySem.W.fnOf "windows_in" "windows_in" (defArgs sWins) (defBody sWins) (defScope sWins) .none kVwn dcwn pmwn anwn cdwn ctwn), slwn⟩) (wnc : PySem.W.codeIn K cdwn "windows_in" = true) (kwn : PySem.W.keepIn K (.ref fwn) = true)
    (awr : PySem.W.nsIn K mainGlobals "windows_around" = some (some (.ref fwr))) (lwr : K.lookup fwr = some ⟨ocwr, odwr, .func (PySem.W.fnOf "windows_around" "windows_around" (defArgs sWinAr) (defBody sWinAr) (defScope sWinAr) .none kVwr dcwr pmwr anwr cdwr ctwr), slwr⟩) (wrc : PySem.W.codeIn K cdwr "windows_around" = true) (kwr : PySem.W.keepIn K (.ref fwr) = true)
    (aSW : PySem.W.nsIn K mainGlobals "is_same_window" = some (some (.ref fSW))) (lSW : K.lookup fSW = some ⟨ocSW, odSW, .func (PySem.W.fnOf "is_same_window" "is_same_window" (defArgs sSaW) (defBody sSaW) (defScope sSaW) .none kVSW dcSW pmSW anSW (.ref cSW) ctSW), slSW⟩) (SWc : PySem.W.codeIn K (.ref cSW) "is_same_window" = true) (kSW : PySem.W.keepIn K (.ref fSW) = true)
    (aia : PySem.W.nsIn K mainGlobals "is_around" = some (some (.ref fia))) (lia : K.lookup fia = some ⟨ocia, odia, .func (PySem.W.fnOf "is_around" "is_around" (defArgs sIsAr) (defBody sIsAr) (defScope sIsAr) .none kVia dcia pmia ania (.ref cia) ctia), slia⟩) (iac : PySem.W.codeIn K (.ref cia) "is_around" = true) (kia : PySem.W.keepIn K (.ref fia) = true)
    (aE : PySem.W.nsIn K mainGlobals "_law_spring" = some (some (.ref fE))) (lE : K.lookup fE = some ⟨ocE, odE, .func (PySem.W.fnOf "_law_spring" "_law_spring" (defArgs sSpring) (defBody sSpring) (defScope sSpring) .none kVE dcE pmE anE cdE ctE), slE⟩) (Ec : PySem.W.codeIn K cdE "_law_spring" = true) (kE : PySem.W.keepIn K (.ref fE) = true)
    (aD : PySem.W.nsIn K mainGlobals "_law_draw" = some (some (.ref fD))) (lD : K.lookup fD = some ⟨ocD, odD, .func (PySem.W.fnOf "_law_draw" "_law_draw" (defArgs sDraw) (defBody sDraw) (defScope sDraw) .none kVD dcD pmD anD cdD ctD), slD⟩) (Dc : PySem.W.codeIn K cdD "_law_draw" = true) (kD : PySem.W.keepIn K (.ref fD) = true)
    (apa : PySem.W.nsIn K mainGlobals "_law_patience" = some (some (.ref fpa))) (lpa : K.lookup fpa = some ⟨ocpa, odpa, .func (PySem.W.fnOf "_law_patience" "_law_patience" (defArgs sPatL) (defBody sPatL) (defScope sPatL) .none kVpa dcpa pmpa anpa cdpa ctpa), slpa⟩) (pac : PySem.W.codeIn K cdpa "_law_patience" = true) (kpa : PySem.W.keepIn K (.ref fpa) = true)
    (apl : PySem.W.nsIn K mainGlobals "_law_plan" = some (some (.ref fpl))) (lpl : K.lookup fpl = some ⟨ocpl, odpl, .func (PySem.W.fnOf "_law_plan" "_law_plan" (defArgs sPlanL) (defBody sPlanL) (defScope sPlanL) .none kVpl dcpl pmpl anpl cdpl ctpl), slpl⟩) (plc : PySem.W.codeIn K cdpl "_law_plan" = true) (kpl : PySem.W.keepIn K (.ref fpl) = true)
    (ato : PySem.W.nsIn K mainGlobals "_law_total" = some (some (.ref fto))) (lto : K.lookup fto = some ⟨octo, odto, .func (PySem.W.fnOf "_law_total" "_law_total" (defArgs sTot) (defBody sTot) (defScope sTot) .none kVto dcto pmto anto cdto ctto), slto⟩) (toc : PySem.W.codeIn K cdto "_law_total" = true) (kto : PySem.W.keepIn K (.ref fto) = true)
    (ams : PySem.W.nsIn K mainGlobals "_law_same" = some (some (.ref fms))) (lms : K.lookup fms = some ⟨ocms, odms, .func (PySem.W.fnOf "_law_same" "_law_same" (defArgs sSam) (defBody sSam) (defScope sSam) .none kVms dcms pmms anms cdms ctms), slms⟩) (msc : PySem.W.codeIn K cdms "_law_same" = true) (kms : PySem.W.keepIn K (.ref fms) = true)
    (alt : PySem.W.nsIn K mainGlobals "_law_lists" = some (some (.ref flt))) (llt : K.lookup flt = some ⟨oclt, odlt, .func (PySem.W.fnOf "_law_lists" "_law_lists" (defArgs sLis) (defBody sLis) (defScope sLis) .none kVlt dclt pmlt anlt cdlt ctlt), sllt⟩) (ltc : PySem.W.codeIn K cdlt "_law_lists" = true) (klt : PySem.W.keepIn K (.ref flt) = true)
    (ahd : PySem.W.nsIn K mainGlobals "_law_handed" = some (some (.ref fhd))) (lhd : K.lookup fhd = some ⟨ochd, odhd, .func (PySem.W.fnOf "_law_handed" "_law_handed" (defArgs sHan) (defBody sHan) (defScope sHan) .none kVhd dchd pmhd anhd cdhd cthd), slhd⟩) (hdc : PySem.W.codeIn K cdhd "_law_handed" = true) (khd : PySem.W.keepIn K (.ref fhd) = true)
    (aot : PySem.W.nsIn K mainGlobals "_law_otherwise" = some (some (.ref fot))) (lot : K.lookup fot = some ⟨ocot, odot, .func (PySem.W.fnOf "_law_otherwise" "_law_otherwise" (defArgs sOth) (defBody sOth) (defScope sOth) .none kVot dcot pmot anot cdot ctot), slot⟩) (otc : PySem.W.codeIn K cdot "_law_otherwise" = true) (kot : PySem.W.keepIn K (.ref fot) = true)
    (apn : PySem.W.nsIn K mainGlobals "_law_plain" = some (some (.ref fpn))) (lpn : K.lookup fpn = some ⟨ocpn, odpn, .func (PySem.W.fnOf "_law_plain" "_law_plain" (defArgs sPla) (defBody sPla) (defScope sPla) .none kVpn dcpn pmpn anpn cdpn ctpn), slpn⟩) (pnc : PySem.W.codeIn K cdpn "_law_plain" = true) (kpn : PySem.W.keepIn K (.ref fpn) = true)
    (aZ : PySem.W.nsIn K mainGlobals "law" = some (some (.ref fZ))) (lZ : K.lookup fZ = some ⟨ocZ, odZ, .func (PySem.W.fnOf "law" "law" (defArgs sLaw) (defBody sLaw) (defScope sLaw) .none kVZ dcZ pmZ anZ cdZ ctZ), slZ⟩) (Zc : PySem.W.codeIn K cdZ "law" = true) (kZ : PySem.W.keepIn K (.ref fZ) = true)
    (iIn : PySem.W.isFn K (.ref fIn) = true)
    (z_isinstance : PySem.W.nsIn K mainGlobals "isinstance" = some none) (z_len : PySem.W.nsIn K mainGlobals "len" = some none) (z_all : PySem.W.nsIn K mainGlobals "all" = some none) (z_any : PySem.W.nsIn K mainGlobals "any" = some none) (z_sum : PySem.W.nsIn K mainGlobals "sum" = some none) (z_int : PySem.W.nsIn K mainGlobals "int" = some none) (z_bool : PySem.W.nsIn K mainGlobals "bool" = some none) (z_list : PySem.W.nsIn K mainGlobals "list" = some none) (z_tuple : PySem.W.nsIn K mainGlobals "tuple" = some none) (z_range : PySem.W.nsIn K mainGlobals "range" = some none) (z_min : PySem.W.nsIn K mainGlobals "min" = some none) (z_repr : PySem.W.nsIn K mainGlobals "repr" = some none) (z_enumerate : PySem.W.nsIn K mainGlobals "enumerate" = some none) (z_max : PySem.W.nsIn K mainGlobals "max" = some none) (z_abs : PySem.W.nsIn K mainGlobals "abs" = some none) (z_str : PySem.W.nsIn K mainGlobals "str" = some none)
    (mT : K.lookup cT = some ⟨eT, dT, .fields usT, wT⟩) (pT : usT[11]? = some (.ref PT)) (qT : PySem.W.codeHdIn K cT PT = true) (nT : (K.lookup PT).isNone = true) (rT : ((recsOf q).any fun e => e.name == "is_turns") = true)
    (mL : K.lookup cL = some ⟨eL, dL, .fields usL, wL⟩) (pL : usL[11]? = some (.ref PL)) (qL : PySem.W.codeHdIn K cL PL = true) (nL : (K.lookup PL).isNone = true) (rL : ((recsOf q).any fun e => e.name == "is_plan") = true)
    (mSW : K.lookup cSW = some ⟨eSW, dSW, .fields usSW, wSW⟩) (pSW : usSW[11]? = some (.ref PSW)) (qSW : PySem.W.codeHdIn K cSW PSW = true) (nSW : (K.lookup PSW).isNone = true) (rSW : ((recsOf q).any fun e => e.name == "is_same_window") = true)
    (mia : K.lookup cia = some ⟨eia, dia, .fields usia, wia⟩) (pia : usia[11]? = some (.ref Pia)) (qia : PySem.W.codeHdIn K cia Pia = true) (nia : (K.lookup Pia).isNone = true) (ria : ((recsOf q).any fun e => e.name == "is_around") = true)
    (xg1 : PySem.W.nsIn K mainGlobals "NoPlan" = some (some (.ref X1)))
    (xx1 : PySem.W.excIn K X1 [.type "ValueError", .type "Exception", .type "BaseException", .type "object"] "ValueError.__new__" = true)
    (xk1 : PySem.W.keepIn K (.ref X1) = true)
    (xb1 : PySem.W.subIn K (.ref X1) (.type "BaseException") = some true)
    (xt1 : PySem.W.typeIn K (.ref X1) = some (.type "type"))
    (xg2 : PySem.W.nsIn K mainGlobals "NoPerson" = some (some (.ref X2)))
    (xx2 : PySem.W.excIn K X2 [.type "ValueError", .type "Exception", .type "BaseException", .type "object"] "ValueError.__new__" = true)
    (xk2 : PySem.W.keepIn K (.ref X2) = true)
    (xb2 : PySem.W.subIn K (.ref X2) (.type "BaseException") = some true)
    (xt2 : PySem.W.typeIn K (.ref X2) = some (.type "type"))
    {tg tl : Tok} (gG : PySem.W.nsIn K mainGlobals "GREATEST" = some (some (.int GREAT tg))) (gL : PySem.W.nsIn K mainGlobals "LONGEST" = some (some (.int 8 tl))) : AtLaw l w K mg fa h := by
  have e := hfa.symm.trans (PySem.W.mg_of X G.g aZ)
  cases e
  have FW := fun_mk (st := sWhole) lW Wc kW
  have FR := fun_mk (st := sRow) lR Rc kR
  have FA := fun_mk (st := sPat) lA Ac kA
  have FT := fun_mk (st := sTurns) lT Tc kT
  have FI := fun_mk (st := sPiece) lI Ic kI
  have FL := fun_mk (st := sPlan) lL Lc kL
  have Fck := fun_mk (st := sCheck) lck ckc kck
  have FG := fun_mk (st := sPieces) lG Gc kG
  have FM := fun_mk (st := sMany) lM Mc kM
  have FV := fun_mk (st := sPieceNo) lV Vc kV
  have FC := fun_mk (st := sCkP) lC Cc kC
  have FIn := fun_mk (st := sInit) lIn Inc kIn
  have Fse := fun_mk (st := sEnd) lse sec kse
  have Fwi := fun_mk (st := sWid) lwi wic kwi
  have Fss := fun_mk (st := sSteps) lss ssc kss
  have Fro := fun_mk (st := sRuns) lro roc kro
  have Fob := fun_mk (st := sBnd) lob obc kob
  have Fls := fun_mk (st := sLstStep) lls lsc kls
  have Fwn := fun_mk (st := sWins) lwn wnc kwn
  have Fwr := fun_mk (st := sWinAr) lwr wrc kwr
  have FSW := fun_mk (st := sSaW) lSW SWc kSW
  have Fia := fun_mk (st := sIsAr) lia iac kia
  have FE := fun_mk (st := sSpring) lE Ec kE
  have FD := fun_mk (st := sDraw) lD Dc kD
  have Fpa := fun_mk (st := sPatL) lpa pac kpa
  have Fpl := fun_mk (st := sPlanL) lpl plc kpl
  have Fto := fun_mk (st := sTot) lto toc kto
  have Fms := fun_mk (st := sSam) lms msc kms
  have Flt := fun_mk (st := sLis) llt ltc klt
  have Fhd := fun_mk (st := sHan) lhd hdc khd
  have Fot := fun_mk (st := sOth) lot otc kot
  have Fpn := fun_mk (st := sPla) lpn pnc kpn
  have FZ := fun_mk (st := sLaw) lZ Zc kZ
  have bW := FW.binds (ps := ["thing"]) fun _ _ _ _ _ _ us hl => match us, hl with | [_], _ => rfl
  have bR := FR.binds (ps := ["thing"]) fun _ _ _ _ _ _ us hl => match us, hl with | [_], _ => rfl
  have bA := FA.binds (ps := ["thing"]) fun _ _ _ _ _ _ us hl => match us, hl with | [_], _ => rfl
  have bT := FT.binds (ps := ["thing"]) fun _ _ _ _ _ _ us hl => match us, hl with | [_], _ => rfl
  have bI := FI.binds (ps := ["thing"]) fun _ _ _ _ _ _ us hl => match us, hl with | [_], _ => rfl
  have bL := FL.binds (ps := ["thing"]) fun _ _ _ _ _ _ us hl => match us, hl with | [_], _ => rfl
  have bck := Fck.binds (ps := ["thing"]) fun _ _ _ _ _ _ us hl => match us, hl with | [_], _ => rfl
  have bG := FG.binds (ps := ["plan"]) fun _ _ _ _ _ _ us hl => match us, hl with | [_], _ => rfl
  have bM := FM.binds (ps := ["pieces"]) fun _ _ _ _ _ _ us hl => match us, hl with | [_], _ => rfl
  have bV := FV.binds (ps := ["pieces", "person"]) fun _ _ _ _ _ _ us hl => match us, hl with | [_, _], _ => rfl
  have bC := FC.binds (ps := ["pieces", "person"]) fun _ _ _ _ _ _ us hl => match us, hl with | [_, _], _ => rfl
  have bIn := FIn.binds (ps := ["self", "steps", "room"]) fun _ _ _ _ _ _ us hl => match us, hl with | [_, _, _], _ => rfl
  have bse := Fse.binds (ps := ["piece", "start", "bound", "stop"]) fun _ _ _ _ _ _ us hl => match us, hl with | [_, _, _, _], _ => rfl
  have bwi := Fwi.binds (ps := ["turns", "start", "bound"]) fun _ _ _ _ _ _ us hl => match us, hl with | [_, _, _], _ => rfl
  have bss := Fss.binds (ps := ["piece", "start", "bound", "end"]) fun _ _ _ _ _ _ us hl => match us, hl with | [_, _, _, _], _ => rfl
  have bro := Fro.binds (ps := ["pieces", "start", "bound", "stop"]) fun _ _ _ _ _ _ us hl => match us, hl with | [_, _, _, _], _ => rfl
  have bob := Fob.binds (ps := ["pieces"]) fun _ _ _ _ _ _ us hl => match us, hl with | [_], _ => rfl
  have bls := Fls.binds (ps := ["runs"]) fun _ _ _ _ _ _ us hl => match us, hl with | [_], _ => rfl
  have bwn := Fwn.binds (ps := ["pieces", "person"]) fun _ _ _ _ _ _ us hl => match us, hl with | [_, _], _ => rfl
  have bwr := Fwr.binds (ps := ["plan", "person"]) fun _ _ _ _ _ _ us hl => match us, hl with | [_, _], _ => rfl
  have bSW := FSW.binds (ps := ["thing", "window"]) fun _ _ _ _ _ _ us hl => match us, hl with | [_, _], _ => rfl
  have bia := Fia.binds (ps := ["plan", "person", "thing"]) fun _ _ _ _ _ _ us hl => match us, hl with | [_, _, _], _ => rfl
  have bE := FE.binds (ps := ["script"]) fun _ _ _ _ _ _ us hl => match us, hl with | [_], _ => rfl
  have bD := FD.binds (ps := ["spring", "many"]) fun _ _ _ _ _ _ us hl => match us, hl with | [_, _], _ => rfl
  have bpa := Fpa.binds (ps := ["spring", "wide"]) fun _ _ _ _ _ _ us hl => match us, hl with | [_, _], _ => rfl
  have bpl := Fpl.binds (ps := ["spring", "ends"]) fun _ _ _ _ _ _ us hl => match us, hl with | [_, _], _ => rfl
  have bto := Fto.binds (ps := ["plan"]) fun _ _ _ _ _ _ us hl => match us, hl with | [_], _ => rfl
  have bms := Fms.binds (ps := ["found", "due"]) fun _ _ _ _ _ _ us hl => match us, hl with | [_, _], _ => rfl
  have blt := Flt.binds (ps := ["thing"]) fun _ _ _ _ _ _ us hl => match us, hl with | [_], _ => rfl
  have bhd := Fhd.binds (ps := ["spring", "thing"]) fun _ _ _ _ _ _ us hl => match us, hl with | [_, _], _ => rfl
  have bot := Fot.binds (ps := ["spring", "road"]) fun _ _ _ _ _ _ us hl => match us, hl with | [_, _], _ => rfl
  have bpn := Fpn.binds (ps := ["thing"]) fun _ _ _ _ _ _ us hl => match us, hl with | [_], _ => rfl
  have bZ := FZ.binds (ps := ["script"]) fun _ _ _ _ _ _ us hl => match us, hl with | [_], _ => rfl
  have CT : FunC K "is_turns" "is_turns" sTurns fT _ cT := ⟨⟨ocT, odT, kVT, dcT, pmT, anT, ctT, slT, rfl, lT, Tc⟩, kT⟩
  have CL : FunC K "is_plan" "is_plan" sPlan fL _ cL := ⟨⟨ocL, odL, kVL, dcL, pmL, anL, ctL, slL, rfl, lL, Lc⟩, kL⟩
  have CSW : FunC K "is_same_window" "is_same_window" sSaW fSW _ cSW := ⟨⟨ocSW, odSW, kVSW, dcSW, pmSW, anSW, ctSW, slSW, rfl, lSW, SWc⟩, kSW⟩
  have Cia : FunC K "is_around" "is_around" sIsAr fia _ cia := ⟨⟨ocia, odia, kVia, dcia, pmia, ania, ctia, slia, rfl, lia, iac⟩, kia⟩
  have m := fun {n : Str} (e : PySem.W.nsIn K mainGlobals n = some none) => PySem.W.mg_none_of X G.g e
  have g := fun {n : Str} {v : Value} (e : PySem.W.nsIn K mainGlobals n = some (some v)) => PySem.W.mg_of X G.g e
  have T : Nm mg := ⟨m z_isinstance, m z_len, m z_all, m z_any, m z_sum, m z_int, m z_bool, m z_list, m z_tuple, ⟨_, g gG⟩, ⟨_, g gL⟩⟩
  have T2 : Nm2 mg := ⟨m z_range, m z_min, m z_repr, m z_enumerate⟩
  have XC1 : ExcC K mg "NoPlan" X1 := ⟨g xg1, xx1, xk1, xb1, xt1⟩
  have XC2 : ExcC K mg "NoPerson" X2 := ⟨g xg2, xx2, xk2, xb2, xt2⟩
  have TR : RunC K mg CR fIn := ⟨⟨pgR, hdR, poR, saR⟩, nSt, nSp, nLe, nTi, g gR, ⟨mkR, aIn, iIn, kcR⟩⟩
  have nT' := Option.isNone_iff_eq_none.mp nT
  have nL' := Option.isNone_iff_eq_none.mp nL
  refine ⟨PySem.W.fnOf "law" "law" (defArgs sLaw) (defBody sLaw) (defScope sLaw) .none kVZ dcZ pmZ anZ cdZ ctZ, PT, PL, PSW, Pia, fun b hb => ?_, fun b hb => ?_, fun b hb => ?_, fun s v => .of_eq rfl, fun base _ _ hsys hB => ?_⟩
  · simp only [List.mem_cons, List.not_mem_nil, or_false] at hb
    rcases hb with rfl | rfl | rfl | rfl
    · exact tab_of G X rT (PySem.W.mg_of X G.g aT) lT rfl rfl qT
    · exact tab_of G X rL (PySem.W.mg_of X G.g aL) lL rfl rfl qL
    · exact tab_of G X rSW (PySem.W.mg_of X G.g aSW) lSW rfl rfl qSW
    · exact tab_of G X ria (PySem.W.mg_of X G.g aia) lia rfl rfl qia
  · simp only [List.mem_cons, List.not_mem_nil, or_false] at hb
    rcases hb with rfl | rfl | rfl | rfl
    · exact ⟨_, qT⟩
    · exact ⟨_, qL⟩
    · exact ⟨_, qSW⟩
    · exact ⟨_, qia⟩
  · simp only [List.mem_cons, List.not_mem_nil, or_false] at hb
    rcases hb with rfl | rfl | rfl | rfl
    · exact Option.isNone_iff_eq_none.mp nT
    · exact Option.isNone_iff_eq_none.mp nL
    · exact Option.isNone_iff_eq_none.mp nSW
    · exact Option.isNone_iff_eq_none.mp nia
  · have XB : K.In base := ‹K.In base›
    have TB1 : GxR.TabB base mg cT PT := ⟨PySem.W.codeHd_of_K XB qT, (hB PT (by simp)).1, (hB PT (by simp)).2⟩
    have TB2 : GxR.TabB base mg cL PL := ⟨PySem.W.codeHd_of_K XB qL, (hB PL (by simp)).1, (hB PL (by simp)).2⟩
    have TB3 : GxR.TabB base mg cSW PSW := ⟨PySem.W.codeHd_of_K XB qSW, (hB PSW (by simp)).1, (hB PSW (by simp)).2⟩
    have TB4 : GxR.TabB base mg cia Pia := ⟨PySem.W.codeHd_of_K XB qia, (hB Pia (by simp)).1, (hB Pia (by simp)).2⟩
    have KW : Cal l.prog w K mg base 1 "is_whole" ["thing"] (spOne isWhole) := ⟨fW, _, g aW, kW, bW, ok_whole FW T⟩
    have KR : Cal l.prog w K mg base 1 "is_row" ["thing"] (spOne isRow) := ⟨fR, _, g aR, kR, bR, ok_row FR T⟩
    have KA : Cal l.prog w K mg base 2 "is_patience" ["thing"] (spOne isPatience) := ⟨fA, _, g aA, kA, bA, ok_pat FA T KW⟩
    have KT : Cal l.prog w K mg base 4 "is_turns" ["thing"] (spTab PT PL isTurns) := ⟨fT, _, g aT, kT, bT, ok_turns CT T TB1 KR KA⟩
    have KI : Cal l.prog w K mg base 5 "is_piece" ["thing"] (spTab PT PL isPiece) := ⟨fI, _, g aI, kI, bI, ok_piece FI T KW KR KT⟩
    have KP : Cal l.prog w K mg base 7 "is_plan" ["thing"] (spTab PT PL isPlan) := ⟨fL, _, g aL, kL, bL, ok_plan CL T TB2 KR KI⟩
    have Kck : CalX l.prog w K mg base 8 "check_plan" ["thing"] (spCheck PT PL X1) := ⟨fck, _, g ack, kck, bck, ok_check Fck XC1 KP⟩
    have KG : CalX l.prog w K mg base 9 "pieces_of" ["plan"] (spPieces PT PL X1) := ⟨fG, _, g aG, kG, bG, ok_pieces FG T Kck⟩
    have KM : Cal l.prog w K mg base 1 "many_in" ["pieces"] (spMany) := ⟨fM, _, g aM, kM, bM, ok_many FM⟩
    have KV : Cal l.prog w K mg base 1 "piece_number" ["pieces", "person"] (spPieceNo) := ⟨fV, _, g aV, kV, bV, ok_pieceNo FV⟩
    have KC : CalX l.prog w K mg base 2 "check_person" ["pieces", "person"] (spCkP X2) := ⟨fC, _, g aC, kC, bC, ok_ckp FC XC2 KM KW⟩
    have Kse : Cal l.prog w K mg base 1 "stretch_end" ["piece", "start", "bound", "stop"] (spEnd) := ⟨fse, _, g ase, kse, bse, ok_end Fse (m z_min)⟩
    have Kwi : Cal l.prog w K mg base 1 "window_widths" ["turns", "start", "bound"] (spWid) := ⟨fwi, _, g awi, kwi, bwi, ok_wid Fwi⟩
    have Kss : Cal l.prog w K mg base 2 "stretch_steps" ["piece", "start", "bound", "end"] (spSteps) := ⟨fss, _, g ass, kss, bss, ok_steps Fss T (m z_max) Kwi⟩
    have FI1 := ok_init (P := l.prog) (w := w) (base := base) FIn T (m z_max) TR
    have Kro : Cal l.prog w K mg base 3 "runs_on" ["pieces", "start", "bound", "stop"] (spRuns CR) := ⟨fro, _, g aro, kro, bro, ok_runs Fro TR FI1 bIn KV Kse Kss⟩
    have Kob : Cal l.prog w K mg base 2 "outer_bound" ["pieces"] (spBnd) := ⟨fob, _, g aob, kob, bob, ok_bnd Fob KM⟩
    have Kls : Cal l.prog w K mg base 1 "last_step" ["runs"] (spLast CR) := ⟨fls, _, g als, kls, bls, ok_last Fls TR⟩
    have Kwn : Cal l.prog w K mg base 4 "windows_in" ["pieces", "person"] (spWins) := ⟨fwn, _, g awn, kwn, bwn, ok_wins Fwn Kob Kro Kls⟩
    have Kwr : CalX l.prog w K mg base 10 "windows_around" ["plan", "person"] (spWinAr PT PL X1 X2) := ⟨fwr, _, g awr, kwr, bwr, ok_winAr Fwr KG KC Kwn⟩
    have Ksw : Cal l.prog w K mg base 4 "is_same_window" ["thing", "window"] (spSameD PSW) := ⟨fSW, _, g aSW, kSW, bSW, ok_sameD CSW T T2.range TB3 KR KW⟩
    have Kia : CalX l.prog w K mg base 11 "is_around" ["plan", "person", "thing"] (spIsArD PT PL PSW Pia X1 X2) := ⟨fia, _, g aia, kia, bia, ok_isArD Cia T T2.range TB4 KR Ksw Kwr⟩
    have KE : Cal l.prog w K mg base 1 "_law_spring" ["script"] (spSpring K) := ⟨fE, _, g aE, kE, bE, ok_spring FE (m z_abs)⟩
    have kd : ∀ r, Cal l.prog w K mg base 1 "_law_draw" ["spring", "many"] (spDraw r) := fun r => ⟨fD, _, g aD, kD, bD, ok_draw FD⟩
    have KD : Cal l.prog w K mg base 1 "_law_draw" ["spring", "many"] (spE spDraw) := ⟨fD, _, g aD, kD, bD, fnE fun r => ok_draw FD⟩
    have kp : ∀ r, Cal l.prog w K mg base 2 "_law_patience" ["spring", "wide"] (spPatL r) := fun r => ⟨fpa, _, g apa, kpa, bpa, ok_patL Fpa T (kd r)⟩
    have Kpl : Cal l.prog w K mg base 3 "_law_plan" ["spring", "ends"] (spE spPlanL) := ⟨fpl, _, g apl, kpl, bpl, fnE fun r => ok_planL Fpl T T2.range T2.min ((kd r).mono (by decide)) (kp r)⟩
    have Kto : Cal l.prog w K mg base 1 "_law_total" ["plan"] (spTot) := ⟨fto, _, g ato, kto, bto, ok_tot Fto T⟩
    have ks0 : Cal l.prog w K mg base 1 "_law_same" ["found", "due"] (spNo) := ⟨fms, _, g ams, kms, bms, ok_samNo Fms⟩
    have ks1 : Cal l.prog w K mg base 2 "_law_same" ["found", "due"] (spSam 0) := ⟨fms, _, g ams, kms, bms, ok_sam (n := 0) Fms T T2.range (m z_str) ks0⟩
    have ks2 : Cal l.prog w K mg base 3 "_law_same" ["found", "due"] (spSam 1) := ⟨fms, _, g ams, kms, bms, ok_sam (n := 1) Fms T T2.range (m z_str) ks1⟩
    have kl0 : Cal l.prog w K mg base 1 "_law_lists" ["thing"] (spNo) := ⟨flt, _, g alt, klt, blt, ok_no Flt⟩
    have kl1 : Cal l.prog w K mg base 2 "_law_lists" ["thing"] (spL0) := ⟨flt, _, g alt, klt, blt, ok_l0 Flt T kl0⟩
    have kl2 : Cal l.prog w K mg base 3 "_law_lists" ["thing"] (spL1) := ⟨flt, _, g alt, klt, blt, ok_l1 Flt T kl1⟩
    have kl3 : Cal l.prog w K mg base 4 "_law_lists" ["thing"] (spL2) := ⟨flt, _, g alt, klt, blt, ok_l2 Flt T kl2⟩
    have Khd : Cal l.prog w K mg base 5 "_law_handed" ["spring", "thing"] (spE spHan) := ⟨fhd, _, g ahd, khd, bhd, fnE fun r => ok_han Fhd T ((kd r).mono (by decide)) (kl2.mono (by decide)) kl3⟩
    have Kot : Cal l.prog w K mg base 2 "_law_otherwise" ["spring", "road"] (spE spOth) := ⟨fot, _, g aot, kot, bot, fnE fun r => ok_oth Fot T (kd r)⟩
    have Kpn : Cal l.prog w K mg base 1 "_law_plain" ["thing"] (spPla) := ⟨fpn, _, g apn, kpn, bpn, ok_pla Fpn T⟩
    exact ok_law FZ T T2 KE KD Kpl Kto Kwr Kia Khd Kot Kpn ks2 hsys
end CL
open PySem PySem.W PyProof.Rows
set_option maxRecDepth 100000 in
set_option maxHeartbeats 0 in
theorem PySem.Challenge.cw_comersline_k18_windows_judged_holds : PySem.Challenge.rw_comersline_k18_windows_judged.Holds := by
  w_on; o_law; k_head; (case hw => w_witness2)
  k_fill
  refine CL.walk (l := PySem.Challenge.rw_comersline_k18_windows_judged) rfl rfl (by decide +kernel) (fun w h Y => PySem.W.kIn_of Y) ?F
  case F =>
    intro w mg mb mean lo fa h KX G hmg
    refine' CL.all_mk KX G hmg ?gR ?pgR ?hdR ?poR ?saR ?mkR ?kcR ?nSt ?nSp ?nLe ?nTi ?aW ?lW ?Wc ?kW ?aR ?lR ?Rc ?kR ?aA ?lA ?Ac ?kA ?aT ?lT ?Tc ?kT ?aI ?lI ?Ic ?kI ?aL ?lL ?Lc ?kL ?ack ?lck ?ckc ?kck ?aG ?lG ?Gc ?kG ?aM ?lM ?Mc ?kM ?aV ?lV ?Vc ?kV ?aC ?lC ?Cc ?kC ?aIn ?lIn ?Inc ?kIn ?ase ?lse ?sec ?kse ?awi ?lwi ?wic ?kwi ?ass ?lss ?ssc ?kss ?aro ?lro ?roc ?kro ?aob ?lob ?obc ?kob ?als ?lls ?lsc ?kls ?awn ?lwn ?wnc ?kwn ?awr ?lwr ?wrc ?kwr ?aSW ?lSW ?SWc ?kSW ?aia ?lia ?iac ?kia ?aE ?lE ?Ec ?kE ?aD ?lD ?Dc ?kD ?apa ?lpa ?pac ?kpa ?apl ?lpl ?plc ?kpl ?ato ?lto ?toc ?kto ?ams ?lms ?msc ?kms ?alt ?llt ?ltc ?klt ?ahd ?lhd ?hdc ?khd ?aot ?lot ?otc ?kot ?apn ?lpn ?pnc ?kpn ?aZ ?lZ ?Zc ?kZ ?iIn ?z_isinstance ?z_len ?z_all ?z_any ?z_sum ?z_int ?z_bool ?z_list ?z_tuple ?z_range ?z_min ?z_repr ?z_enumerate ?z_max ?z_abs ?z_str ?mT ?pT ?qT ?nT ?rT ?mL ?pL ?qL ?nL ?rL ?mSW ?pSW ?qSW ?nSW ?rSW ?mia ?pia ?qia ?nia ?ria ?xg1 ?xx1 ?xk1 ?xb1 ?xt1 ?xg2 ?xx2 ?xk2 ?xb2 ?xt2 ?gG ?gL
    (case gR => k_is)
    (case pgR => k_is)
    (case hdR => k_is)
    (case poR => k_is)
    (case saR => k_is)
    (case mkR => k_is)
    (case kcR => k_is)
    (case nSt => k_is)
    (case nSp => k_is)
    (case nLe => k_is)
    (case nTi => k_is)
    (case aW => k_is)
    (case lW => k_is)
    (case Wc => k_is)
    (case kW => k_is)
    (case aR => k_is)
    (case lR => k_is)
    (case Rc => k_is)
    (case kR => k_is)
    (case aA => k_is)
    (case lA => k_is)
    (case Ac => k_is)
    (case kA => k_is)
    (case aT => k_is)
    (case lT => k_is)
    (case Tc => k_is)
    (case kT => k_is)
    (case aI => k_is)
    (case lI => k_is)
    (case Ic => k_is)
    (case kI => k_is)
    (case aL => k_is)
    (case lL => k_is)
    (case Lc => k_is)
    (case kL => k_is)
    (case ack => k_is)
    (case lck => k_is)
    (case ckc => k_is)
    (case kck => k_is)
    (case aG => k_is)
    (case lG => k_is)
    (case Gc => k_is)
    (case kG => k_is)
    (case aM => k_is)
    (case lM => k_is)
    (case Mc => k_is)
    (case kM => k_is)
    (case aV => k_is)
    (case lV => k_is)
    (case Vc => k_is)
    (case kV => k_is)
    (case aC => k_is)
    (case lC => k_is)
    (case Cc => k_is)
    (case kC => k_is)
    (case aIn => k_is)
    (case lIn => k_is)
    (case Inc => k_is)
    (case kIn => k_is)
    (case ase => k_is)
    (case lse => k_is)
    (case sec => k_is)
    (case kse => k_is)
    (case awi => k_is)
    (case lwi => k_is)
    (case wic => k_is)
    (case kwi => k_is)
    (case ass => k_is)
    (case lss => k_is)
    (case ssc => k_is)
    (case kss => k_is)
    (case aro => k_is)
    (case lro => k_is)
    (case roc => k_is)
    (case kro => k_is)
    (case aob => k_is)
    (case lob => k_is)
    (case obc => k_is)
    (case kob => k_is)
    (case als => k_is)
    (case lls => k_is)
    (case lsc => k_is)
    (case kls => k_is)
    (case awn => k_is)
    (case lwn => k_is)
    (case wnc => k_is)
    (case kwn => k_is)
    (case awr => k_is)
    (case lwr => k_is)
    (case wrc => k_is)
    (case kwr => k_is)
    (case aSW => k_is)
    (case lSW => k_is)
    (case SWc => k_is)
    (case kSW => k_is)
    (case aia => k_is)
    (case lia => k_is)
    (case iac => k_is)
    (case kia => k_is)
    (case aE => k_is)
    (case lE => k_is)
    (case Ec => k_is)
    (case kE => k_is)
    (case aD => k_is)
    (case lD => k_is)
    (case Dc => k_is)
    (case kD => k_is)
    (case apa => k_is)
    (case lpa => k_is)
    (case pac => k_is)
    (case kpa => k_is)
    (case apl => k_is)
    (case lpl => k_is)
    (case plc => k_is)
    (case kpl => k_is)
    (case ato => k_is)
    (case lto => k_is)
    (case toc => k_is)
    (case kto => k_is)
    (case ams => k_is)
    (case lms => k_is)
    (case msc => k_is)
    (case kms => k_is)
    (case alt => k_is)
    (case llt => k_is)
    (case ltc => k_is)
    (case klt => k_is)
    (case ahd => k_is)
    (case lhd => k_is)
    (case hdc => k_is)
    (case khd => k_is)
    (case aot => k_is)
    (case lot => k_is)
    (case otc => k_is)
    (case kot => k_is)
    (case apn => k_is)
    (case lpn => k_is)
    (case pnc => k_is)
    (case kpn => k_is)
    (case aZ => k_is)
    (case lZ => k_is)
    (case Zc => k_is)
    (case kZ => k_is)
    (case iIn => k_is)
    (case z_isinstance => k_is)
    (case z_len => k_is)
    (case z_all => k_is)
    (case z_any => k_is)
    (case z_sum => k_is)
    (case z_int => k_is)
    (case z_bool => k_is)
    (case z_list => k_is)
    (case z_tuple => k_is)
    (case z_range => k_is)
    (case z_min => k_is)
    (case z_repr => k_is)
    (case z_enumerate => k_is)
    (case z_max => k_is)
    (case z_abs => k_is)
    (case z_str => k_is)
    (case mT => k_is)
    (case pT => rfl)
    (case qT => kernel_rfl)
    (case nT => kernel_rfl)
    (case rT => kernel_rfl)
    (case mL => k_is)
    (case pL => rfl)
    (case qL => kernel_rfl)
    (case nL => kernel_rfl)
    (case rL => kernel_rfl)
    (case mSW => k_is)
    (case pSW => rfl)
    (case qSW => kernel_rfl)
    (case nSW => kernel_rfl)
    (case rSW => kernel_rfl)
    (case mia => k_is)
    (case pia => rfl)
    (case qia => kernel_rfl)
    (case nia => kernel_rfl)
    (case ria => kernel_rfl)
    (case xg1 => k_is)
    (case xx1 => k_exc)
    (case xk1 => k_is)
    (case xb1 => k_is)
    (case xt1 => k_is)
    (case xg2 => k_is)
    (case xx2 => k_exc)
    (case xk2 => k_is)
    (case xb2 => k_is)
    (case xt2 => k_is)
    (case gG => k_is)
    (case gL => k_is)
