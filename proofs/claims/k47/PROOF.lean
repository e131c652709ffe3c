import PyProof.Rows.All
import Wide.All
import OpenK.AllK
import Wide.FinOn
import HandS.ForMost
import HandS.ForExc
import HandS.AnyAll
import HandS.GenBody
import HandS.IsInst
import HandS.TupAny
import HandS.Wide
import HandS.Codes
import HandS.HotCalls
import HandS.ExcIs
import HandS.ExcValue
import HandS.ExcCtx
import HandS.Rev
import HandS.RevTup
import HandS.MapJoin
import HandS.Star
import HandS.StrMore
import HandS.Text
import HandS.WideBits
import HandS.EndTab
import HandS.NestedK
import PySem.Challenge.RW_comersline_k47_what_is_not_written
set_option Elab.async false
set_option linter.all false
set_option maxRecDepth 100000
set_option maxHeartbeats 1000000
namespace GE
open PySem PySem.Spec PyProof.Rows L2 GenW
open Sem (wp)

/-- what a consumer holds between two turns of a generator -/
structure Con (α : Type) where
  fp : List Addr
  at_ : α → Heap → Prop
structure ConOk {α : Type} (C : Con α) : Prop where
  obj : ∀ a h, C.at_ a h → ∀ b ∈ C.fp, ∃ o, h.get? b = some o ∧ ∀ v, o.data ≠ .cell v
  keep : ∀ a h h', C.at_ a h → (∀ b ∈ C.fp, ∀ o, h.get? b = some o → h'.get? b = some o) → C.at_ a h'
  inj : ∀ a b h, C.at_ a h → C.at_ b h → a = b
def conU : Con Unit := ⟨[], fun _ _ => True⟩
theorem conU_ok : ConOk conU := ⟨(fun _ _ _ b hb => nomatch hb), (fun _ _ _ _ _ => trivial), (fun _ _ _ _ _ => rfl)⟩

abbrev nones (n : Nat) : L2.St := List.replicate n none
theorem nones_some {n i : Nat} {v : V} (h : (nones n)[i]? = some (some v)) : False := by
  rw [List.getElem?_replicate] at h
  split at h <;> cases h

section
variable {α : Type}
def GI (Y : Cx) (C : Con α) (fpI : List Addr) (tn : Nat → Heap → Prop) (a : α) (i : Nat) (H : Hp) (s : Shared) : Prop :=
  Inv Y (pinsAt C.fp s.heap) (nones Y.N.length) H s ∧ C.at_ a s.heap ∧ tn i s.heap ∧ ∀ b ∈ fpI, H b = none
def GP (Y : Cx) (C : Con α) (fpI : List Addr) (tn : Nat → Heap → Prop) (Out : α → V → Hp → (α → Hp → Prop) → Prop) : Protocol := fun _ s₀ v s kap =>
  ∃ a i H y Nx, RelV y v ∧ GI Y C fpI tn a i H s ∧ Out a y H Nx ∧ (∀ b ∈ C.fp, ∀ o, s₀.heap.get? b = some o → s.heap.get? b = some o) ∧ ∀ a' s'', GI Y C fpI tn a' i H s'' → Nx a' H → kap (.send .none) s''
def GF (Y : Cx) (C : Con α) (Fin : α → Hp → Prop) : Nat → Shared → Shared → Prop := fun _ s₀ s₁ =>
  ∃ a H, Inv Y (pinsAt C.fp s₁.heap) (nones Y.N.length) H s₁ ∧ C.at_ a s₁.heap ∧ (∀ b ∈ C.fp, ∀ o, s₀.heap.get? b = some o → s₁.heap.get? b = some o) ∧ Fin a H
abbrev GRr (Y : Cx) (C : Con α) (Fin : α → Hp → Prop) : GenEnd := fun n s₀ r s₁ => r = .ok .next ∧ GF Y C Fin n s₀ s₁
def TurnOf (J : It) (n0 : Nat) (g : TG) (tt : TT) (te : TE) (Out : α → V → Hp → (α → Hp → Prop) → Prop) (Fin : α → Hp → Prop) (W : α → Nat → Nat → Hp → Prop) : Prop :=
  ∀ a i m H, W a i m H → (J.stop i H ∧ Fin a H) ∨ (J.go i H ∧ ∃ Nx : α → Hp → Prop, (∀ a' H', Nx a' H' → ∃ m', m' < m ∧ W a' (i + 1) m' H') ∧
    ∀ x H', J.yld i H x H' → g x (nones n0) H' fun σ2 H2 => tt σ2 H2 fun b H3 => if b = true then te σ2 H3 fun y H4 => Out a y H4 Nx else Nx a H3)

def GoOn (M : Model) (A : Around) (R : GenEnd) (P : Protocol) (gi : α → Shared → Prop) (nx : α → Prop) (gs1 : GenState) : Nat → Prop
  | 0 => ∀ a' s'', gi a' s'' → nx a' → False
  | n1 + 1 => ∀ a' s'', gi a' s'' → nx a' → gs1.Goes M A R P n1 (.send .none) s''
theorem over_loopG {A : Around} {elt tg iter : Expr} {ifs : List Expr} {scope : Scope} {pos : Pos} {it acc : Value} {env : Env} :
    A.over (.compLoop (.GeneratorExp elt [⟨tg, iter, ifs, 0⟩] scope pos) 0 it acc env) [] = A.deeper env := by
  first
    | rfl
    | (obtain ⟨hd, d, fr, gs, u⟩ := A; simp [Around.over, Around.deeper, marksOver, frameCount, unitsOf, envsOf, guardsOf, pushEnvs, pushGuards, Code.envs, Code.env?, Code.isFrame, Code.guards, Code.isGuard, Code.weight, Code.frames, Code.isCreation, Code.isCaller, Code.cUnits])
theorem over_startG {A : Around} {elt tg iter : Expr} {ifs : List Expr} {scope : Scope} {pos : Pos} {it acc : Value} {env : Env} :
    A.over (.compStart (.GeneratorExp elt [⟨tg, iter, ifs, 0⟩] scope pos) 0 it acc env) [] = A.deeper env := by
  first
    | rfl
    | (obtain ⟨hd, d, fr, gs, u⟩ := A; simp [Around.over, Around.deeper, marksOver, frameCount, unitsOf, envsOf, guardsOf, pushEnvs, pushGuards, Code.envs, Code.env?, Code.isFrame, Code.guards, Code.isGuard, Code.weight, Code.frames, Code.isCreation, Code.isCaller, Code.cUnits])

theorem Inv.gensG {X : Cx} {pins : List (Addr × Obj)} {σ : L2.St} {H : Hp} {s : Shared} (I : Inv X pins σ H s) {G : Array GenState} (h : AllBare G) : Inv X pins σ H { s with gens := G } :=
  ⟨I.ok, I.os, h, I.base, I.loc, I.cell, I.free, I.freeC, I.pin, I.hok, I.len⟩
theorem bare_setGen {s : Shared} {g : Nat} {x : GenState} (h : AllBare s.gens) (hx : x.bare = true) : AllBare (s.setGen g x).gens := by
  intro y hy
  show y.bare = true
  have hy : y ∈ s.gens.setIfInBounds g x := hy
  rcases Array.mem_or_eq_of_mem_setIfInBounds hy with h1 | h1
  · exact h y h1
  · rw [h1]; exact hx

section
variable {Y : Cx} {C : Con α} {tg elt iter : Expr} {ifs : List Expr} {scope : Scope} {pos : Pos} {J : It} {fpI : List Addr} {it : Addr} {tn : Nat → Heap → Prop} {g : TG} {tt : TT} {te : TE}
  {Out : α → V → Hp → (α → Hp → Prop) → Prop} {Fin : α → Hp → Prop} {W : α → Nat → Nat → Hp → Prop} {A : Around}
/-- the loop of a generator expression -/
theorem seg_loop (CO : ConOk C) (hcalm : Y.calm = true) (T : Turn Y.prog Y.w Y.K tg J fpI it tn) (hg : PG Y tg g) (ht : PTs Y ifs tt) (he : PE Y elt te) (hA : A.deeper Y.env = Y.A)
    (hex : ∀ b ∈ fpI, b ∈ Y.ex) (hdis : ∀ b ∈ C.fp, b ∉ fpI) (hpn : ∀ p ∈ Y.pn, p.1 ∉ fpI) (hxe : Y.xe = fun _ _ => False) (hco : Y.env.scope.isCoroutine = false) (turn : TurnOf J Y.N.length g tt te Out Fin W) :
    ∀ (m : Nat) (a : α) (i n : Nat) (H : Hp) (s₀ s : Shared), m < n → W a i m H → GI Y C fpI tn a i H s → (∀ b ∈ C.fp, ∀ o, s₀.heap.get? b = some o → s.heap.get? b = some o) →
      Seg (model Y.prog Y.w) A (GRr Y C Fin) (GP Y C fpI tn Out) n s₀ (.compLoop (.GeneratorExp elt [⟨tg, iter, ifs, 0⟩] scope pos) 0 (.ref it) .none Y.env)
        ((model Y.prog Y.w).den (.compLoop (.GeneratorExp elt [⟨tg, iter, ifs, 0⟩] scope pos) 0 (.ref it) .none Y.env)) [] s := by
  have ov : A.over (.compLoop (.GeneratorExp elt [⟨tg, iter, ifs, 0⟩] scope pos) 0 (.ref it) .none Y.env) [] = Y.A := over_loopG.trans hA
  have stat : ∀ {pins : List (Addr × Obj)} {σ' : L2.St} {H' : Hp} {s' : Shared}, Inv Y pins σ' H' s' → (∀ p ∈ pins, p.1 ∉ fpI) → (∀ b ∈ fpI, H' b = none) → ∀ b ∈ fpI, FpOk Y pins H' b := fun {pins σ' H' s'} I' hp hn b hb =>
    ⟨hn b hb, (I'.ok.exf b (hex b hb)).1, I'.ok.exfs b (hex b hb), .inl (hex b hb), fun x c e => (I'.ok.exf b (hex b hb)).2 x c e, fun p hp' z => (List.mem_append.mp hp').elim (fun q => hpn p q (z ▸ hb)) fun q => hp p q (z ▸ hb)⟩
  have pinN : ∀ h : Heap, ∀ p ∈ pinsAt C.fp h, p.1 ∉ fpI := fun h p hp => hdis p.1 (of_pinsAt hp).1
  intro m
  induction m using Nat.strongRecOn with
  | ind m ih =>
    intro a i n H s₀ s hmn hw hGI since
    obtain ⟨I, hat, st, hn0⟩ := hGI
    show Seg _ A _ _ n s₀ _ ((compTurn (.GeneratorExp elt [⟨tg, iter, ifs, 0⟩] scope pos) 0 (.ref it) .none Y.env).onRaise (leaving Y.env)) [] s
    rw [compTurn_gen, Sem.onRaise_eq_wrap]
    refine seg_bind_wrap (wpAny_standAt ?_)
    have sf := stat I (pinN s.heap) hn0
    rcases turn a i m H hw with ⟨stop, fin⟩ | ⟨go, Nx, hNx, step⟩
    · refine seg_bind_wrap ?_
      rw [ov]
      refine thnF (T.done Y rfl rfl rfl hcalm i _ s _ H (fun _ _ => False) I sf st stop) fun r s1 ⟨hr, I1⟩ => ?_
      subst hr
      have hk : ∀ b ∈ C.fp, ∀ o, s.heap.get? b = some o → s1.heap.get? b = some o := fun b hb o e => (I1.pin (b, o) (List.mem_append_right _ (mem_pinsAt hb e))).1
      refine seg_end (.ok .next) ⟨rfl, a, H, I1.pins_of fun p hp => ?_, CO.keep _ _ _ hat hk, fun b hb o e => hk b hb o (since b hb o e), fin⟩
      obtain ⟨hb, e⟩ := of_pinsAt hp
      obtain ⟨o, e2, _⟩ := CO.obj _ _ hat p.1 hb
      have e3 := hk p.1 hb o e2
      rw [e] at e3
      cases e3
      exact I1.pin (p.1, p.2) (List.mem_append_right _ (mem_pinsAt hb e2))
    · refine seg_bind_wrap ?_
      rw [ov]
      refine thnF (T.item Y rfl rfl rfl hcalm i _ s _ H (fun _ _ => False) I sf st go) fun r s1 ⟨u, hr, h1⟩ => ?_
      subst hr
      refine seg_bind_wrap ?_
      rw [ov]
      refine thnF h1 fun _ s2 ⟨x, H2, I2, r2, y2, st2, n2⟩ => ?_
      have I2' := I2.pinned (stat I2 (pinN s.heap) n2) (T.obj _ _ st2)
      refine seg_bind_wrap ?_
      rw [ov]
      have xf : ∀ {β : Type} {t : Sem β} {P P' : β → Shared → Prop} {E' : Value → Shared → Prop} {z : Shared}, wpAny (model Y.prog Y.w) Y.A t P Y.xe z → (∀ a s, P a s → P' a s) → wpAny (model Y.prog Y.w) Y.A t P' E' z := fun {β t P P' E' z} q hq => by
        rw [hxe] at q
        exact thnF q hq
      refine xf (hg.run _ s2 _ H2 x u _ I2' r2 (step x H2 y2)) fun _ s3 ⟨σ3, H3, I3, q3⟩ => ?_
      refine seg_bind_wrap ?_
      rw [ov]
      refine xf (ht.run _ s3 σ3 H3 _ I3 q3) fun ok s4 ⟨H4, I4, q4⟩ => ?_
      -- what stands at a turn's end
      have fin : ∀ {s' : Shared} {H' : Hp} {σ' : L2.St}, Inv Y (pinsAt C.fp s.heap ++ pinsAt fpI s2.heap) σ' H' s' →
          GI Y C fpI tn a (i + 1) H' s' ∧ ∀ b ∈ C.fp, ∀ o, s₀.heap.get? b = some o → s'.heap.get? b = some o := fun {s' H' σ'} I' => by
        have hk : ∀ b ∈ C.fp, ∀ o, s.heap.get? b = some o → s'.heap.get? b = some o := fun b hb o e => (I'.pin (b, o) (List.mem_append_right _ (List.mem_append_left _ (mem_pinsAt hb e)))).1
        have pin' : ∀ b ∈ fpI, ∀ o, s2.heap.get? b = some o → s'.heap.get? b = some o ∧ H' b = none := fun b hb o e =>
          let z := I'.pin (b, o) (List.mem_append_right _ (List.mem_append_right _ (mem_pinsAt hb e)))
          ⟨z.1, z.2.1⟩
        have I1 : Inv Y (pinsAt C.fp s'.heap) σ' H' s' := I'.pins_of fun p hp => by
          obtain ⟨hb, e⟩ := of_pinsAt hp
          obtain ⟨o, e2, _⟩ := CO.obj _ _ hat p.1 hb
          have e3 := hk p.1 hb o e2
          rw [e] at e3
          cases e3
          exact I'.pin (p.1, p.2) (List.mem_append_right _ (List.mem_append_left _ (mem_pinsAt hb e2)))
        refine ⟨⟨I1.weak (by rw [I1.len, List.length_replicate]) fun j v e => (nones_some e).elim, CO.keep _ _ _ hat hk, T.keep _ _ _ st2 fun b hb o e => (pin' b hb o e).1, fun b hb => ?_⟩, fun b hb o e => hk b hb o (since b hb o e)⟩
        obtain ⟨o, e, _⟩ := T.obj _ _ st2 b hb
        exact (pin' b hb o e).2
      cases ok with
      | false =>
        simp only [Bool.false_eq_true, if_false] at q4 ⊢
        obtain ⟨f1, f2⟩ := fin I4
        obtain ⟨m', hm', w'⟩ := hNx a H4 q4
        exact seg_again rfl (ih m' hm' a (i + 1) n H4 s₀ s4 (by omega) w' f1 f2)
      | true =>
        simp only [if_true] at q4 ⊢
        obtain ⟨n', rfl⟩ : ∃ n', n = n' + 1 := ⟨n - 1, by omega⟩
        have hy : ∀ v, yieldOut Y.env v = yieldValue v := fun v => by simp only [yieldOut, hco, Bool.false_eq_true, if_false]
        simp only [hy]
        rw [Sem.bind_eq_wrap', Sem.bind_eq_wrap', Sem.wrap_wrap, Sem.wrap_wrap]
        refine seg_wrap ?_
        rw [ov]
        refine xf (he.run _ s4 σ3 H4 _ I4 q4) fun y s5 ⟨yv, H5, I5, r5, o5⟩ => ?_
        obtain ⟨f1, f2⟩ := fin I5
        refine seg_at (seg_yield rfl rfl rfl ⟨a, i + 1, H5, yv, Nx, r5, f1, o5, f2, fun a' s'' hGI' hN' => ?_⟩)
        obtain ⟨m', hm', w'⟩ := hNx a' H5 hN'
        exact seg_again rfl (ih m' hm' a' (i + 1) n' H5 s'' s'' (by omega) w' hGI' fun _ _ _ e => e)

/-- .. and its start -/
theorem seg_start (CO : ConOk C) (hcalm : Y.calm = true) (T : Turn Y.prog Y.w Y.K tg J fpI it tn) (hg : PG Y tg g) (ht : PTs Y ifs tt) (he : PE Y elt te) (hA : A.deeper Y.env = Y.A)
    (hex : ∀ b ∈ fpI, b ∈ Y.ex) (hdis : ∀ b ∈ C.fp, b ∉ fpI) (hpn : ∀ p ∈ Y.pn, p.1 ∉ fpI) (hxe : Y.xe = fun _ _ => False) (hco : Y.env.scope.isCoroutine = false) (turn : TurnOf J Y.N.length g tt te Out Fin W)
    (m : Nat) (a : α) (n : Nat) (H : Hp) (s : Shared) (hm : m < n) (hw : W a 0 m H) (hGI : GI Y C fpI tn a 0 H s) :
      Seg (model Y.prog Y.w) A (GRr Y C Fin) (GP Y C fpI tn Out) n s (.compStart (.GeneratorExp elt [⟨tg, iter, ifs, 0⟩] scope pos) 0 (.ref it) .none Y.env)
        ((model Y.prog Y.w).den (.compStart (.GeneratorExp elt [⟨tg, iter, ifs, 0⟩] scope pos) 0 (.ref it) .none Y.env)) [] s := by
  have loop := seg_loop (iter := iter) (scope := scope) (pos := pos) CO hcalm T hg ht he hA hex hdis hpn hxe hco turn m a 0 n H s s hm hw hGI fun _ _ _ e => e
  show Seg _ A _ _ _ s _ ((compStart (.GeneratorExp elt [⟨tg, iter, ifs, 0⟩] scope pos) 0 (.ref it) .none Y.env).onRaise (leaving Y.env)) [] s
  unfold compStart
  rw [Sem.onRaise_eq_wrap]
  show Seg _ A _ _ _ s _ ((ask >>= _).wrap _ _ _ _) [] s
  refine seg_bind_wrap (wpAny_askSetting ?_)
  split
  · exact seg_again rfl loop
  · first
      | exact seg_bind_wrap (wpAny_rule (seg_bind_wrap (wpAny_standAt (seg_bind_wrap (T.self _ 0 s _ _ hGI.2.2.1 (seg_again rfl loop))))))
      | (refine seg_bind_wrap (wpAny_rule ?_); show Seg _ A _ _ _ s _ ((standAt iter.pos >>= _).wrap _ _ _ _) [] s; exact seg_bind_wrap (wpAny_standAt (seg_bind_wrap (T.self _ 0 s _ _ hGI.2.2.1 (seg_again rfl loop)))))

theorem repin {a : α} {h : Heap} {σ : L2.St} {H : Hp} {s' : Shared} (CO : ConOk C) (hat : C.at_ a h) (I : Inv Y (pinsAt C.fp h) σ H s') (hk : ∀ b ∈ C.fp, ∀ o, h.get? b = some o → s'.heap.get? b = some o) :
    Inv Y (pinsAt C.fp s'.heap) σ H s' := I.pins_of fun p hp => by
  obtain ⟨hb, e⟩ := of_pinsAt hp
  obtain ⟨o, e2, _⟩ := CO.obj _ _ hat p.1 hb
  have e3 := hk p.1 hb o e2
  rw [e] at e3
  cases e3
  exact I.pin (p.1, p.2) (List.mem_append_right _ (mem_pinsAt hb e2))

/-- one item of such a generator -/
theorem next_ge {A : Around} {ga : Addr} {go : Obj} {g i n : Nat} {gs : GenState} {a : α} {H : Hp} {Nx : α → Hp → Prop} {s : Shared} {Q : Option Value → Shared → Prop} {E : Value → Shared → Prop}
    (CO : ConOk C) (hh : A.handled = none) (hd : A.depth < recursionLimit) (hpn : (ga, go) ∈ Y.pn) (hgo : ∀ h : Heap, h.get? ga = some go → h.IsGen ga g) (hgs : s.gens[g]? = some gs)
    (gi : GI Y C fpI tn a i H s) (hN : Nx a H)
    (goes : ∀ a' s'', GI Y C fpI tn a' i H s'' → Nx a' H → gs.Goes (model Y.prog Y.w) A.in1 (GRr Y C Fin) (GP Y C fpI tn Out) n (.send .none) s'')
    (hsome : ∀ i1 H1 y v Nx1 s1 gs1, RelV y v → GI Y C fpI tn a i1 H1 s1 → Out a y H1 Nx1 → s1.gens[g]? = some gs1 →
      GoOn (model Y.prog Y.w) A.in1 (GRr Y C Fin) (GP Y C fpI tn Out) (fun a' s'' => GI Y C fpI tn a' i1 H1 s'') (fun a' => Nx1 a' H1) gs1 n → Q (some v) s1)
    (hnone : ∀ H1 s1, Inv Y (pinsAt C.fp s1.heap) (nones Y.N.length) H1 s1 → C.at_ a s1.heap → Fin a H1 → Q none s1) :
    wpAny (model Y.prog Y.w) A (pyNext (.ref ga)) Q E s := by
  obtain ⟨I, hat, st, hn0⟩ := id gi
  have hlt : g < s.gens.size := by
    rcases Nat.lt_or_ge g s.gens.size with h' | h'
    · exact h'
    · rw [Array.getElem?_eq_none h'] at hgs; cases hgs
  refine wpAny_gsz (n := g + 1) hlt ?_
  have gi' : GI Y C fpI tn a i H (s.setGen g .running) := ⟨Inv.gensG I (bare_setGen I.bare rfl), hat, st, hn0⟩
  have hig : s.heap.IsGen ga g := hgo _ (I.pin (ga, go) (List.mem_append_left _ hpn)).1
  refine wpAny_pyNext_genexpQ (P := GF Y C Fin) (Y := GP Y C fpI tn Out) hh I.nolimit hd hig hgs (goes a _ gi' hN) (fun v s1 gs1 hb hv => ?_) (fun s1 hp h' hk => ?_)
  · obtain ⟨a1, i1, H1, y, Nx1, rv, gi1, o1, since, kap⟩ := hv
    have hat1 : C.at_ a s1.heap := CO.keep _ _ _ hat since
    have ea : a1 = a := CO.inj _ _ _ gi1.2.1 hat1
    subst ea
    intro hsz
    have hlt1 : g < s1.gens.size := by
      rw [setGen_size] at hsz
      exact hsz
    have gi2 : GI Y C fpI tn a1 i1 H1 (s1.setGen g gs1) := ⟨Inv.gensG gi1.1 (bare_setGen gi1.1.bare hb), gi1.2.1, gi1.2.2.1, gi1.2.2.2⟩
    refine hsome i1 H1 y v Nx1 _ gs1 rv gi2 o1 (by simp [Shared.setGen, hlt1]) ?_
    cases n with
    | zero => exact fun a' s'' q1 q2 => kap a' s'' q1 q2
    | succ n1 => exact fun a' s'' q1 q2 => kap a' s'' q1 q2
  · obtain ⟨a1, H1, I1, hat1, since, fin⟩ := hp
    have ea : a1 = a := CO.inj _ _ _ hat1 (CO.keep _ _ _ hat since)
    subst ea
    intro _
    have I2 : Inv Y (pinsAt C.fp s1.heap) (nones Y.N.length) H1 { s1.setGen g .finished with heap := h' } := (Inv.gensG I1 (bare_setGen (x := .finished) (g := g) I1.bare rfl)).kept (t' := s1.toks) hk
    exact hnone H1 _ (repin CO hat1 I2 fun b _ o e => hk b o e) (CO.keep _ _ _ hat1 fun b _ o e => hk b o e) fin
end
end

section
variable {Y : Cx} {fpI : List Addr} {tn : Nat → Heap → Prop}
def outAll (QB : Bool → Hp → Prop) : Unit → V → Hp → (Unit → Hp → Prop) → Prop := fun _ y H Nx => ∃ c, y = .bl c ∧ if c = true then Nx () H else QB false H
def outAny (QB : Bool → Hp → Prop) : Unit → V → Hp → (Unit → Hp → Prop) → Prop := fun _ y H Nx => ∃ c, y = .bl c ∧ if c = true then QB true H else Nx () H
theorem all_loop {A : Around} {ga : Addr} {go : Obj} {g : Nat} {QB : Bool → Hp → Prop} {R : Result → Shared → Prop} (hh : A.handled = none) (hd : A.depth < recursionLimit) (hpn : (ga, go) ∈ Y.pn) (hgo : ∀ h : Heap, h.get? ga = some go → h.IsGen ga g)
    (hR : ∀ b s' H', Inv Y [] (nones Y.N.length) H' s' → QB b H' → R (.ok (.ret (.bool b))) s') :
    ∀ (n i : Nat) (H : Hp) (Nx : Unit → Hp → Prop) (s : Shared) (gs : GenState), s.gens[g]? = some gs → GI Y conU fpI tn () i H s → Nx () H →
      (∀ a' s'', GI Y conU fpI tn a' i H s'' → Nx a' H → gs.Goes (model Y.prog Y.w) A.in1.in1 (GRr Y conU fun _ H => QB true H) (GP Y conU fpI tn (outAll QB)) n (.send .none) s'') →
      codeAny (model Y.prog Y.w) A (.builtin "all.loop" ⟨[.ref ga], []⟩) R s := by
  intro n
  induction n with
  | zero =>
    intro i H Nx s gs hgs gi hN goes
    refine codeAny_builtin F.entry_all_loop ?_
    rw [Around.under_plainId F.plain_all_loop _]
    show wpAny _ A.in1 (pyNext (.ref ga) >>= _) _ _ s
    refine wpAny_bind (next_ge (A := A.in1) conU_ok hh hd hpn hgo hgs gi hN goes (fun i1 H1 y v Nx1 s1 gs1 rv gi1 o1 hg1 go1 => ?_) (fun H1 s1 I1 _ fin => ?_))
    · obtain ⟨c, rfl, hc⟩ := o1
      cases (show v = Value.bool c from rv)
      refine wpAny_bind (wpAny_holding (wpAny_truthy_bool ?_))
      refine wpAny_bind (wpAny_letGo ?_)
      cases c with
      | true => exact (go1 () s1 gi1 hc).elim
      | false =>
        simp only [Bool.false_eq_true, if_false]
        exact wpAny_bind (wpAny_rule (wpAny_pure (hR false s1 H1 gi1.1 hc)))
    · exact wpAny_bind (wpAny_rule (wpAny_pure (hR true s1 H1 I1 fin)))
  | succ n ih =>
    intro i H Nx s gs hgs gi hN goes
    refine codeAny_builtin F.entry_all_loop ?_
    rw [Around.under_plainId F.plain_all_loop _]
    show wpAny _ A.in1 (pyNext (.ref ga) >>= _) _ _ s
    refine wpAny_bind (next_ge (A := A.in1) conU_ok hh hd hpn hgo hgs gi hN goes (fun i1 H1 y v Nx1 s1 gs1 rv gi1 o1 hg1 go1 => ?_) (fun H1 s1 I1 _ fin => ?_))
    · obtain ⟨c, rfl, hc⟩ := o1
      cases (show v = Value.bool c from rv)
      refine wpAny_bind (wpAny_holding (wpAny_truthy_bool ?_))
      refine wpAny_bind (wpAny_letGo ?_)
      cases c with
      | true =>
        simp only [if_true]
        exact wpAny_pure ⟨plainId_quiet F.plain_all_loop _, ih i1 H1 Nx1 s1 gs1 hg1 gi1 hc go1⟩
      | false =>
        simp only [Bool.false_eq_true, if_false]
        exact wpAny_bind (wpAny_rule (wpAny_pure (hR false s1 H1 gi1.1 hc)))
    · exact wpAny_bind (wpAny_rule (wpAny_pure (hR true s1 H1 I1 fin)))
theorem any_loop {A : Around} {ga : Addr} {go : Obj} {g : Nat} {QB : Bool → Hp → Prop} {R : Result → Shared → Prop} (hh : A.handled = none) (hd : A.depth < recursionLimit) (hpn : (ga, go) ∈ Y.pn) (hgo : ∀ h : Heap, h.get? ga = some go → h.IsGen ga g)
    (hR : ∀ b s' H', Inv Y [] (nones Y.N.length) H' s' → QB b H' → R (.ok (.ret (.bool b))) s') :
    ∀ (n i : Nat) (H : Hp) (Nx : Unit → Hp → Prop) (s : Shared) (gs : GenState), s.gens[g]? = some gs → GI Y conU fpI tn () i H s → Nx () H →
      (∀ a' s'', GI Y conU fpI tn a' i H s'' → Nx a' H → gs.Goes (model Y.prog Y.w) A.in1.in1 (GRr Y conU fun _ H => QB false H) (GP Y conU fpI tn (outAny QB)) n (.send .none) s'') →
      codeAny (model Y.prog Y.w) A (.builtin "any.loop" ⟨[.ref ga], []⟩) R s := by
  intro n
  induction n with
  | zero =>
    intro i H Nx s gs hgs gi hN goes
    refine codeAny_builtin F.entry_any_loop ?_
    rw [Around.under_plainId F.plain_any_loop _]
    show wpAny _ A.in1 (pyNext (.ref ga) >>= _) _ _ s
    refine wpAny_bind (next_ge (A := A.in1) conU_ok hh hd hpn hgo hgs gi hN goes (fun i1 H1 y v Nx1 s1 gs1 rv gi1 o1 hg1 go1 => ?_) (fun H1 s1 I1 _ fin => ?_))
    · obtain ⟨c, rfl, hc⟩ := o1
      cases (show v = Value.bool c from rv)
      refine wpAny_bind (wpAny_holding (wpAny_truthy_bool ?_))
      refine wpAny_bind (wpAny_letGo ?_)
      cases c with
      | false => exact (go1 () s1 gi1 hc).elim
      | true =>
        simp only [if_true]
        exact wpAny_bind (wpAny_rule (wpAny_pure (hR true s1 H1 gi1.1 hc)))
    · exact wpAny_bind (wpAny_rule (wpAny_pure (hR false s1 H1 I1 fin)))
  | succ n ih =>
    intro i H Nx s gs hgs gi hN goes
    refine codeAny_builtin F.entry_any_loop ?_
    rw [Around.under_plainId F.plain_any_loop _]
    show wpAny _ A.in1 (pyNext (.ref ga) >>= _) _ _ s
    refine wpAny_bind (next_ge (A := A.in1) conU_ok hh hd hpn hgo hgs gi hN goes (fun i1 H1 y v Nx1 s1 gs1 rv gi1 o1 hg1 go1 => ?_) (fun H1 s1 I1 _ fin => ?_))
    · obtain ⟨c, rfl, hc⟩ := o1
      cases (show v = Value.bool c from rv)
      refine wpAny_bind (wpAny_holding (wpAny_truthy_bool ?_))
      refine wpAny_bind (wpAny_letGo ?_)
      cases c with
      | false =>
        simp only [Bool.false_eq_true, if_false]
        exact wpAny_pure ⟨plainId_quiet F.plain_any_loop _, ih i1 H1 Nx1 s1 gs1 hg1 gi1 hc go1⟩
      | true =>
        simp only [if_true]
        exact wpAny_bind (wpAny_rule (wpAny_pure (hR true s1 H1 gi1.1 hc)))
    · exact wpAny_bind (wpAny_rule (wpAny_pure (hR false s1 H1 I1 fin)))
end

/-! ### a generator expression is made -/
abbrev ce (X : Cx) (scope : Scope) (C : Addr) (code : Value) : Env := genEnv scope [] C code builtinsNs X.env
abbrev gx (X : Cx) (A : Around) (N : List Str) (s : Shared) (H : Hp) (cenv : Env) (fp : List Addr) (pn : List (Addr × Obj)) : Cx :=
  { X with A := A.deeper cenv, N := N, s_0 := s, H_0 := H, env := cenv, outer := X.stack, stack := cenv :: X.stack, ex := fp, fn := fun _ => false, calm := true, pn := pn, xe := fun _ _ => False }
structure GSc (scope : Scope) : Prop where
  kind : scope.kind = .function
  co : scope.isCoroutine = false
  own : ∀ y ∈ scope.names, y.2 ≠ .cell ∧ y.2 ≠ .free
  dot : scope.names.lookup (".0" : Str) = some NameKind.local
theorem cloFrom_nil {cells : List (Str × Addr)} : ∀ {names : List (Str × NameKind)} {acc : List (Str × Addr)}, (∀ y ∈ names, y.2 ≠ .free) → cloFrom cells names acc = acc
  | [], _, _ => rfl
  | (n, k) :: r, acc, h => by
    unfold cloFrom
    rw [if_neg (by simpa using h (n, k) List.mem_cons_self)]
    exact cloFrom_nil fun y hy => h y (List.mem_cons_of_mem _ hy)
theorem GSc.nocell {scope : Scope} (S : GSc scope) {x : Str} (h : scope.names.lookup x = some .cell ∨ scope.names.lookup x = some .free) : False := by
  rcases h with h | h
  · exact (S.own _ (PySem.mem_of_lookup h)).1 rfl
  · exact (S.own _ (PySem.mem_of_lookup h)).2 rfl
section
variable {X : Cx} {pins : List (Addr × Obj)} {σ : L2.St} {H : Hp} {s : Shared}
theorem ge_start {A : Around} {N : List Str} {scope : Scope} {code : Value} {fp : List Addr} {go : Obj} {G : Array GenState} {tk : Nat} {h5 : Heap} {m0 : Str → Option Value} (I : Inv X pins σ H s) (S : GSc scope) (hA : A.handled = none) (hf : A.frames = some X.stack)
    (hfp : ∀ b ∈ fp, FpOk X pins H b ∧ b < s.heap.objs.size) (hG : AllBare G) (hns : h5.Ns s.heap.objs.size m0) (hk : ∀ b o, s.heap.get? b = some o → h5.get? b = some o) (hgo : h5.get? (s.heap.objs.size + 1) = some go) (hgd : ∀ v, go.data ≠ .cell v) :
    Inv (gx X A N s H (ce X scope s.heap.objs.size code) fp [(s.heap.objs.size + 1, go)]) [] (nones N.length) H { s with gens := G, toks := tk, heap := h5 } := by
  have noc : ∀ x c, (ce X scope s.heap.objs.size code).cells.lookup x = some c → False := fun x c e => by simp [genEnv] at e
  have stkne : ∀ b, s.heap.objs.size ≤ b → b ∉ frs X.stack := fun b hb z => by
    rcases List.mem_cons.mp (I.stkSub b z) with e | e
    · exact absurd (Nat.lt_of_lt_of_le I.lt (by rw [← e]; exact hb)) (Nat.lt_irrefl _)
    · exact I.nofs hb e
  refine ⟨⟨I.ok.mod, S.kind, I.ok.glob, rfl, Nat.le_refl _, fun x y c h1 _ => (noc x c h1).elim, fun x hx => (S.nocell hx).elim, fun x c h _ => (by cases h), fun _ => hA, Around.frames_deeper hf, .inr ⟨rfl, rfl⟩, fun b hb => ⟨Nat.ne_of_lt (hfp b hb).2, fun x c e => (noc x c e).elim⟩,
    I.bs, Nat.le_trans I.ok.bsz I.sz, fun b o e hb => ?_, fun b hb z => ?_, I.stack, I.stkFree⟩, rfl, hG, Un.kept hk, ⟨m0, hns, fun i x v _ h2 _ => (nones_some h2).elim⟩, fun x c e => (noc x c e).elim, I.hok.fresh (Nat.le_refl _), fun x c e => (noc x c e).elim, fun p hp => ?_, I.hok.kept hk, List.length_replicate⟩
  · rcases (hfp b hb).1.2.2.2.1 with z | z
    · exact I.ok.noex b o e z
    · exact absurd (Nat.lt_of_lt_of_le (Heap.lt_size e) (Nat.le_trans I.ok.bsz z)) (Nat.lt_irrefl _)
  · rcases List.mem_cons.mp (I.stkSub b z) with e | e
    · exact (hfp b hb).1.2.1 e
    · exact (hfp b hb).1.2.2.1 e
  · have hp' : p ∈ [(s.heap.objs.size + 1, go)] := by simpa using hp
    rw [List.mem_singleton.mp hp']
    exact ⟨hgo, I.hok.fresh (Nat.le_succ _), Nat.succ_ne_self _, stkne _ (Nat.le_succ _), hgd⟩
/-- back in the def that asked -/
theorem ge_back {A : Around} {N : List Str} {cenv : Env} {fp : List Addr} {pn pins' : List (Addr × Obj)} {σ' : L2.St} {H' : Hp} {s' : Shared} (I : Inv X pins σ H s) (hfp : ∀ b ∈ fp, FpOk X pins H b ∧ b < s.heap.objs.size)
    (J : Inv (gx X A N s H cenv fp pn) pins' σ' H' s') : Inv X pins σ H' s' :=
  I.call' (ch := fp) J.os J.base J.hok J.bare fun b hb => ⟨(hfp b hb).1.2.2.2.1, (hfp b hb).1.2.1, (hfp b hb).1.2.2.2.2.1, (hfp b hb).1.2.2.2.2.2⟩
theorem room3 {k : Nat} {A : Around} (r : Room (k + 1) A) (env : Env) : Room k (A.in1.in1.deeper env) :=
  ⟨r.hd, by have := r.dp; show A.depth + 1 + 3 * k + 5 < _; omega, by have := r.un; show A.units + 1 + 1 + 3 + 16 * k + 200 < _; omega⟩

theorem gen_make {c P : Addr} {elt tg iter : Expr} {ifs : List Expr} {gpos : Pos} {scope : Scope} {wi : TI} {k : Nat} {Q' : Value → Shared → Prop} {R : It → Hp → Prop}
    (hr : Room k X.A) (TB : GxR.TabB X.base X.mg c P) (hcode : X.env.code = .ref c) (S : GSc scope) (hi : PI X tg iter wi) (hs : ∀ v, genFold iter X.env v = pure v) (I : Inv X pins σ H s) (h : wi σ H fun J H1 => GxR.TabG H1 P ∧ R J H1)
    (hQ : ∀ J H1 H2 s4 s5 code fp it tn go g, R J H1 → GxR.Tabbed P H1 H2 → Inv X pins σ H2 s4 → (∀ b ∈ fp, FpOk X pins H2 b ∧ b < s4.heap.objs.size) → Turn X.prog X.w X.K tg J fp it tn → tn 0 s5.heap →
      (∀ A N, A.handled = none → A.frames = some X.stack → Inv (gx X A N s4 H2 (ce X scope s4.heap.objs.size code) fp [(s4.heap.objs.size + 1, go)]) [] (nones N.length) H2 s5) →
      (∀ h : Heap, h.get? (s4.heap.objs.size + 1) = some go → h.IsGen (s4.heap.objs.size + 1) g) →
      s5.gens[g]? = some (.fresh (.compStart (.GeneratorExp elt [⟨tg, iter, ifs, 0⟩] scope gpos) 0 (.ref it) .none (ce X scope s4.heap.objs.size code))) → Q' (.ref (s4.heap.objs.size + 1)) s5) :
    wpAny (model X.prog X.w) X.A (eval (.GeneratorExp elt [⟨tg, iter, ifs, 0⟩] scope gpos) X.env) Q' X.xe s := by
  have hcl : closureFor scope X.env = pure [] := by
    rw [closure_ok fun y hy e => absurd e (S.own y hy).2, cloFrom_nil fun y hy => (S.own y hy).2]
  refine wpAny_GeneratorExp_make S.co hcl (fun y hy => (S.own y hy).1) S.dot S.kind (by have := hr.dp; omega) (thn (hi.run pins s σ H _ I h) fun xv s1 hx => thn hx fun itv s2 h2 => ?_) hs
  obtain ⟨it, fp, tn, J, H1, e, I2, T, st2, f2, ⟨ps, hP, ht⟩, q1⟩ := h2
  subst e
  have hPs : s2.heap.get? P = some { cls := .none, data := .fields ps } := I2.hok P _ hP
  have cd : PySem.W.CodeHd s2.heap c P := TB.code.keeps fun b u e => I2.bk b u e
  have nfp : ∀ b ∈ fp, b ≠ P := fun b hb z => by
    have := (f2 b hb).1
    rw [z, hP] at this
    cases this
  have szf : ∀ b ∈ fp, b < s2.heap.objs.size := fun b hb => by
    obtain ⟨o, e, _⟩ := T.obj _ _ st2 b hb
    exact Heap.lt_size e
  have cont : ∀ (code : Value) (h3 : Heap) (tk : Nat) (ps' : Array Value), Heap.ExtBut P s2.heap h3 → s2.heap.objs.size ≤ h3.objs.size → h3.get? P = some { cls := .none, data := .fields ps' } → (∃ more, ps' = ps ++ more) → TriplesOk ps'.toList →
      wpAny (model X.prog X.w) X.A (builtinsFor X.env.globals X.env.builtins) (fun bi s4 =>
        ∀ h', h'.Ns s4.heap.objs.size (fun y => if y = ".0" then some (.ref it) else none) → Heap.SameBut s4.heap.objs.size (s4.heap.push { cls := .type "frame", data := .dict #[] }) h' →
          Q' (.ref h'.objs.size) { s4 with
            gens := s4.gens.push (.fresh (.compStart (.GeneratorExp elt [⟨tg, iter, ifs, 0⟩] scope gpos) 0 (.ref it) .none (genEnv scope [] s4.heap.objs.size code bi X.env))),
            toks := s4.toks + 1 + 1 + 1,
            heap := h'.push { cls := .type "generator", data := .fields #[.int s4.gens.size 0, .str "<genexpr>" (s4.toks + 1), .str (X.env.qual ++ "<genexpr>") (s4.toks + 1 + 1)] } }) X.xe { s2 with heap := h3, toks := tk } := by
    intro code h3 tk ps' hx hsz hP3 hmore ht3
    obtain ⟨bm, ob, e1, e2, e3, e4, e5, e6, e7, e8⟩ := TB.bm
    obtain ⟨more, rfl⟩ := hmore
    have I3 : Inv X pins σ (upd H1 P (.tbl (ps ++ more))) { s2 with heap := h3, toks := tk } := GxR.inv_tab (more := more) (g' := s2.gens) (d' := s2.drawn) I2 hP (fun b u hb e => hx b u hb e) hP3 I2.bare
    have tab : GxR.Tabbed P H1 (upd H1 P (.tbl (ps ++ more))) := ⟨⟨_, upd_same, ht3⟩, fun b hb => upd_ne hb⟩
    have st3 : tn 0 h3 := T.keep _ _ _ st2 fun b hb o e => hx b o (nfp b hb) e
    have f3 : ∀ b ∈ fp, FpOk X pins (upd H1 P (.tbl (ps ++ more))) b ∧ b < h3.objs.size := fun b hb =>
      ⟨⟨by rw [upd_ne (nfp b hb)]; exact (f2 b hb).1, (f2 b hb).2⟩, Nat.lt_of_lt_of_le (szf b hb) hsz⟩
    refine wpAny_builtinsFor (m := X.mg) (by rw [I3.ok.glob]; exact I3.mod.glob.keeps I3.bk) e1 e2 (I3.bk _ _ e5) e6 e7 e8 ?_
    intro h' hns hsb
    have hsz' : h'.objs.size = h3.objs.size + 1 := by rw [hsb.1, Heap.size_push]
    have keep' : ∀ b o, h3.get? b = some o → h'.get? b = some o := fun b o e => hsb.extBut b o (Nat.ne_of_lt (Heap.lt_size e)) (Heap.get?_push_of_some _ e)
    have main : ∀ (go : Obj), go.cls = .type "generator" → (∃ nm qn, go.data = .fields #[.int s2.gens.size 0, nm, qn]) → go.slots = #[] → (∀ h : Heap, (h.push go).get? h.objs.size = some go) → ∀ t',
        Q' (.ref h'.objs.size) { s2 with heap := h'.push go, toks := t', gens := s2.gens.push (.fresh (.compStart (.GeneratorExp elt [⟨tg, iter, ifs, 0⟩] scope gpos) 0 (.ref it) .none (genEnv scope [] h3.objs.size code builtinsNs X.env))) } := by
      intro go gc ⟨nm, qn, gd⟩ gsl gp t'
      have hgp := gp h'
      rw [hsz'] at hgp ⊢
      have keep5 : ∀ b o, h3.get? b = some o → (h'.push go).get? b = some o := fun b o e => Heap.get?_push_of_some _ (keep' b o e)
      refine hQ J H1 (upd H1 P (.tbl (ps ++ more))) { s2 with heap := h3, toks := tk } _ code fp it tn go s2.gens.size q1 tab I3 f3 T (T.keep _ _ _ st3 fun b _ o e => keep5 b o e) (fun A N hA hf => ?_) (fun h e => ⟨go, nm, qn, e, gc, gd, gsl⟩) (Array.getElem?_push_size ..)
      exact ge_start (s := { s2 with heap := h3, toks := tk }) I3 S hA hf f3 (I2.bare.push rfl) (hns.push _) keep5 hgp (fun v z => by rw [gd] at z; cases z)
    exact main _ rfl ⟨_, _, rfl⟩ rfl (fun h => Heap.get?_push_size _ rfl) _
  refine ⟨I2.nolimit, ?_⟩
  cases hf : codeAmong gpos ps.toList with
  | none =>
    refine wpAny_genexprCodeX hcode (cd.code hPs ht) (cd.tab hPs) hf fun c' h' tk hx hge hlt hco' _ htab' _ => ?_
    obtain ⟨o1, vs, f1, tf, fl, tg', inF, tx, tt, op, _, _, _, _, _, _, _, _, _, htr, _⟩ := hco'
    exact cont _ h' tk _ hx (Nat.le_trans hge (Nat.le_of_lt hlt)) htab'.2 ⟨_, rfl⟩ htr
  | some cv =>
    refine wpAny_genexprCode_hit hcode (cd.code hPs ht) hf ?_
    exact cont cv s2.heap s2.toks ps (Heap.ExtBut.refl _ _) (Nat.le_refl _) hPs ⟨#[], by simp⟩ ht

/-! ### all and any of one -/
def tGen (P : Addr) (n0 : Nat) (wi : TI) (g : TG) (tt : TT) (te : TE) (Out : (Bool → Hp → Prop) → Unit → V → Hp → (Unit → Hp → Prop) → Prop) (fin : Bool) : TE := fun σ H Q => wi σ H fun J H1 => GxR.TabG H1 P ∧ ∀ H2, GxR.Tabbed P H1 H2 →
  ∃ W : Unit → Nat → Nat → Hp → Prop, (∃ m, W () 0 m H2) ∧ TurnOf J n0 g tt te (Out fun b H => Q (.bl b) H) (fun _ H => Q (.bl fin) H) W
theorem pe_allG {N : List Str} {c P : Addr} {elt tg iter : Expr} {ifs : List Expr} {p pos gpos : Pos} {scope : Scope} {wi : TI} {g : TG} {tt : TT} {te : TE} {k : Nat}
    (hr : Room (k + 1) X.A) (hgl : Gl X "all") (hm : X.mg "all" = none) (TB : GxR.TabB X.base X.mg c P) (hcode : X.env.code = .ref c) (S : GSc scope) (hi : PI X tg iter wi)
    (hg : ∀ (A : Around) (s : Shared) (H : Hp) (C : Addr) (code : Value) (fp : List Addr) (pn : List (Addr × Obj)), Room k (A.deeper (ce X scope C code)) → PG (gx X A N s H (ce X scope C code) fp pn) tg g)
    (ht : ∀ (A : Around) (s : Shared) (H : Hp) (C : Addr) (code : Value) (fp : List Addr) (pn : List (Addr × Obj)), Room k (A.deeper (ce X scope C code)) → PTs (gx X A N s H (ce X scope C code) fp pn) ifs tt)
    (he : ∀ (A : Around) (s : Shared) (H : Hp) (C : Addr) (code : Value) (fp : List Addr) (pn : List (Addr × Obj)), Room k (A.deeper (ce X scope C code)) → PE (gx X A N s H (ce X scope C code) fp pn) elt te)
    (hs : ∀ v, genFold iter X.env v = pure v := by intro _; rfl)
    (hb : bootBuiltins "all" = some (.builtin "all") := by decide +kernel)
    (hst : starEach [.GeneratorExp elt [⟨tg, iter, ifs, 0⟩] scope gpos] X.env = (false, eval (.GeneratorExp elt [⟨tg, iter, ifs, 0⟩] scope gpos) X.env) :: starEach [] X.env := by rfl) :
    PE X (.Call (.Name "all" p) [.GeneratorExp elt [⟨tg, iter, ifs, 0⟩] scope gpos] [] pos) (tGen P N.length wi g tt te outAll true) := by
  refine ⟨fun pins s σ H Q I h => ?_⟩
  refine wpAny_Call_Name_kw (ld_blt I hgl hm hb ?_)
  refine PyProof.Rows.callWith_builtin1 ?_ hst (by rfl)
  rw [hst]
  show wpAny _ _ (spliced ((false, eval (.GeneratorExp elt [⟨tg, iter, ifs, 0⟩] scope gpos) X.env) :: backTo pos (starEach [] X.env))) _ _ s
  refine Calls.spliced_cons (gen_make hr TB hcode S hi hs I h fun J H1 H2 s4 s5 code fp it tn go gn hR tab I4 f4 T st5 mk hgo hgs => ?_)
  refine Calls.spliced_nil ?_
  obtain ⟨W, ⟨m0, w0⟩, turn⟩ := hR H2 tab
  have rY := room3 hr (ce X scope s4.heap.objs.size code)
  have I5 := mk X.A.in1.in1 N hr.hd I.ok.frames
  generalize hpn : [(s4.heap.objs.size + 1, go)] = pn at I5
  have hpm : (s4.heap.objs.size + 1, go) ∈ pn := by rw [← hpn]; exact List.mem_singleton.mpr rfl
  have hpf : ∀ p ∈ pn, p.1 ∉ fp := fun p hp z => by
    rw [← hpn] at hp
    rw [List.mem_singleton.mp hp] at z
    exact absurd (f4 _ z).2 (Nat.not_lt.mpr (Nat.le_succ _))
  have gi0 : GI (gx X X.A.in1.in1 N s4 H2 (ce X scope s4.heap.objs.size code) fp pn) conU fp tn () 0 H2 s5 := ⟨I5, trivial, st5, fun b hb => (f4 b hb).1.1⟩
  have isg := hgo _ (I5.pin _ (List.mem_append_left _ hpm)).1
  refine call_function_tree F.kind_all F.plain_all F.entry_all (F.args_all1 _) ?_
  unfold Builtin.«all»
  refine wpAny_bind (m := oneArg "all" _) (wpAny_pure ?_)
  refine wpAny_bind (wpAny_pyIter_gen isg ?_)
  refine wpAny_pure ⟨plainId_quiet F.plain_all_loop _, ?_⟩
  refine all_loop (Y := gx X X.A.in1.in1 N s4 H2 (ce X scope s4.heap.objs.size code) fp pn) (A := X.A) (g := gn) (QB := fun b H => Q (.bl b) H) hr.hd hr.depth hpm hgo (fun b s' H' I' q => ?_) (m0 + 1) 0 H2 (fun a H => W a 0 m0 H) s5 _ hgs gi0 w0 (fun a' s'' gi' w' => ?_)
  · exact ⟨.bl b, H', ge_back I4 f4 I', rfl, q⟩
  · exact ⟨rfl, seg_start (Y := gx X X.A.in1.in1 N s4 H2 (ce X scope s4.heap.objs.size code) fp pn) conU_ok rfl T (hg _ _ _ _ _ _ _ rY) (ht _ _ _ _ _ _ _ rY) (he _ _ _ _ _ _ _ rY) rfl (fun b hb => hb) (fun b hb => nomatch hb) hpf rfl S.co turn m0 a' (m0 + 1) H2 s'' (Nat.lt_succ_self _) w' gi'⟩
theorem pe_anyG {N : List Str} {c P : Addr} {elt tg iter : Expr} {ifs : List Expr} {p pos gpos : Pos} {scope : Scope} {wi : TI} {g : TG} {tt : TT} {te : TE} {k : Nat}
    (hr : Room (k + 1) X.A) (hgl : Gl X "any") (hm : X.mg "any" = none) (TB : GxR.TabB X.base X.mg c P) (hcode : X.env.code = .ref c) (S : GSc scope) (hi : PI X tg iter wi)
    (hg : ∀ (A : Around) (s : Shared) (H : Hp) (C : Addr) (code : Value) (fp : List Addr) (pn : List (Addr × Obj)), Room k (A.deeper (ce X scope C code)) → PG (gx X A N s H (ce X scope C code) fp pn) tg g)
    (ht : ∀ (A : Around) (s : Shared) (H : Hp) (C : Addr) (code : Value) (fp : List Addr) (pn : List (Addr × Obj)), Room k (A.deeper (ce X scope C code)) → PTs (gx X A N s H (ce X scope C code) fp pn) ifs tt)
    (he : ∀ (A : Around) (s : Shared) (H : Hp) (C : Addr) (code : Value) (fp : List Addr) (pn : List (Addr × Obj)), Room k (A.deeper (ce X scope C code)) → PE (gx X A N s H (ce X scope C code) fp pn) elt te)
    (hs : ∀ v, genFold iter X.env v = pure v := by intro _; rfl)
    (hst : starEach [.GeneratorExp elt [⟨tg, iter, ifs, 0⟩] scope gpos] X.env = (false, eval (.GeneratorExp elt [⟨tg, iter, ifs, 0⟩] scope gpos) X.env) :: starEach [] X.env := by rfl) :
    PE X (.Call (.Name "any" p) [.GeneratorExp elt [⟨tg, iter, ifs, 0⟩] scope gpos] [] pos) (tGen P N.length wi g tt te outAny false) := by
  refine ⟨fun pins s σ H Q I h => ?_⟩
  refine wpAny_Call_Name_kw (ld_blt I hgl hm boot_any ?_)
  refine PyProof.Rows.callWith_builtin1 ?_ hst (by rfl)
  rw [hst]
  show wpAny _ _ (spliced ((false, eval (.GeneratorExp elt [⟨tg, iter, ifs, 0⟩] scope gpos) X.env) :: backTo pos (starEach [] X.env))) _ _ s
  refine Calls.spliced_cons (gen_make hr TB hcode S hi hs I h fun J H1 H2 s4 s5 code fp it tn go gn hR tab I4 f4 T st5 mk hgo hgs => ?_)
  refine Calls.spliced_nil ?_
  obtain ⟨W, ⟨m0, w0⟩, turn⟩ := hR H2 tab
  have rY := room3 hr (ce X scope s4.heap.objs.size code)
  have I5 := mk X.A.in1.in1 N hr.hd I.ok.frames
  generalize hpn : [(s4.heap.objs.size + 1, go)] = pn at I5
  have hpm : (s4.heap.objs.size + 1, go) ∈ pn := by rw [← hpn]; exact List.mem_singleton.mpr rfl
  have hpf : ∀ p ∈ pn, p.1 ∉ fp := fun p hp z => by
    rw [← hpn] at hp
    rw [List.mem_singleton.mp hp] at z
    exact absurd (f4 _ z).2 (Nat.not_lt.mpr (Nat.le_succ _))
  have gi0 : GI (gx X X.A.in1.in1 N s4 H2 (ce X scope s4.heap.objs.size code) fp pn) conU fp tn () 0 H2 s5 := ⟨I5, trivial, st5, fun b hb => (f4 b hb).1.1⟩
  have isg := hgo _ (I5.pin _ (List.mem_append_left _ hpm)).1
  refine call_function_tree F.kind_any F.plain_any F.entry_any (F.args_any1 _) ?_
  unfold Builtin.«any»
  refine wpAny_bind (m := oneArg "any" _) (wpAny_pure ?_)
  refine wpAny_bind (wpAny_pyIter_gen isg ?_)
  refine wpAny_pure ⟨plainId_quiet F.plain_any_loop _, ?_⟩
  refine any_loop (Y := gx X X.A.in1.in1 N s4 H2 (ce X scope s4.heap.objs.size code) fp pn) (A := X.A) (g := gn) (QB := fun b H => Q (.bl b) H) hr.hd hr.depth hpm hgo (fun b s' H' I' q => ?_) (m0 + 1) 0 H2 (fun a H => W a 0 m0 H) s5 _ hgs gi0 w0 (fun a' s'' gi' w' => ?_)
  · exact ⟨.bl b, H', ge_back I4 f4 I', rfl, q⟩
  · exact ⟨rfl, seg_start (Y := gx X X.A.in1.in1 N s4 H2 (ce X scope s4.heap.objs.size code) fp pn) conU_ok rfl T (hg _ _ _ _ _ _ _ rY) (ht _ _ _ _ _ _ _ rY) (he _ _ _ _ _ _ _ rY) rfl (fun b hb => hb) (fun b hb => nomatch hb) hpf rfl S.co turn m0 a' (m0 + 1) H2 s'' (Nat.lt_succ_self _) w' gi'⟩

/-! ### sum of one -/
def sumObj (a : Int) (t : Tok) (c : Nat) : Obj := { cls := .type "list", dict := none, data := .seq #[.int a t] c, slots := #[] }
def conS (S : Addr) : Con Int := ⟨[S], fun a h => ∃ t c, h.get? S = some (sumObj a t c)⟩
theorem conS_ok (S : Addr) : ConOk (conS S) :=
  ⟨(fun a h ⟨t, c, e⟩ b hb => by
      rw [List.mem_singleton.mp hb]
      exact ⟨_, e, fun v z => by cases z⟩),
   (fun a h h' ⟨t, c, e⟩ k => ⟨t, c, k S (List.mem_singleton.mpr rfl) _ e⟩),
   (fun a b h ⟨t, c, e⟩ ⟨t', c', e'⟩ => by
      rw [e] at e'
      have z : Data.seq #[Value.int a t] c = Data.seq #[Value.int b t'] c' := congrArg Obj.data (Option.some.inj e')
      injection z with z1 _
      have z2 : [Value.int a t] = [Value.int b t'] := congrArg Array.toList z1
      injection z2 with z3 _
      injection z3)⟩
def outSum : Int → V → Hp → (Int → Hp → Prop) → Prop := fun a y H Nx => ∃ v, y = .int v ∧ Nx (a + v) H
structure ApS (Y : Cx) (S : Addr) : Prop where
  young : Y.s_0.heap.objs.size ≤ S
  loc : S ≠ Y.env.locals
  cell : ∀ x c, Y.env.cells.lookup x = some c → c ≠ S
  pn : ∀ p ∈ Y.pn, p.1 ≠ S
theorem gi_upd {Y : Cx} {fpI : List Addr} {tn : Nat → Heap → Prop} {S : Addr} {a v : Int} {i : Nat} {H : Hp} {s : Shared} {tk : Nat} {h' : Heap} {t : Tok} {c : Nat} (hSf : S ∉ fpI) (ap : ApS Y S) (keepT : ∀ i h h', tn i h → (∀ b ∈ fpI, ∀ o, h.get? b = some o → h'.get? b = some o) → tn i h')
    (gi : GI Y (conS S) fpI tn a i H s) (hk : ∀ b o, b ≠ S → s.heap.get? b = some o → h'.get? b = some o) (hS : h'.get? S = some (sumObj v t c)) : GI Y (conS S) fpI tn v i H { s with heap := h', toks := tk } := by
  obtain ⟨I, ⟨t0, c0, e0⟩, st, hn⟩ := gi
  obtain ⟨_, p2, p3, p4, _⟩ := I.pin (S, sumObj a t0 c0) (List.mem_append_right _ (mem_pinsAt (List.mem_singleton.mpr rfl) e0))
  have I0 : Inv Y [] (nones Y.N.length) H s := I.pins_of fun p hp => by cases hp
  have I1 : Inv Y [] (nones Y.N.length) H { s with heap := h', toks := tk } := I0.turned (it := S) (fun b o hb e => hk b o hb e) p2 p3 (.inr ap.young) ap.cell fun p hp => (List.mem_append.mp hp).elim (fun z => ap.pn p z) fun z => by cases z
  refine ⟨I1.pins_of fun p hp => ?_, ⟨t, c, hS⟩, keepT _ _ _ st fun b hb o e => hk b o (fun z => hSf (z ▸ hb)) e, hn⟩
  obtain ⟨hb, e⟩ := of_pinsAt hp
  have eS : p.1 = S := List.mem_singleton.mp hb
  rw [eS] at e ⊢
  have e' : h'.get? S = some p.2 := e
  rw [hS] at e'
  refine ⟨e, p2, p3, p4, fun v z => ?_⟩
  rw [← Option.some.inj e'] at z
  cases z
theorem sum_loop {Y : Cx} {fpI : List Addr} {tn : Nat → Heap → Prop} {A : Around} {ga : Addr} {go : Obj} {g : Nat} {S : Addr} {QI : Int → Hp → Prop} {R : Result → Shared → Prop} (hSf : S ∉ fpI) (ap : ApS Y S) (keepT : ∀ i h h', tn i h → (∀ b ∈ fpI, ∀ o, h.get? b = some o → h'.get? b = some o) → tn i h')
    (hh : A.handled = none) (hd : A.depth < recursionLimit) (hpn : (ga, go) ∈ Y.pn) (hgo : ∀ h : Heap, h.get? ga = some go → h.IsGen ga g)
    (hR : ∀ a t' s' H', Inv Y [] (nones Y.N.length) H' s' → QI a H' → R (.ok (.ret (.int a t'))) s') :
    ∀ (n i : Nat) (H : Hp) (Nx : Int → Hp → Prop) (s : Shared) (gs : GenState) (a : Int) (t : Tok) (c : Nat) (st : Int), (st = 0 ∨ st = 2) → s.gens[g]? = some gs → GI Y (conS S) fpI tn a i H s → s.heap.get? S = some (sumObj a t c) → Nx a H →
      (∀ a' s'', GI Y (conS S) fpI tn a' i H s'' → Nx a' H → gs.Goes (model Y.prog Y.w) A.in1.in1 (GRr Y (conS S) QI) (GP Y (conS S) fpI tn outSum) n (.send .none) s'') →
      codeAny (model Y.prog Y.w) A (.builtin "sum.loop" ⟨[.ref ga, .ref S, rawInt st, rawInt 0], []⟩) R s := by
  -- what a turn comes to, the loop going on or not
  have turn : ∀ (n i : Nat) (H : Hp) (Nx : Int → Hp → Prop) (s : Shared) (gs : GenState) (a : Int) (t : Tok) (c : Nat) (st : Int), (st = 0 ∨ st = 2) → s.gens[g]? = some gs → GI Y (conS S) fpI tn a i H s → s.heap.get? S = some (sumObj a t c) → Nx a H →
      (∀ a' s'', GI Y (conS S) fpI tn a' i H s'' → Nx a' H → gs.Goes (model Y.prog Y.w) A.in1.in1 (GRr Y (conS S) QI) (GP Y (conS S) fpI tn outSum) n (.send .none) s'') →
      (∀ (i1 : Nat) (H1 : Hp) (Nx1 : Int → Hp → Prop) (s1 : Shared) (gs1 : GenState) (b : Int) (t1 : Tok) (c1 : Nat) (st1 : Int), (st1 = 0 ∨ st1 = 2) → s1.gens[g]? = some gs1 → GI Y (conS S) fpI tn b i1 H1 s1 → s1.heap.get? S = some (sumObj b t1 c1) → Nx1 b H1 →
        GoOn (model Y.prog Y.w) A.in1.in1 (GRr Y (conS S) QI) (GP Y (conS S) fpI tn outSum) (fun a' s'' => GI Y (conS S) fpI tn a' i1 H1 s'') (fun a' => Nx1 a' H1) gs1 n →
        codeAny (model Y.prog Y.w) A (.builtin "sum.loop" ⟨[.ref ga, .ref S, rawInt st1, rawInt 0], []⟩) R s1) →
      codeAny (model Y.prog Y.w) A (.builtin "sum.loop" ⟨[.ref ga, .ref S, rawInt st, rawInt 0], []⟩) R s := by
    intro n i H Nx s gs a t c st hst2 hgs gi hS hN goes again
    refine codeAny_builtin F.entry_sum_loop ?_
    rw [Around.under_plainId F.plain_sum_loop _]
    show wpAny _ A.in1 (seqItems? (.ref S) >>= _) _ _ s
    refine wpAny_bind (wpAny_seqItems hS rfl ?_)
    show wpAny _ A.in1 (tryCatch (pyNext (.ref ga)) _ >>= _) _ _ s
    refine wpAny_bind (wpAny_tryCatch (next_ge (A := A.in1) (conS_ok S) hh hd hpn hgo hgs gi hN goes (fun i1 H1 y v Nx1 s1 gs1 rv gi1 o1 hg1 go1 => ?_) (fun H1 s1 I1 _ fin => ?_)))
    · obtain ⟨v', rfl, hc⟩ := o1
      obtain ⟨t', rfl⟩ := (show ∃ t', v = Value.int v' t' from rv)
      obtain ⟨tS, cS, hS'⟩ := gi1.2.1
      rcases hst2 with rfl | rfl
      · show wpAny _ A.in1 (if (_ : Bool) = true then (mkInt (a + v') >>= _) else _) _ _ _
        split
        · refine wpAny_bind (wpAny_mkInt ?_)
          show wpAny _ A.in1 (updateSeq S (fun _ => #[.int (a + v') s1.toks]) >>= _) _ _ _
          refine wpAny_bind ?_
          refine wpAny_updateSeq hS' rfl (wpAny_pure ⟨plainId_quiet F.plain_sum_loop _, ?_⟩)
          refine again i1 H1 Nx1 _ gs1 (a + v') s1.toks _ 0 (.inl rfl) hg1 (gi_upd (t := s1.toks) (s := s1) hSf ap keepT gi1 (fun b o hb e => (Heap.get?_update_other _ _ (Ne.symm hb)).trans e) (Heap.get?_update_self _ hS' rfl)) (Heap.get?_update_self _ hS' rfl) hc go1
        · refine wpAny_bind (wpAny_rule ?_)
          refine wpAny_bind (wpAny_attempt (wpAny_holding (wpAny_add_int ?_)))
          show wpAny _ A.in1 (updateSeq S (fun _ => #[.int (a + v') s1.toks]) >>= _) _ _ _
          refine wpAny_bind (wpAny_updateSeq hS' rfl ?_)
          have hS₂ := Heap.get?_update_self (Obj.mapSeq fun _ => #[Value.int (a + v') s1.toks]) hS' rfl
          refine wpAny_bind (wpAny_letGo ?_)
          refine wpAny_bind (wpAny_updateSeq hS₂ rfl (wpAny_pure ⟨plainId_quiet F.plain_sum_loop _, ?_⟩))
          refine again i1 H1 Nx1 _ gs1 (a + v') s1.toks _ 2 (.inr rfl) hg1 (gi_upd (t := s1.toks) (s := s1) hSf ap keepT gi1 (fun b o hb e => (Heap.get?_update_other _ _ (Ne.symm hb)).trans ((Heap.get?_update_other _ _ (Ne.symm hb)).trans e)) (Heap.get?_update_self _ hS₂ rfl)) (Heap.get?_update_self _ hS₂ rfl) hc go1
      · show wpAny _ A.in1 ((holding [Value.int v' t'] (binaryOp .Add (.int a t) (.int v' t'))).attempt >>= _) _ _ _
        refine wpAny_bind (wpAny_attempt (wpAny_holding (wpAny_add_int ?_)))
        show wpAny _ A.in1 (updateSeq S (fun _ => #[.int (a + v') s1.toks]) >>= _) _ _ _
        refine wpAny_bind (wpAny_updateSeq hS' rfl ?_)
        have hS₂ := Heap.get?_update_self (Obj.mapSeq fun _ => #[Value.int (a + v') s1.toks]) hS' rfl
        refine wpAny_bind (wpAny_letGo ?_)
        refine wpAny_bind (wpAny_updateSeq hS₂ rfl (wpAny_pure ⟨plainId_quiet F.plain_sum_loop _, ?_⟩))
        refine again i1 H1 Nx1 _ gs1 (a + v') s1.toks _ 2 (.inr rfl) hg1 (gi_upd (t := s1.toks) (s := s1) hSf ap keepT gi1 (fun b o hb e => (Heap.get?_update_other _ _ (Ne.symm hb)).trans ((Heap.get?_update_other _ _ (Ne.symm hb)).trans e)) (Heap.get?_update_self _ hS₂ rfl)) (Heap.get?_update_self _ hS₂ rfl) hc go1
    · exact wpAny_pure (hR a t s1 H1 (I1.pins_of fun p hp => by cases hp) fin)
  intro n
  induction n with
  | zero => exact fun i H Nx s gs a t c st h1 h2 h3 h4 h5 h6 => turn 0 i H Nx s gs a t c st h1 h2 h3 h4 h5 h6 fun i1 H1 Nx1 s1 gs1 b t1 c1 st1 _ _ g1 _ g3 g4 => (g4 b s1 g1 g3).elim
  | succ n ih => exact fun i H Nx s gs a t c st h1 h2 h3 h4 h5 h6 => turn (n + 1) i H Nx s gs a t c st h1 h2 h3 h4 h5 h6 fun i1 H1 Nx1 s1 gs1 b t1 c1 st1 g0 g1 g2 g3 g4 g5 => ih i1 H1 Nx1 s1 gs1 b t1 c1 st1 g0 g1 g2 g3 g4 g5
def tSumG (P : Addr) (n0 : Nat) (wi : TI) (g : TG) (tt : TT) (te : TE) : TE := fun σ H Q => wi σ H fun J H1 => GxR.TabG H1 P ∧ ∀ H2, GxR.Tabbed P H1 H2 →
  ∃ W : Int → Nat → Nat → Hp → Prop, (∃ m, W 0 0 m H2) ∧ TurnOf J n0 g tt te outSum (fun a H => Q (.int a) H) W
theorem pe_sumG {N : List Str} {c P : Addr} {elt tg iter : Expr} {ifs : List Expr} {p pos gpos : Pos} {scope : Scope} {wi : TI} {g : TG} {tt : TT} {te : TE} {k : Nat}
    (hr : Room (k + 1) X.A) (hgl : Gl X "sum") (hm : X.mg "sum" = none) (TB : GxR.TabB X.base X.mg c P) (hcode : X.env.code = .ref c) (S : GSc scope) (hi : PI X tg iter wi)
    (hg : ∀ (A : Around) (s : Shared) (H : Hp) (C : Addr) (code : Value) (fp : List Addr) (pn : List (Addr × Obj)), Room k (A.deeper (ce X scope C code)) → PG (gx X A N s H (ce X scope C code) fp pn) tg g)
    (ht : ∀ (A : Around) (s : Shared) (H : Hp) (C : Addr) (code : Value) (fp : List Addr) (pn : List (Addr × Obj)), Room k (A.deeper (ce X scope C code)) → PTs (gx X A N s H (ce X scope C code) fp pn) ifs tt)
    (he : ∀ (A : Around) (s : Shared) (H : Hp) (C : Addr) (code : Value) (fp : List Addr) (pn : List (Addr × Obj)), Room k (A.deeper (ce X scope C code)) → PE (gx X A N s H (ce X scope C code) fp pn) elt te)
    (hs : ∀ v, genFold iter X.env v = pure v := by intro _; rfl)
    (hb : bootBuiltins "sum" = some (.builtin "sum") := by decide +kernel)
    (hst : starEach [.GeneratorExp elt [⟨tg, iter, ifs, 0⟩] scope gpos] X.env = (false, eval (.GeneratorExp elt [⟨tg, iter, ifs, 0⟩] scope gpos) X.env) :: starEach [] X.env := by rfl) :
    PE X (.Call (.Name "sum" p) [.GeneratorExp elt [⟨tg, iter, ifs, 0⟩] scope gpos] [] pos) (tSumG P N.length wi g tt te) := by
  refine ⟨fun pins s σ H Q I h => ?_⟩
  refine wpAny_Call_Name_kw (ld_blt I hgl hm hb ?_)
  refine PyProof.Rows.callWith_builtin1 ?_ hst (by rfl)
  rw [hst]
  show wpAny _ _ (spliced ((false, eval (.GeneratorExp elt [⟨tg, iter, ifs, 0⟩] scope gpos) X.env) :: backTo pos (starEach [] X.env))) _ _ s
  refine Calls.spliced_cons (gen_make hr TB hcode S hi hs I h fun J H1 H2 s4 s5 code fp it tn go gn hR tab I4 f4 T st5 mk hgo hgs => ?_)
  refine Calls.spliced_nil ?_
  obtain ⟨W, ⟨m0, w0⟩, turn⟩ := hR H2 tab
  have rY := room3 hr (ce X scope s4.heap.objs.size code)
  have I5 := mk X.A.in1.in1 N hr.hd I.ok.frames
  generalize hpn : [(s4.heap.objs.size + 1, go)] = pn at I5
  have hpm : (s4.heap.objs.size + 1, go) ∈ pn := by rw [← hpn]; exact List.mem_singleton.mpr rfl
  have hpf : ∀ p ∈ pn, p.1 ∉ fp := fun p hp z => by
    rw [← hpn] at hp
    rw [List.mem_singleton.mp hp] at z
    exact absurd (f4 _ z).2 (Nat.not_lt.mpr (Nat.le_succ _))
  have isg := hgo _ (I5.pin _ (List.mem_append_left _ hpm)).1
  have fpl : ∀ b ∈ fp, b < s5.heap.objs.size := fun b hb => Nat.lt_of_lt_of_le (f4 b hb).2 I5.sz
  refine call_function_tree F.kind_sum F.plain_sum F.entry_sum (F.args_sum1 _) ?_
  unfold Builtin.«sum»
  simp only [List.length_cons, List.length_nil]
  rw [if_neg (by decide)]
  refine wpAny_bind (wpAny_of_eq (show Builtin.Builtins.bindParams "sum" ["start"] 0 { } = pure [none] from rfl) ?_)
  refine wpAny_bind (wpAny_pyIter_gen isg ?_)
  refine wpAny_bind (wpAny_mkInt ?_)
  refine wpAny_bind (wpAny_pure ?_)
  simp only [List.forIn_cons, List.forIn_nil]
  refine wpAny_bind (wpAny_bind (wpAny_bind (wpAny_isInstance (T := "int") (b := false) (typeIs_int _ _ _) PySem.sub_int_str ?_)))
  simp only [Bool.false_eq_true, if_false]
  refine wpAny_pure (wpAny_bind (wpAny_bind (wpAny_isInstance (T := "int") (b := false) (typeIs_int _ _ _) PySem.sub_int_bytes ?_)))
  simp only [Bool.false_eq_true, if_false]
  refine wpAny_pure (wpAny_bind (wpAny_bind (wpAny_isInstance (T := "int") (b := false) (typeIs_int _ _ _) PySem.sub_int_bytearray ?_)))
  simp only [Bool.false_eq_true, if_false]
  refine wpAny_pure (wpAny_pure ?_)
  refine wpAny_bind (wpAny_newObj_type ?_)
  refine wpAny_pure ⟨plainId_quiet F.plain_sum_loop _, ?_⟩
  have hSf : s5.heap.objs.size ∉ fp := fun hm => Nat.lt_irrefl _ (fpl _ hm)
  have hget : (s5.heap.push (sumObj 0 s5.toks 0)).get? s5.heap.objs.size = some (sumObj 0 s5.toks 0) := Heap.get?_push_size _ rfl
  have I6 : Inv (gx X X.A.in1.in1 N s4 H2 (ce X scope s4.heap.objs.size code) fp pn) [] (nones N.length) H2 { s5 with heap := s5.heap.push (sumObj 0 s5.toks 0), toks := s5.toks + 1 } := I5.kept fun b o e => Heap.get?_push_of_some _ e
  have gi0 : GI (gx X X.A.in1.in1 N s4 H2 (ce X scope s4.heap.objs.size code) fp pn) (conS s5.heap.objs.size) fp tn 0 0 H2 { s5 with heap := s5.heap.push (sumObj 0 s5.toks 0), toks := s5.toks + 1 } := by
    refine ⟨I6.pins_of fun p hp => ?_, ⟨s5.toks, 0, hget⟩, T.keep _ _ _ st5 fun b _ o e => Heap.get?_push_of_some _ e, fun b hb => (f4 b hb).1.1⟩
    obtain ⟨hb, e⟩ := of_pinsAt hp
    have eS : p.1 = s5.heap.objs.size := List.mem_singleton.mp hb
    rw [eS] at e ⊢
    have e' : (s5.heap.push (sumObj 0 s5.toks 0)).get? s5.heap.objs.size = some p.2 := e
    rw [hget] at e'
    refine ⟨e, I5.hok.fresh (Nat.le_refl _), Nat.ne_of_gt I5.lt, I5.nofs (Nat.le_refl _), fun v z => ?_⟩
    rw [← Option.some.inj e'] at z
    cases z
  have ap : ApS (gx X X.A.in1.in1 N s4 H2 (ce X scope s4.heap.objs.size code) fp pn) s5.heap.objs.size := ⟨I5.sz, Nat.ne_of_gt I5.lt, fun x c e => by simp [genEnv] at e, fun p hp z => by
    have := Heap.lt_size (I5.pin p (List.mem_append_left _ hp)).1
    rw [z] at this
    exact Nat.lt_irrefl _ this⟩
  refine sum_loop (Y := gx X X.A.in1.in1 N s4 H2 (ce X scope s4.heap.objs.size code) fp pn) (A := X.A) (g := gn) (QI := fun a H => Q (.int a) H) hSf ap T.keep hr.hd hr.depth hpm hgo (fun a t' s' H' I' q => ?_) (m0 + 1) 0 H2 (fun a H => W a 0 m0 H) _ _ 0 s5.toks 0 0 (.inl rfl) hgs gi0 hget w0 (fun a' s'' gi' w' => ?_)
  · exact ⟨.int a, H', ge_back I4 f4 I', ⟨_, rfl⟩, q⟩
  · exact ⟨rfl, seg_start (Y := gx X X.A.in1.in1 N s4 H2 (ce X scope s4.heap.objs.size code) fp pn) (conS_ok _) rfl T (hg _ _ _ _ _ _ _ rY) (ht _ _ _ _ _ _ _ rY) (he _ _ _ _ _ _ _ rY) rfl (fun b hb => hb) (fun b hb => by rw [List.mem_singleton.mp hb]; exact hSf) hpf rfl S.co turn m0 a' (m0 + 1) H2 s'' (Nat.lt_succ_self _) w' gi'⟩
end
end GE
set_option Elab.async false
set_option linter.all false
set_option maxRecDepth 100000
set_option maxHeartbeats 1000000
namespace CL
open PySem PySem.Spec PyProof.Rows L2 GE
/-! ### what a value is worth, as data -/
mutual
inductive Rp (H : Hp) : V → PyData → Prop
  | non : Rp H .non .none
  | bl (b : Bool) : Rp H (.bl b) (.bool b)
  | int (i : Int) : Rp H (.int i) (.int i)
  | str (x : Str) : Rp H (.str x) (.str x)
  | lst {a : Addr} {xs : List V} {ds : List PyData} : H a = some (.lst xs) → RpAll H xs ds → Rp H (.ref a) (.list ds)
  | tup {a : Addr} {xs : List V} {ds : List PyData} : H a = some (.tup xs) → RpAll H xs ds → Rp H (.ref a) (.tuple ds)
  | dct {a : Addr} : H a = some (.dK []) → Rp H (.ref a) (.dict [])
inductive RpAll (H : Hp) : List V → List PyData → Prop
  | nil : RpAll H [] []
  | cons {v : V} {vs : List V} {d : PyData} {ds : List PyData} : Rp H v d → RpAll H vs ds → RpAll H (v :: vs) (d :: ds)
end
/-- all stays but tables, which may grow -/
def Ex (H H' : Hp) : Prop := ∀ b o, H b = some o → H' b = some o ∨ ∃ ps qs, o = .tbl ps ∧ H' b = some (.tbl qs)
theorem Ex.refl (H : Hp) : Ex H H := fun _ _ h => .inl h
theorem Ex.of {H H' : Hp} (s : Same H H') : Ex H H' := fun b o h => .inl (s b o h)
theorem Ex.trans {H H1 H2 : Hp} (a : Ex H H1) (b : Ex H1 H2) : Ex H H2 := fun c o h => by
  rcases a c o h with q | ⟨ps, qs, e, q⟩
  · exact b c o q
  · rcases b c _ q with r | ⟨ps', qs', _, r⟩
    · exact .inr ⟨ps, qs, e, r⟩
    · exact .inr ⟨ps, qs', e, r⟩
theorem Ex.keep {H H' : Hp} (e : Ex H H') {b : Addr} {o : HO} (h : H b = some o) (n : ∀ ps, o ≠ .tbl ps) : H' b = some o := by
  rcases e b o h with q | ⟨ps, _, z, _⟩
  · exact q
  · exact absurd z (n ps)
theorem Ex.lst {H H' : Hp} (e : Ex H H') {b : Addr} {xs : List V} (h : H b = some (.lst xs)) : H' b = some (.lst xs) := e.keep h fun _ => nofun
theorem Ex.tup {H H' : Hp} (e : Ex H H') {b : Addr} {xs : List V} (h : H b = some (.tup xs)) : H' b = some (.tup xs) := e.keep h fun _ => nofun
theorem Ex.free {H H' : Hp} (e : Ex H H') {l : Addr} (h : H' l = none) : H l = none := by
  cases q : H l with
  | none => rfl
  | some o =>
    rcases e l o q with r | ⟨_, _, _, r⟩
    · rw [h] at r; cases r
    · rw [h] at r; cases r
theorem Ex.new {H : Hp} {p : Addr} {o : HO} (h : H p = none) : Ex H (upd H p o) := fun b x e => .inl (by rw [upd_ne (ne_of_none e h)]; exact e)
theorem same_upd {H : Hp} {p : Addr} {o : HO} (h : H p = none) : Same H (upd H p o) := fun b x e => by
  rw [upd_ne (ne_of_none e h)]
  exact e
mutual
theorem Rp.ex {H H' : Hp} (e : Ex H H') : ∀ (d : PyData) (v : V), Rp H v d → Rp H' v d
  | .none, _, h => by cases h; exact .non
  | .bool b, _, h => by cases h; exact .bl b
  | .int i, _, h => by cases h; exact .int i
  | .str x, _, h => by cases h; exact .str x
  | .list ds, _, h => by
    cases h with
    | lst h1 h2 => exact .lst (e.lst h1) (RpAll.ex e ds _ h2)
  | .tuple ds, _, h => by
    cases h with
    | tup h1 h2 => exact .tup (e.tup h1) (RpAll.ex e ds _ h2)
  | .dict _, _, h => by
    cases h with
    | dct h1 => exact .dct (e.keep h1 fun _ => nofun)
theorem RpAll.ex {H H' : Hp} (e : Ex H H') : ∀ (ds : List PyData) (vs : List V), RpAll H vs ds → RpAll H' vs ds
  | [], _, h => by cases h; exact .nil
  | d :: ds, _, h => by
    cases h with
    | cons h1 h2 => exact .cons (Rp.ex e d _ h1) (RpAll.ex e ds _ h2)
end
theorem RpAll.length {H : Hp} : ∀ {vs : List V} {ds : List PyData}, RpAll H vs ds → vs.length = ds.length
  | _, _, .nil => rfl
  | _, _, .cons _ t => congrArg (· + 1) (RpAll.length t)
theorem RpAll.get {H : Hp} : ∀ {vs : List V} {ds : List PyData} {i : Nat} {v : V}, RpAll H vs ds → vs[i]? = some v → ∃ d, ds[i]? = some d ∧ Rp H v d
  | _, _, _, _, .nil, e => by simp at e
  | _, _, 0, _, .cons r _, e => by simp at e; subst e; exact ⟨_, rfl, r⟩
  | _, _, i + 1, _, .cons _ t, e => by
    obtain ⟨d, h1, h2⟩ := RpAll.get (i := i) t (by simpa using e)
    exact ⟨d, by simpa using h1, h2⟩
theorem RpAll.take {H : Hp} : ∀ {vs : List V} {ds : List PyData} (n : Nat), RpAll H vs ds → RpAll H (vs.take n) (ds.take n)
  | _, _, 0, _ => .nil
  | _, _, _ + 1, .nil => .nil
  | _, _, n + 1, .cons r t => .cons r (RpAll.take n t)
theorem RpAll.append {H : Hp} : ∀ {vs ws : List V} {ds es : List PyData}, RpAll H vs ds → RpAll H ws es → RpAll H (vs ++ ws) (ds ++ es)
  | _, _, _, _, .nil, s => s
  | _, _, _, _, .cons r t, s => .cons r (RpAll.append t s)
/-! ### plans, as the document tells -/
def tyName : PyData → String
  | .none => "NoneType" | .bool _ => "bool" | .int _ => "int" | .str _ => "str" | .list _ => "list" | .tuple _ => "tuple" | .dict _ => "dict"
def rowsD : PyData → Option (List PyData)
  | .list xs => some xs
  | .tuple xs => some xs
  | _ => none
def isRow (d : PyData) : Bool := (rowsD d).isSome
def isWhole : PyData → Bool
  | .int _ => true
  | _ => false
def isIntB : PyData → Bool
  | .int _ => true
  | .bool _ => true
  | _ => false
def isBoolB : PyData → Bool
  | .bool _ => true
  | _ => false
def isNone : PyData → Bool
  | .none => true
  | _ => false
abbrev GREAT : Int := 1000000000000000000000000000000
def isPatience : PyData → Bool
  | .none => true
  | .int i => decide (0 ≤ i) && decide (i ≤ GREAT)
  | _ => false
def isTurns (d : PyData) : Bool := match rowsD d with
  | some ds => decide (1 ≤ ds.length) && decide (ds.length ≤ 8) && ds.all isPatience
  | none => false
def isMany : PyData → Bool
  | .none => true
  | .int i => decide (0 ≤ i)
  | _ => false
def isPiece (d : PyData) : Bool := match rowsD d with
  | some [t, m] => isTurns t && isMany m
  | _ => false
def sndD (d : PyData) : PyData := match rowsD d with
  | some [_, m] => m
  | _ => .none
def worth : PyData → Int
  | .int i => i
  | _ => 0
def sumSnd (ds : List PyData) : Int := (ds.map fun d => worth (sndD d)).sum
def isPlanL (ds : List PyData) : Bool := decide (1 ≤ ds.length) && decide (ds.length ≤ 8) && ds.all isPiece && !((ds.take (ds.length - 1)).any fun d => isNone (sndD d)) && decide (sumSnd ds ≤ GREAT)
def isPlan (d : PyData) : Bool := match rowsD d with
  | some ds => isPlanL ds
  | none => false
theorem Rp.ty {K : PySem.W.Frag} {H : Hp} {v : V} {d : PyData} (h : Rp H v d) : TyX K H v (.type (tyName d)) := by
  cases h with
  | non => exact .base .non
  | bl b => exact .base (.bl b)
  | int i => exact .base (.int i)
  | str x => exact .base (.str x)
  | lst h _ => exact .base (.lst h)
  | tup h _ => exact .base (.tup h)
  | dct h => exact .base (.dK h)
theorem kit_int {K : PySem.W.Frag} (d : PyData) : PySem.W.kitOne K (.type (tyName d)) (.type "int") = some (isIntB d) := by cases d <;> (refine kit_ty ?_; dsimp only [tyName, isIntB]; decide +kernel)
theorem kit_bool {K : PySem.W.Frag} (d : PyData) : PySem.W.kitOne K (.type (tyName d)) (.type "bool") = some (isBoolB d) := by cases d <;> (refine kit_ty ?_; dsimp only [tyName, isBoolB]; decide +kernel)
theorem kit_list {K : PySem.W.Frag} (d : PyData) : PySem.W.kitOne K (.type (tyName d)) (.type "list") = some (match d with | .list _ => true | _ => false) := by cases d <;> (refine kit_ty ?_; dsimp only [tyName]; decide +kernel)
theorem kit_tuple {K : PySem.W.Frag} (d : PyData) : PySem.W.kitOne K (.type (tyName d)) (.type "tuple") = some (match d with | .tuple _ => true | _ => false) := by cases d <;> (refine kit_ty ?_; dsimp only [tyName]; decide +kernel)
theorem kit_rows {K : PySem.W.Frag} (d : PyData) : PySem.W.kitAny K (.type (tyName d)) [.type "list", .type "tuple"] = some (isRow d) := by
  refine kitAny_cons (kit_list d) (fun h => kitAny_cons (kit_tuple d) (fun h2 => ?_) fun h2 => ?_) fun h => ?_
  · cases d <;> first | exact kitAny_nil | (simp at h; done) | (simp at h2; done)
  · cases d <;> first | rfl | (simp at h; done) | (simp at h2; done)
  · cases d <;> first | rfl | (simp at h; done)
/-- a row's things -/
theorem Rp.rows {H : Hp} {v : V} {d : PyData} {ds : List PyData} (h : Rp H v d) (e : rowsD d = some ds) : ∃ a xs, v = .ref a ∧ RpAll H xs ds ∧ (H a = some (.lst xs) ∨ H a = some (.tup xs)) := by
  cases h with
  | lst h1 h2 => cases e; exact ⟨_, _, rfl, h2, .inl h1⟩
  | tup h1 h2 => cases e; exact ⟨_, _, rfl, h2, .inr h1⟩
  | _ => cases e
/-! ### for x in a list or a tuple -/
structure StSeq (H : Hp) (a : Addr) (xs : List V) : Prop where
  or : H a = some (.lst xs) ∨ H a = some (.tup xs)
theorem StSeq.ex {H H' : Hp} {a : Addr} {xs : List V} (s : StSeq H a xs) (e : Ex H H') : StSeq H' a xs := ⟨s.or.elim (fun h => .inl (e.lst h)) fun h => .inr (e.tup h)⟩
theorem StSeq.sq {K : PySem.W.Frag} {H : Hp} {a : Addr} {xs : List V} (s : StSeq H a xs) : SqL K H a xs ∨ SqT K H a xs := s.or.elim (fun h => .inl (SqL.of h)) fun h => .inr (SqT.of h)
/-- the thing that is walked stands -/
def StandsAs (K : PySem.W.Frag) (a : Addr) (xs : List V) (J : It) (H : Hp) : Prop := (J = Itl K a ∧ SqL K H a xs) ∨ (J = Itt K a ∧ SqT K H a xs)
section
variable {X : Cx} {tg : Expr}
def iSeq (K : PySem.W.Frag) (tl : TE) : TI := fun σ H R => tl σ H fun x H1 => ∃ a xs, x = .ref a ∧ StSeq H1 a xs ∧ ∀ J, (∀ H2, Ex H1 H2 → StandsAs K a xs J H2) → R J H1
theorem pi_seq {l : Expr} {tl : TE} (hl : PE X l tl) : PI X tg l (iSeq X.K tl) := by
  refine ⟨fun pins s σ H R I h => ?_⟩
  refine thn (hl.run pins s σ H _ I h) fun v s1 ⟨x, H1, I1, r1, q1⟩ => ?_
  obtain ⟨a, xs, e, st, q⟩ := q1
  subst e
  cases r1
  have new : ∀ b ∈ [s1.heap.objs.size], FpOk X pins H1 b := fun b hb => by
    rw [List.mem_singleton.mp hb]
    exact I1.fpOk (Nat.le_refl _) (I1.hok.fresh (Nat.le_refl _))
  rcases st.or with hq | hq
  · obtain ⟨its, rv, p, hz⟩ := I1.list (SqL.of hq)
    exact wpAny_pyIter_list p.isList ⟨s1.heap.objs.size, [s1.heap.objs.size], _, _, H1, rfl, I1.kept (t' := s1.toks) fun b o e => Heap.get?_push_of_some _ e, turn_list a _, ⟨_, Heap.get?_push_size _ rfl, rfl, rfl⟩, new, q _ fun H2 e => .inl ⟨rfl, SqL.of (e.lst hq)⟩⟩
  · obtain ⟨its, rv, p, hz⟩ := I1.tuple (SqT.of hq)
    exact wpAny_pyIter_tuple (show s1.heap.IsTuple a its.toArray from p) ⟨s1.heap.objs.size, [s1.heap.objs.size], _, _, H1, rfl, I1.kept (t' := s1.toks) fun b o e => Heap.get?_push_of_some _ e, turn_tuple a _, ⟨_, Heap.get?_push_size _ rfl, rfl, rfl⟩, new, q _ fun H2 e => .inr ⟨rfl, SqT.of (e.tup hq)⟩⟩
end
theorem StandsAs.go {K : PySem.W.Frag} {a : Addr} {xs : List V} {J : It} {H : Hp} {i : Nat} {x : V} (s : StandsAs K a xs J H) (h : xs[i]? = some x) : J.go i H := by
  rcases s with ⟨rfl, q⟩ | ⟨rfl, q⟩ <;> exact ⟨xs, x, q, h⟩
theorem StandsAs.stop {K : PySem.W.Frag} {a : Addr} {xs : List V} {J : It} {H : Hp} {i : Nat} (s : StandsAs K a xs J H) (h : xs.length ≤ i) : J.stop i H := by
  rcases s with ⟨rfl, q⟩ | ⟨rfl, q⟩ <;> exact ⟨xs, q, h⟩
theorem StandsAs.yld {K : PySem.W.Frag} {a : Addr} {xs : List V} {J : It} {H H' : Hp} {i : Nat} {x : V} (s : StandsAs K a xs J H) (h : J.yld i H x H') : H' = H ∧ xs[i]? = some x := by
  rcases s with ⟨rfl, q⟩ | ⟨rfl, q⟩ <;> exact ⟨h.1, h.2 xs q⟩
theorem turn_by {α : Type} {K : PySem.W.Frag} {ad : Addr} {xs : List V} {J : It} {n0 : Nat} {g : TG} {tt : TT} {te : TE} {Out : α → V → Hp → (α → Hp → Prop) → Prop} {Fin : α → Hp → Prop} (Pv : α → Nat → Hp → Prop)
    (stands : ∀ a i H, Pv a i H → StandsAs K ad xs J H)
    (step : ∀ a i x H, xs[i]? = some x → Pv a i H → g x (nones n0) H fun σ2 H2 => tt σ2 H2 fun b H3 => if b = true then te σ2 H3 fun y H4 => Out a y H4 (fun a' H' => Pv a' (i + 1) H') else Pv a (i + 1) H3)
    (done : ∀ a H, Pv a xs.length H → Fin a H) : TurnOf J n0 g tt te Out Fin (fun a i m H => m = xs.length - i ∧ i ≤ xs.length ∧ Pv a i H) := by
  rintro a i m H ⟨rfl, hi, p⟩
  have s := stands a i H p
  by_cases hlt : i < xs.length
  · refine .inr ⟨s.go (List.getElem?_eq_getElem hlt), fun a' H' => Pv a' (i + 1) H', fun a' H' p' => ⟨xs.length - (i + 1), by omega, rfl, hlt, p'⟩, fun x H' y => ?_⟩
    obtain ⟨rfl, hx⟩ := s.yld y
    exact step a i x _ hx p
  · have e : i = xs.length := by omega
    subst e
    exact .inl ⟨s.stop (Nat.le_refl _), done a H p⟩
end CL
set_option Elab.async false
set_option linter.all false
set_option maxRecDepth 100000
set_option maxHeartbeats 1000000
namespace CL
open PySem PySem.Spec PyProof.Rows L2 GE
def topS (i : Nat) : Stmt := PySem.Challenge.pw_comersline_k47_what_is_not_written.main.body.getD i (.Pass ⟨0, 0, 0, 0⟩)
abbrev sWhole : Stmt := topS 24
abbrev sRow : Stmt := topS 25
abbrev sPat : Stmt := topS 29
abbrev sTurns : Stmt := topS 30
abbrev sPiece : Stmt := topS 31
abbrev sPlan : Stmt := topS 32
theorem scWhole : FnScope ["thing"] ["thing"] (defScope sWhole) := ⟨rfl, rfl, rfl, by decide +kernel, rfl, by decide +kernel, by decide +kernel⟩
theorem scRow : FnScope ["thing"] ["thing"] (defScope sRow) := ⟨rfl, rfl, rfl, by decide +kernel, rfl, by decide +kernel, by decide +kernel⟩
theorem scPat : FnScope ["thing"] ["thing"] (defScope sPat) := ⟨rfl, rfl, rfl, by decide +kernel, rfl, by decide +kernel, by decide +kernel⟩
theorem scTurns : FnScope ["thing"] ["thing"] (defScope sTurns) := ⟨rfl, rfl, rfl, by decide +kernel, rfl, by decide +kernel, by decide +kernel⟩
theorem scPiece : FnScope ["thing"] ["thing"] (defScope sPiece) := ⟨rfl, rfl, rfl, by decide +kernel, rfl, by decide +kernel, by decide +kernel⟩
theorem scPlan : FnScope ["thing"] ["thing"] (defScope sPlan) := ⟨rfl, rfl, rfl, by decide +kernel, rfl, by decide +kernel, by decide +kernel⟩

/-- a def whose code object is known -/
structure FunC (K : PySem.W.Frag) (x qual : Str) (st : Stmt) (f : Addr) (fd : FuncData) (c : Addr) : Prop where
  ex : ∃ (oc : Value) (od : Option Addr) (kV doc pm : Value) (an : Option Addr) (ct : Value) (osl : Array (Option Value)),
    fd = PySem.W.fnOf x qual (defArgs st) (defBody st) (defScope st) .none kV doc pm an (.ref c) ct ∧ K.lookup f = some ⟨oc, od, .func fd, osl⟩ ∧ PySem.W.codeIn K (.ref c) qual = true
  kp : PySem.W.keepIn K (.ref f) = true
theorem FunC.ok {P : Program} {w : World} {K : PySem.W.Frag} {mg : Str → Option Value} {base : Heap} {x qual : Str} {st : Stmt} {f c : Addr} {fd : FuncData} {N ps : List Str} {k : Nat} {sp : Sp} (F : FunC K x qual st f fd c) (S : FnScope N ps (defScope st)) (len : ∀ vs H Q E, sp vs H Q E → vs.length = ps.length)
    (hbody : ∀ (A : Around) (outer : List Env) (s : Shared) (H : Hp) (vs : List V) (Q : VK) (E : XK), Room k (A.deeper (envOfC qual (defScope st) s.heap.objs.size f (.ref c))) → sp vs H Q E →
      ∃ t, PSs (cxOf CX0 P w K mg base N qual (defScope st) f (.ref c) A outer s H E).nox (defBody st) t ∧ t { nx := fun _ H' => Q .non H', rt := Q } (start N vs) H) : FnOk P w K mg base CX0 (k + 1) f fd ps sp := by
  obtain ⟨oc, od, kV, doc, pm, an, ct, osl, rfl, lk, hcd⟩ := F.ex
  refine fn_of lk hcd S len fun A outer s H vs Q E hr hsp => ?_
  obtain ⟨t, h, q⟩ := hbody A outer s H vs Q E hr hsp
  exact ⟨t, h.nox, q⟩
/-- a def that may be called by its name -/
structure Cal (P : Program) (w : World) (K : PySem.W.Frag) (mg : Str → Option Value) (base : Heap) (k : Nat) (x : Str) (ps : List Str) (sp : Sp) : Prop where
  ex : ∃ f fd, mg x = some (.ref f) ∧ PySem.W.keepIn K (.ref f) = true ∧ Binds K fd ps [] ∧ FnOk P w K mg base CX0 k f fd ps sp
theorem pe_cal {X : Cx} {k : Nat} {x : Str} {ps : List Str} {sp : Sp} {p pos : Pos} {e : Expr} {es : List Expr} {t : TA} (C : Cal X.prog X.w X.K X.mg X.base k x ps sp) (hr : Room k X.A) (hg : Gl X x) (ha : PA X (e :: es) t) (hdb : (x == ("__debug__" : Str)) = false := by decide)
    (he : starEach (e :: es) X.env = (false, eval e X.env) :: starEach es X.env := by rfl) (hpl : (backTo pos (starEach es X.env)).any (·.1) = false := by rfl) : PE X (.Call (.Name x p) (e :: es) [] pos) (tCall sp [] E0 t) := by
  obtain ⟨f, fd, h1, h2, h3, h4⟩ := C.ex
  exact pe_call h4 hr hg h1 h2 h3 .nil pass0 ha hdb he hpl
theorem Cal.mono {P : Program} {w : World} {K : PySem.W.Frag} {mg : Str → Option Value} {base : Heap} {j k : Nat} {x : Str} {ps : List Str} {sp : Sp} (C : Cal P w K mg base j x ps sp) (h : j ≤ k) : Cal P w K mg base k x ps sp := by
  obtain ⟨f, fd, h1, h2, h3, h4⟩ := C.ex
  exact ⟨f, fd, h1, h2, h3, h4.mono h⟩
/-- names that are still the built-in ones, and constants -/
structure Nm (mg : Str → Option Value) : Prop where
  isi : mg "isinstance" = none
  len : mg "len" = none
  all : mg "all" = none
  any : mg "any" = none
  sum : mg "sum" = none
  int : mg "int" = none
  bool : mg "bool" = none
  list : mg "list" = none
  tuple : mg "tuple" = none
  great : ∃ t, mg "GREATEST" = some (.int GREAT t)
  longest : ∃ t, mg "LONGEST" = some (.int 8 t)
/-- the tables of the two defs that hold generator expressions -/
def Tb (P1 P2 : Addr) (H : Hp) : Prop := GxR.TabG H P1 ∧ GxR.TabG H P2
theorem tabG_same {P : Addr} {H H' : Hp} (s : Same H H') (h : GxR.TabG H P) : GxR.TabG H' P := by
  obtain ⟨ps, e, t⟩ := h
  exact ⟨ps, s _ _ e, t⟩
theorem Tb.same {P1 P2 : Addr} {H H' : Hp} (s : Same H H') (h : Tb P1 P2 H) : Tb P1 P2 H' := ⟨tabG_same s h.1, tabG_same s h.2⟩
theorem ex_tabbed {P : Addr} {H H' : Hp} (g : GxR.TabG H P) (t : GxR.Tabbed P H H') : Ex H H' := fun b o e => by
  by_cases hb : b = P
  · subst hb
    obtain ⟨ps, h1, _⟩ := g
    obtain ⟨⟨qs, h2, _⟩, _⟩ := t
    rw [h1] at e
    cases e
    exact .inr ⟨ps, qs, rfl, h2⟩
  · exact .inl (by rw [t.2 b hb]; exact e)
theorem Tb.tab1 {P1 P2 : Addr} {H H' : Hp} (h : Tb P1 P2 H) (t : GxR.Tabbed P1 H H') : Tb P1 P2 H' := ⟨t.1, by
  by_cases hb : P2 = P1
  · rw [hb]; exact t.1
  · obtain ⟨ps, e, q⟩ := h.2
    exact ⟨ps, by rw [t.2 P2 hb]; exact e, q⟩⟩
theorem Tb.tab2 {P1 P2 : Addr} {H H' : Hp} (h : Tb P1 P2 H) (t : GxR.Tabbed P2 H H') : Tb P1 P2 H' := ⟨by
  by_cases hb : P1 = P2
  · rw [hb]; exact t.1
  · obtain ⟨ps, e, q⟩ := h.1
    exact ⟨ps, by rw [t.2 P1 hb]; exact e, q⟩, t.1⟩
def spOne (g : PyData → Bool) : Sp := fun vs H Q _ => ∃ v d, vs = [v] ∧ Rp H v d ∧ ∀ H', Same H H' → Q (.bl (g d)) H'
def spTab (P1 P2 : Addr) (g : PyData → Bool) : Sp := fun vs H Q _ => ∃ v d, vs = [v] ∧ Rp H v d ∧ Tb P1 P2 H ∧ ∀ H', Ex H H' → Tb P1 P2 H' → Q (.bl (g d)) H'
theorem spOne_len {g : PyData → Bool} : ∀ vs H Q E, spOne g vs H Q E → vs.length = 1 := fun vs H Q E ⟨v, d, e, _⟩ => by rw [e]; rfl
theorem spTab_len {P1 P2 : Addr} {g : PyData → Bool} : ∀ vs H Q E, spTab P1 P2 g vs H Q E → vs.length = 1 := fun vs H Q E ⟨v, d, e, _⟩ => by rw [e]; rfl
section
variable {P : Program} {w : World} {K : PySem.W.Frag} {mg : Str → Option Value} {base : Heap}
theorem ok_whole {f : Addr} {fd : FuncData} (F : Fun K "is_whole" "is_whole" sWhole f fd) (T : Nm mg) : FnOk P w K mg base CX0 1 f fd ["thing"] (spOne isWhole) := by
  refine F.ok scWhole spOne_len (fun cdv A outer s H vs Q E hr h => ?_)
  obtain ⟨v, d, rfl, hR, q⟩ := h
  refine ⟨_, pss_one (ps_ret (pe_and (pe_callB call_isi (by rfl) T.isi (by decide +kernel) (pa_cons (pv 0) (pa_cons (pe_bltn (v := .ty "int") (by rfl) T.int PyProof.Rows.boot_int rfl) pa_nil)))
    (pe_one (pe_not (pe_callB call_isi (by rfl) T.isi (by decide +kernel) (pa_cons (pv 0) (pa_cons (pe_bltn (v := .ty "bool") (by rfl) T.bool PyProof.Rows.boot_bool rfl) pa_nil))))))), ?_⟩
  refine ⟨v, rfl, v, .ty "int", _, _, isIntB d, rfl, .ty _, hR.ty, kit_int d, isIntB d, rfl, ite2 (fun e => ?_) (fun e => ?_)⟩
  · refine ⟨v, rfl, v, .ty "bool", _, _, isBoolB d, rfl, .ty _, hR.ty, kit_bool d, isBoolB d, rfl, ?_⟩
    have z : (!isBoolB d) = isWhole d := by cases d <;> first | rfl | (exact absurd e Bool.false_ne_true)
    rw [z]
    exact q H (Same.refl H)
  · have z : isWhole d = false := by cases d <;> first | rfl | (exact absurd rfl e)
    have q' := q H (Same.refl H)
    rw [z] at q'
    exact q'
theorem ok_row {f : Addr} {fd : FuncData} (F : Fun K "is_row" "is_row" sRow f fd) (T : Nm mg) : FnOk P w K mg base CX0 1 f fd ["thing"] (spOne isRow) := by
  refine F.ok scRow spOne_len (fun cdv A outer s H vs Q E hr h => ?_)
  obtain ⟨v, d, rfl, hR, q⟩ := h
  refine ⟨_, pss_one (ps_ret (pe_callB call_isiT (by rfl) T.isi (by decide +kernel) (pa_cons (pv 0) (pa_cons (pe_tup (pa_cons (pe_bltn (v := .ty "list") (by rfl) T.list PyProof.Rows.boot_list rfl) (pa_cons (pe_bltn (v := .ty "tuple") (by rfl) T.tuple PyProof.Rows.boot_tuple rfl) pa_nil))) pa_nil)))), ?_⟩
  refine ⟨v, rfl, by show 2 ≤ sizeLine; decide, fun p np => ⟨v, p, [.ty "list", .ty "tuple"], _, _, isRow d, rfl, upd_same, .cons (.ty _) (.cons (.ty _) .nil), (Rp.ex (Ex.new np) d v hR).ty, kit_rows d, q _ (same_upd np)⟩⟩
theorem ok_pat {f : Addr} {fd : FuncData} (F : Fun K "is_patience" "is_patience" sPat f fd) (T : Nm mg) (CW : Cal P w K mg base 1 "is_whole" ["thing"] (spOne isWhole)) : FnOk P w K mg base CX0 2 f fd ["thing"] (spOne isPatience) := by
  refine F.ok scPat spOne_len (fun cdv A outer s H vs Q E hr h => ?_)
  obtain ⟨v, d, rfl, hR, q⟩ := h
  obtain ⟨tg, hgr⟩ := T.great
  refine ⟨_, pss_one (ps_ret (pe_or (pe_cmp (pc_isN (pv 0)) rfl) (pe_one (pe_and (pe_cal CW hr (by rfl) (pa_cons (pv 0) pa_nil))
    (pe_one (pe_chain op_le op_le pe_int (pv 0) (pe_glob (v := .int GREAT) (by rfl) hgr ⟨_, rfl⟩))))))), ?_⟩
  refine ⟨v, rfl, decide (v = .non), rfl, ite2 (fun e => ?_) (fun e => ?_)⟩
  · have ev : v = .non := of_decide_eq_true e
    subst ev
    cases hR
    exact q H (Same.refl H)
  · have nv : v ≠ .non := fun z => e (decide_eq_true z)
    refine ⟨v, rfl, v, d, rfl, hR, fun H1 s1 => ⟨isWhole d, rfl, ite2 (fun e2 => ?_) (fun e2 => ?_)⟩⟩
    · cases hR with
      | int i =>
        refine ⟨.int i, rfl, 0, i, rfl, rfl, decide (0 ≤ i), rfl, ite2 (fun e3 => ?_) (fun e3 => ?_)⟩
        · refine ⟨i, GREAT, rfl, rfl, ?_⟩
          have q' := q H1 s1
          have z : isPatience (.int i) = decide (i ≤ GREAT) := by
            show (decide (0 ≤ i) && decide (i ≤ GREAT)) = _
            rw [e3, Bool.true_and]
          rw [z] at q'
          exact q'
        · have q' := q H1 s1
          have z : isPatience (.int i) = false := by
            show (decide (0 ≤ i) && decide (i ≤ GREAT)) = _
            rw [Bool.eq_false_iff.mpr e3, Bool.false_and]
          rw [z] at q'
          exact q'
      | _ => exact absurd e2 Bool.false_ne_true
    · have q' := q H1 s1
      have z : isPatience d = false := by
        cases hR with
        | non => exact absurd rfl nv
        | int i => exact absurd rfl e2
        | _ => rfl
      rw [z] at q'
      exact q'
end
end CL
set_option Elab.async false
set_option linter.all false
set_option maxRecDepth 100000
set_option maxHeartbeats 1000000
namespace CL
open PySem PySem.Spec PyProof.Rows L2 GE
theorem all_take {p : PyData → Bool} {ds : List PyData} {i : Nat} {d : PyData} (h : ds[i]? = some d) : (ds.take (i + 1)).all p = ((ds.take i).all p && p d) := by
  rw [List.take_add_one, h, List.all_append]
  simp
theorem any_take {p : PyData → Bool} {ds : List PyData} {i : Nat} {d : PyData} (h : ds[i]? = some d) : (ds.take (i + 1)).any p = ((ds.take i).any p || p d) := by
  rw [List.take_add_one, h, List.any_append]
  simp
theorem all_false {p : PyData → Bool} {ds : List PyData} {i : Nat} {d : PyData} (h : ds[i]? = some d) (e : p d = false) : ds.all p = false := by
  rw [List.all_eq_false]
  exact ⟨d, List.mem_of_getElem? h, by rw [e]; exact Bool.false_ne_true⟩
theorem any_true {p : PyData → Bool} {ds : List PyData} {i : Nat} {d : PyData} (h : ds[i]? = some d) (e : p d = true) : ds.any p = true := by
  rw [List.any_eq_true]
  exact ⟨d, List.mem_of_getElem? h, e⟩
theorem rix_of {K : PySem.W.Frag} {H : Hp} {a : Addr} {xs : List V} {i : Nat} {v : V} {Q : VK} (s : StSeq H a xs) (e : xs[i]? = some v) (q : Q v H) : rIx K (.ref a) (.int (i : Int)) H Q := by
  rcases s.or with h | h
  · exact .inl ⟨a, xs, (i : Int), v, rfl, rfl, SqL.of h, atI_nat e, q⟩
  · exact .inr (.inl ⟨a, xs, (i : Int), v, rfl, rfl, SqT.of h, atI_nat e, q⟩)
theorem name_yes {i : Nat} {x : V} {σ : L2.St} {H : Hp} {A B : L2.St → Hp → Prop} (h : A (σ.set i (some x)) H) : gName i x σ H (fun σ2 H2 => tYes σ2 H2 fun b H3 => if b = true then A σ2 H3 else B σ2 H3) := by
  show if true = true then A (σ.set i (some x)) H else B (σ.set i (some x)) H
  exact iteT h
theorem nd1 {x : Str} : [x].Nodup := by simp
section
variable {P : Program} {w : World} {K : PySem.W.Frag} {mg : Str → Option Value} {base : Heap}
theorem ok_turns {f c P1 P2 : Addr} {fd : FuncData} (F : FunC K "is_turns" "is_turns" sTurns f fd c) (T : Nm mg) (TB : GxR.TabB base mg c P1) (CR : Cal P w K mg base 1 "is_row" ["thing"] (spOne isRow)) (CP : Cal P w K mg base 2 "is_patience" ["thing"] (spOne isPatience)) :
    FnOk P w K mg base CX0 4 f fd ["thing"] (spTab P1 P2 isTurns) := by
  refine F.ok scTurns spTab_len (fun A outer s H vs Q E hr h => ?_)
  obtain ⟨v, d, rfl, hR, hT, q⟩ := h
  obtain ⟨tl, hlo⟩ := T.longest
  refine ⟨_, pss_one (ps_ret (pe_and (pe_cal (CR.mono (by decide)) hr (by rfl) (pa_cons (pv 0) pa_nil))
    (pe_and (pe_chain op_le op_le pe_int (pe_callB call_len_seq (by rfl) T.len PySem.boot_len (pa_cons (pv 0) pa_nil)) (pe_glob (v := .int 8) (by rfl) hlo ⟨_, rfl⟩))
      (pe_one (pe_allG (N := ["patience"]) hr (by rfl) T.all TB rfl (by exact ⟨rfl, rfl, by decide +kernel, rfl⟩) (pi_seq (pv 0))
        (fun A s H C code fp pn rY => pg_name (i := 0) nd1 rfl (.inl rfl) (.inr rfl)) (fun A s H C code fp pn rY => pts_nil)
        (fun A s H C code fp pn rY => pe_cal CP rY (by rfl) (pa_cons (pv 0) pa_nil))))))), ?_⟩
  refine ⟨v, rfl, v, d, rfl, hR, fun H1 s1 => ⟨isRow d, rfl, ite2 (fun e => ?_) (fun e => ?_)⟩⟩
  · obtain ⟨ds, hds⟩ : ∃ ds, rowsD d = some ds := Option.isSome_iff_exists.mp e
    obtain ⟨a, xs, rfl, hA, hso⟩ := (Rp.ex (Ex.of s1) d v hR).rows hds
    have hst : StSeq H1 a xs := ⟨hso⟩
    have hlen := hA.length
    have val : isTurns d = (decide (1 ≤ ds.length) && decide (ds.length ≤ 8) && ds.all isPatience) := by
      unfold isTurns
      rw [hds]
    have hT1 := hT.same s1
    have no : ∀ {H2 : Hp}, Ex H1 H2 → Tb P1 P2 H2 → isTurns d = false → Q (.bl false) H2 := fun {H2} e2 t2 z => by
      have q' := q H2 ((Ex.of s1).trans e2) t2
      rw [z] at q'
      exact q'
    refine ⟨.ref a, rfl, a, xs, rfl, hst.sq, 1, xs.length, rfl, rfl, decide ((1 : Int) ≤ xs.length), rfl, ite2 (fun e1 => ?_) (fun e1 => ?_)⟩
    · refine ⟨xs.length, 8, rfl, rfl, decide ((xs.length : Int) ≤ 8), rfl, ite2 (fun e2 => ?_) (fun e2 => ?_)⟩
      · have l1 : 1 ≤ ds.length := by have := of_decide_eq_true e1; omega
        have l2 : ds.length ≤ 8 := by have := of_decide_eq_true e2; omega
        refine ⟨.ref a, rfl, a, xs, rfl, hst, fun J hJ => ⟨hT1.1, fun H2 tb => ⟨_, ⟨xs.length, rfl, Nat.zero_le _, ex_tabbed hT1.1 tb, hT1.tab1 tb, rfl⟩, turn_by (xs := xs) (fun _ i H => Ex H1 H ∧ Tb P1 P2 H ∧ (ds.take i).all isPatience = true)
          (fun _ i H ⟨eH, _, _⟩ => hJ H eH) (fun _ i x H hx ⟨eH, tH, aH⟩ => ?_) (fun _ H ⟨eH, tH, aH⟩ => ?_)⟩⟩⟩
        · obtain ⟨dx, hdx, hRx⟩ := hA.get hx
          refine name_yes ?_
          refine ⟨x, rfl, x, dx, rfl, Rp.ex eH dx x hRx, fun H4 s4 => ⟨isPatience dx, rfl, ite2 (fun e4 => ?_) (fun e4 => ?_)⟩⟩
          · exact ⟨eH.trans (Ex.of s4), tH.same s4, by rw [all_take hdx, aH, e4]; rfl⟩
          · refine no (eH.trans (Ex.of s4)) (tH.same s4) ?_
            rw [val, all_false hdx (Bool.eq_false_iff.mpr e4), Bool.and_false]
        · have q' := q H ((Ex.of s1).trans eH) tH
          rw [hlen, List.take_length] at aH
          rw [val, aH, decide_eq_true l1, decide_eq_true l2] at q'
          exact q'
      · refine no (Ex.refl H1) hT1 ?_
        have l2 : ¬ ds.length ≤ 8 := fun z => e2 (decide_eq_true (by omega))
        rw [val, decide_eq_false l2, Bool.and_false, Bool.false_and]
    · refine ⟨false, rfl, iteF (no (Ex.refl H1) hT1 ?_)⟩
      have l1 : ¬ 1 ≤ ds.length := fun z => e1 (decide_eq_true (by omega))
      rw [val, decide_eq_false l1, Bool.false_and, Bool.false_and]
  · have z : isTurns d = false := by
      unfold isTurns
      cases hds : rowsD d with
      | none => rfl
      | some ds => exact absurd (by unfold isRow; rw [hds]; rfl) e
    have q' := q H1 (Ex.of s1) (hT.same s1)
    rw [z] at q'
    exact q'
theorem two_of {α : Type} {xs : List α} (h : xs.length = 2) : ∃ x y, xs = [x, y] := match xs, h with
  | [x, y], _ => ⟨x, y, rfl⟩
theorem isPiece_two {d t m : PyData} (h : rowsD d = some [t, m]) : isPiece d = (isTurns t && isMany m) := by
  unfold isPiece
  rw [h]
theorem isPiece_not {d : PyData} {ds : List PyData} (h : rowsD d = some ds) (n : ds.length ≠ 2) : isPiece d = false := by
  unfold isPiece
  rw [h]
  match ds, n with
  | [], _ => rfl
  | [_], _ => rfl
  | [_, _], n => exact absurd rfl n
  | _ :: _ :: _ :: _, _ => rfl
theorem ok_piece {f P1 P2 : Addr} {fd : FuncData} (F : Fun K "is_piece" "is_piece" sPiece f fd) (T : Nm mg) (CW : Cal P w K mg base 1 "is_whole" ["thing"] (spOne isWhole)) (CR : Cal P w K mg base 1 "is_row" ["thing"] (spOne isRow)) (CT : Cal P w K mg base 4 "is_turns" ["thing"] (spTab P1 P2 isTurns)) :
    FnOk P w K mg base CX0 5 f fd ["thing"] (spTab P1 P2 isPiece) := by
  refine F.ok scPiece spTab_len (fun cdv A outer s H vs Q E hr h => ?_)
  obtain ⟨v, d, rfl, hR, hT, q⟩ := h
  refine ⟨_, pss_cons (ps_if (PW.pt (pw_or (pt_not (pt_val (pe_cal (CR.mono (by decide)) hr (by rfl) (pa_cons (pv 0) pa_nil))))
      (pw_or (pt_cmpR op_ne (pe_callB call_len_seq (by rfl) T.len PySem.boot_len (pa_cons (pv 0) pa_nil)) pe_int (nomark _))
        (pw_or1 (pt_not (pt_val (pe_cal CT hr (by rfl) (pa_cons (pe_ix ix_seq (pv 0) pe_int (fun _ _ => rfl)) pa_nil)))))))) (pss_one (ps_ret pe_bl)) pss_nil)
    (pss_one (ps_ret (pe_or (pe_cmp (pc_isN (pe_ix ix_seq (pv 0) pe_int (fun _ _ => rfl))) rfl)
      (pe_one (pe_and (pe_cal (CW.mono (by decide)) hr (by rfl) (pa_cons (pe_ix ix_seq (pv 0) pe_int (fun _ _ => rfl)) pa_nil)) (pe_one (pe_cmpR op_ge (pe_ix ix_seq (pv 0) pe_int (fun _ _ => rfl)) pe_int (nomark _)))))))), ?_⟩
  refine ⟨v, rfl, v, d, rfl, hR, fun H1 s1 => ⟨isRow d, rfl, ?_⟩⟩
  have hT1 := hT.same s1
  have at_ : ∀ {H2 : Hp} {b : Bool}, Ex H1 H2 → Tb P1 P2 H2 → isPiece d = b → Q (.bl b) H2 := fun {H2 b} e2 t2 z => by
    have q' := q H2 ((Ex.of s1).trans e2) t2
    rw [z] at q'
    exact q'
  cases hds : rowsD d with
  | none =>
    have e0 : isRow d = false := by unfold isRow; rw [hds]; rfl
    rw [e0]
    exact iteT (iteT (at_ (Ex.refl H1) hT1 (by unfold isPiece; rw [hds])))
  | some ds =>
    have e0 : isRow d = true := by unfold isRow; rw [hds]; rfl
    rw [e0]
    obtain ⟨a, xs, rfl, hA, hso⟩ := (Rp.ex (Ex.of s1) d v hR).rows hds
    have hst : StSeq H1 a xs := ⟨hso⟩
    have hlen := hA.length
    refine iteF ⟨.ref a, rfl, a, xs, rfl, hst.sq, rfl, _, rfl, ?_⟩
    by_cases h2 : ds.length = 2
    · have e1 : decide (V.int (xs.length : Int) = V.int 2) = true := decide_eq_true (by rw [hlen, h2]; rfl)
      refine ite2 (fun z => absurd z (by rw [e1]; exact Bool.false_ne_true)) (fun _ => ?_)
      obtain ⟨t, m, rfl⟩ := two_of h2
      obtain ⟨vt, vm, rfl⟩ := two_of (hlen.trans h2)
      cases hA with
      | cons ht hA2 =>
        cases hA2 with
        | cons hm _ =>
          refine ⟨.ref a, rfl, rix_of (i := 0) hst rfl ⟨vt, t, rfl, ht, hT1, fun H2 e2 t2 => ⟨isTurns t, rfl, ?_⟩⟩⟩
          have val := isPiece_two hds
          cases ht2 : isTurns t with
          | false => exact iteT (at_ e2 t2 (by rw [val, ht2]; rfl))
          | true =>
            refine iteF ⟨.ref a, rfl, rix_of (i := 1) (hst.ex e2) rfl ⟨decide (vm = .non), rfl, ite2 (fun e3 => ?_) (fun e3 => ?_)⟩⟩
            · have ev : vm = .non := of_decide_eq_true e3
              subst ev
              cases hm
              exact at_ e2 t2 (by rw [val, ht2]; rfl)
            · have nv : vm ≠ .non := fun z => e3 (decide_eq_true z)
              refine ⟨.ref a, rfl, rix_of (i := 1) (hst.ex e2) rfl ⟨vm, m, rfl, Rp.ex e2 m vm hm, fun H3 s3 => ⟨isWhole m, rfl, ite2 (fun e4 => ?_) (fun e4 => ?_)⟩⟩⟩
              · cases hm with
                | int i =>
                  refine ⟨.ref a, rfl, rix_of (i := 1) ((hst.ex e2).ex (Ex.of s3)) rfl ⟨i, 0, rfl, rfl, at_ (e2.trans (Ex.of s3)) (t2.same s3) ?_⟩⟩
                  rw [val, ht2]
                  rfl
                | _ => exact absurd e4 Bool.false_ne_true
              · refine at_ (e2.trans (Ex.of s3)) (t2.same s3) ?_
                rw [val, ht2]
                cases hm with
                | non => exact absurd rfl nv
                | int i => exact absurd rfl e4
                | _ => rfl
    · have e1 : decide (V.int (xs.length : Int) = V.int 2) = false := decide_eq_false fun z => h2 (by have := V.int.inj z; omega)
      refine ite2 (fun _ => iteT (at_ (Ex.refl H1) hT1 (isPiece_not hds h2))) (fun z => absurd (by rw [e1]; rfl) z)
end
end CL
set_option Elab.async false
set_option linter.all false
set_option maxRecDepth 100000
set_option maxHeartbeats 2000000
namespace CL
open PySem PySem.Spec PyProof.Rows L2 GE
theorem piece_parts {d : PyData} (h : isPiece d = true) : ∃ t m, rowsD d = some [t, m] ∧ isTurns t = true ∧ isMany m = true := by
  unfold isPiece at h
  split at h
  · rename_i t m e
    rw [Bool.and_eq_true] at h
    exact ⟨t, m, e, h.1, h.2⟩
  · cases h
theorem sndD_two {d t m : PyData} (h : rowsD d = some [t, m]) : sndD d = m := by
  unfold sndD
  rw [h]
theorem rp_none {H : Hp} {v : V} {m : PyData} (h : Rp H v m) : decide (v = .non) = isNone m := by
  cases h <;> first | rfl | exact decide_eq_false nofun
theorem all_get {p : PyData → Bool} {ds : List PyData} {i : Nat} {d : PyData} (h : ds.all p = true) (e : ds[i]? = some d) : p d = true := List.all_eq_true.mp h d (List.mem_of_getElem? e)
theorem sum_step {ds : List PyData} {i : Nat} {d : PyData} (h : ds[i]? = some d) : sumSnd (ds.take (i + 1)) = sumSnd (ds.take i) + worth (sndD d) := by
  unfold sumSnd
  rw [List.take_add_one, h, List.map_append, List.sum_append]
  simp
theorem cut_last (xs : List V) : cutV xs none (some (-1)) = xs.take (xs.length - 1) := by
  unfold cutV
  have e0 : HT.sIx xs.length 0 none = 0 := rfl
  have e1 : HT.sIx xs.length xs.length (some (-1)) = xs.length - 1 := by
    show (if (-1 : Int) < 0 then ((-1 : Int) + (xs.length : Int)).toNat else min (-1 : Int).toNat xs.length) = _
    rw [if_pos (by decide)]
    omega
  rw [e0, e1, List.drop_zero, Nat.sub_zero]
theorem ix_gx {X : Cx} {A : Around} {N : List Str} {s : Shared} {H : Hp} {cenv : Env} {fp : List Addr} {pn : List (Addr × Obj)} : IxR (gx X A N s H cenv fp pn) (rIx X.K) := ix_seq
/-- the second of a piece that stands -/
theorem piece_at {H : Hp} {x : V} {d : PyData} (hp : isPiece d = true) (hR : Rp H x d) : ∃ b vt vm m, x = .ref b ∧ StSeq H b [vt, vm] ∧ Rp H vm m ∧ sndD d = m ∧ isMany m = true := by
  obtain ⟨t, m, e, _, hm⟩ := piece_parts hp
  obtain ⟨b, ys, rfl, hA, hso⟩ := hR.rows e
  obtain ⟨vt, vm, rfl⟩ := two_of hA.length
  cases hA with
  | cons h1 h2 =>
    cases h2 with
    | cons h3 _ => exact ⟨b, vt, vm, m, rfl, ⟨hso⟩, h3, sndD_two e, hm⟩
section
variable {P : Program} {w : World} {K : PySem.W.Frag} {mg : Str → Option Value} {base : Heap}
theorem ok_plan {f c P1 P2 : Addr} {fd : FuncData} (F : FunC K "is_plan" "is_plan" sPlan f fd c) (T : Nm mg) (TB : GxR.TabB base mg c P2) (CR : Cal P w K mg base 1 "is_row" ["thing"] (spOne isRow)) (CP : Cal P w K mg base 5 "is_piece" ["thing"] (spTab P1 P2 isPiece)) :
    FnOk P w K mg base CX0 7 f fd ["thing"] (spTab P1 P2 isPlan) := by
  refine F.ok scPlan spTab_len (fun A outer s H vs Q E hr h => ?_)
  obtain ⟨v, d, rfl, hR, hT, q⟩ := h
  obtain ⟨tl, hlo⟩ := T.longest
  obtain ⟨tg, hgr⟩ := T.great
  refine ⟨_, pss_cons (ps_if (PW.pt (pw_or (pt_not (pt_val (pe_cal (CR.mono (by decide)) hr (by rfl) (pa_cons (pv 0) pa_nil))))
      (pw_or1 (pt_not (pt_chain op_le op_le pe_int (pe_callB call_len_seq (by rfl) T.len PySem.boot_len (pa_cons (pv 0) pa_nil)) (pe_glob (v := .int 8) (by rfl) hlo ⟨_, rfl⟩)))))) (pss_one (ps_ret pe_bl)) pss_nil)
    (pss_cons (ps_if (pt_not (pt_val (pe_allG (N := ["piece"]) hr (by rfl) T.all TB rfl (by exact ⟨rfl, rfl, by decide +kernel, rfl⟩) (pi_seq (pv 0))
        (fun A s H C code fp pn rY => pg_name (i := 0) nd1 rfl (.inl rfl) (.inr rfl)) (fun A s H C code fp pn rY => pts_nil)
        (fun A s H C code fp pn rY => pe_cal CP rY (by rfl) (pa_cons (pv 0) pa_nil))))) (pss_one (ps_ret pe_bl)) pss_nil)
    (pss_cons (ps_if (pt_val (pe_anyG (N := ["piece"]) hr (by rfl) T.any TB rfl (by exact ⟨rfl, rfl, by decide +kernel, rfl⟩) (pi_seq (pe_slice (SlR.or sl_list sl_tup) (pv 0) po_none (po_some (pe_un un_neg pe_int))))
        (fun A s H C code fp pn rY => pg_name (i := 0) nd1 rfl (.inl rfl) (.inr rfl)) (fun A s H C code fp pn rY => pts_nil)
        (fun A s H C code fp pn rY => pe_cmp (pc_isN (pe_ix ix_gx (pv 0) pe_int (fun _ _ => rfl))) rfl))) (pss_one (ps_ret pe_bl)) pss_nil)
    (pss_one (ps_ret (pe_cmpR op_le (pe_sumG (N := ["piece"]) hr (by rfl) T.sum TB rfl (by exact ⟨rfl, rfl, by decide +kernel, rfl⟩) (pi_seq (pv 0))
        (fun A s H C code fp pn rY => pg_name (i := 0) nd1 rfl (.inl rfl) (.inr rfl)) (fun A s H C code fp pn rY => pts_one (pt_cmp (pc_notN (pe_ix ix_gx (pv 0) pe_int (fun _ _ => rfl)))))
        (fun A s H C code fp pn rY => pe_ix ix_gx (pv 0) pe_int (fun _ _ => rfl))) (pe_glob (v := .int GREAT) (by rfl) hgr ⟨_, rfl⟩) (nomark _)))))), ?_⟩
  refine ⟨v, rfl, v, d, rfl, hR, fun H1 s1 => ⟨isRow d, rfl, ?_⟩⟩
  have hT1 := hT.same s1
  have at_ : ∀ {H2 : Hp} {b : Bool}, Ex H1 H2 → Tb P1 P2 H2 → isPlan d = b → Q (.bl b) H2 := fun {H2 b} e2 t2 z => by
    have q' := q H2 ((Ex.of s1).trans e2) t2
    rw [z] at q'
    exact q'
  cases hds : rowsD d with
  | none =>
    have e0 : isRow d = false := by unfold isRow; rw [hds]; rfl
    rw [e0]
    exact iteT (iteT (at_ (Ex.refl H1) hT1 (by unfold isPlan; rw [hds])))
  | some ds =>
    have e0 : isRow d = true := by unfold isRow; rw [hds]; rfl
    rw [e0]
    obtain ⟨a, xs, rfl, hA, hso⟩ := (Rp.ex (Ex.of s1) d v hR).rows hds
    have hst : StSeq H1 a xs := ⟨hso⟩
    have hlen := hA.length
    have val : isPlan d = (decide (1 ≤ ds.length) && decide (ds.length ≤ 8) && ds.all isPiece && !((ds.take (ds.length - 1)).any fun d => isNone (sndD d)) && decide (sumSnd ds ≤ GREAT)) := by
      unfold isPlan
      rw [hds]
      rfl
    refine iteF ⟨.ref a, rfl, a, xs, rfl, hst.sq, 1, xs.length, rfl, rfl, decide ((1 : Int) ≤ xs.length), rfl, ite2 (fun e1 => ?_) (fun e1 => ?_)⟩
    · have l1 : 1 ≤ ds.length := by have := of_decide_eq_true e1; omega
      refine ⟨xs.length, 8, rfl, rfl, decide ((xs.length : Int) ≤ 8), rfl, ?_⟩
      by_cases l2 : ds.length ≤ 8
      · have e2 : decide ((xs.length : Int) ≤ 8) = true := decide_eq_true (by omega)
        rw [e2]
        refine iteF ?_
        -- all
        refine ⟨.ref a, rfl, a, xs, rfl, hst, fun J hJ => ⟨hT1.2, fun H2 tb => ⟨_, ⟨xs.length, rfl, Nat.zero_le _, ex_tabbed hT1.2 tb, hT1.tab2 tb, rfl⟩, turn_by (xs := xs) (fun _ i H => Ex H1 H ∧ Tb P1 P2 H ∧ (ds.take i).all isPiece = true)
          (fun _ i H ⟨eH, _, _⟩ => hJ H eH) (fun _ i x H hx ⟨eH, tH, aH⟩ => ?_) (fun _ H ⟨eH, tH, pH⟩ => ?_)⟩⟩⟩
        · obtain ⟨dx, hdx, hRx⟩ := hA.get hx
          refine name_yes ?_
          refine ⟨x, rfl, x, dx, rfl, Rp.ex eH dx x hRx, tH, fun H4 e4 t4 => ⟨isPiece dx, rfl, ite2 (fun e5 => ?_) (fun e5 => ?_)⟩⟩
          · exact ⟨eH.trans e4, t4, by rw [all_take hdx, aH, e5]; rfl⟩
          · refine ⟨false, rfl, iteT (at_ (eH.trans e4) t4 ?_)⟩
            rw [val, all_false hdx (Bool.eq_false_iff.mpr e5), Bool.and_false, Bool.false_and, Bool.false_and]
        · rw [hlen, List.take_length] at pH
          refine ⟨true, rfl, iteF ?_⟩
          have hA' : RpAll H1 (xs.take (xs.length - 1)) (ds.take (ds.length - 1)) := by
            have z := hA.take (xs.length - 1)
            rw [show ds.take (xs.length - 1) = ds.take (ds.length - 1) by rw [hlen]] at z
            exact z
          have hp' : (ds.take (ds.length - 1)).all isPiece = true := by
            rw [List.all_eq_true]
            intro y hy
            exact List.all_eq_true.mp pH y (List.mem_of_mem_take hy)
          have hl' : (xs.take (xs.length - 1)).length = (ds.take (ds.length - 1)).length := hA'.length
          -- the walk, wherever the cut stands
          have walk : ∀ (p : Addr) (H3 : Hp), StSeq H3 p (xs.take (xs.length - 1)) → Ex H1 H3 → Tb P1 P2 H3 → ∀ QB : Bool → Hp → Prop,
              (∀ H', Ex H1 H' → Tb P1 P2 H' → QB ((ds.take (ds.length - 1)).any fun d => isNone (sndD d)) H') →
              ∀ J, (∀ H2, Ex H3 H2 → StandsAs K p (xs.take (xs.length - 1)) J H2) → GxR.TabG H3 P2 ∧ ∀ H2, GxR.Tabbed P2 H3 H2 →
                ∃ W : Unit → Nat → Nat → Hp → Prop, (∃ m, W () 0 m H2) ∧ TurnOf J 1 (gName 0) tYes (tIsN (tOp (rIx K) (tVar 0) (tC (.int 1)))) (outAny QB) (fun _ H => QB false H) W := by
            intro p H3 st3 e3 t3 QB hQB J hJ
            refine ⟨t3.2, fun H2 tb => ⟨_, ⟨(xs.take (xs.length - 1)).length, rfl, Nat.zero_le _, ex_tabbed t3.2 tb, t3.tab2 tb, rfl⟩, turn_by (xs := xs.take (xs.length - 1)) (fun _ i H => Ex H3 H ∧ Tb P1 P2 H ∧ ((ds.take (ds.length - 1)).take i).any (fun d => isNone (sndD d)) = false)
              (fun _ i H ⟨eH, _, _⟩ => hJ H eH) (fun _ i x H hx ⟨eH, tH, aH⟩ => ?_) (fun _ H ⟨eH, tH, aH⟩ => ?_)⟩⟩
            · obtain ⟨dx, hdx, hRx⟩ := hA'.get hx
              obtain ⟨b, vt, vm, m, rfl, stb, hRm, hsn, _⟩ := piece_at (all_get hp' hdx) (Rp.ex (e3.trans eH) dx x hRx)
              refine name_yes ?_
              refine ⟨.ref b, rfl, rix_of (i := 1) stb rfl ⟨decide (vm = .non), rfl, ite2 (fun e5 => ?_) (fun e5 => ?_)⟩⟩
              · have z := hQB H (e3.trans eH) tH
                rw [any_true (p := fun d => isNone (sndD d)) hdx (by rw [hsn, ← rp_none hRm]; exact e5)] at z
                exact z
              · refine ⟨eH, tH, ?_⟩
                rw [any_take hdx, aH, hsn, ← rp_none hRm, Bool.eq_false_iff.mpr e5]
                rfl
            · rw [hl', List.take_length] at aH
              have z := hQB H (e3.trans eH) tH
              rw [aH] at z
              exact z
          -- the sum
          have sums : ∀ (H3 : Hp), Ex H1 H3 → Tb P1 P2 H3 → ∀ QI : Int → Hp → Prop, (∀ H', Ex H1 H' → Tb P1 P2 H' → QI (sumSnd ds) H') →
              ∀ J, (∀ H2, Ex H3 H2 → StandsAs K a xs J H2) → GxR.TabG H3 P2 ∧ ∀ H2, GxR.Tabbed P2 H3 H2 →
                ∃ W : Int → Nat → Nat → Hp → Prop, (∃ m, W 0 0 m H2) ∧ TurnOf J 1 (gName 0) (tB (tNotN (tOp (rIx K) (tVar 0) (tC (.int 1))))) (tOp (rIx K) (tVar 0) (tC (.int 1))) outSum (fun a H => QI a H) W := by
            intro H3 e3 t3 QI hQI J hJ
            refine ⟨t3.2, fun H2 tb => ⟨_, ⟨xs.length, rfl, Nat.zero_le _, ex_tabbed t3.2 tb, t3.tab2 tb, rfl⟩, turn_by (xs := xs) (fun z i H => Ex H3 H ∧ Tb P1 P2 H ∧ z = sumSnd (ds.take i))
              (fun _ i H ⟨eH, _, _⟩ => hJ H eH) (fun z i x H hx ⟨eH, tH, aH⟩ => ?_) (fun z H ⟨eH, tH, zH⟩ => ?_)⟩⟩
            · obtain ⟨dx, hdx, hRx⟩ := hA.get hx
              obtain ⟨b, vt, vm, m, rfl, stb, hRm, hsn, hmm⟩ := piece_at (all_get pH hdx) (Rp.ex (e3.trans eH) dx x hRx)
              refine ⟨.ref b, rfl, rix_of (i := 1) stb rfl ⟨!decide (vm = .non), rfl, ite2 (fun e5 => ?_) (fun e5 => ?_)⟩⟩
              · refine ⟨.ref b, rfl, rix_of (i := 1) stb rfl ?_⟩
                cases hRm with
                | int j => exact ⟨j, rfl, eH, tH, by rw [sum_step hdx, hsn, aH]; rfl⟩
                | non => exact absurd e5 (by decide)
                | _ => cases hmm
              · refine ⟨eH, tH, ?_⟩
                rw [sum_step hdx, hsn, aH]
                cases hRm with
                | non => exact (Int.add_zero _).symm
                | _ => exact absurd rfl e5
            · rw [hlen, List.take_length] at zH
              subst zH
              exact hQI H (e3.trans eH) tH
          have hst2 := hst.ex eH
          have fin : ∀ (H' : Hp), Ex H1 H' → Tb P1 P2 H' → ((ds.take (ds.length - 1)).any fun d => isNone (sndD d)) = false → isPlan d = decide (sumSnd ds ≤ GREAT) := fun H' _ _ z => by
            rw [val, decide_eq_true l1, decide_eq_true l2, pH, z]
            rfl
          have bad : ∀ (H' : Hp), Ex H1 H' → Tb P1 P2 H' → ((ds.take (ds.length - 1)).any fun d => isNone (sndD d)) = true → Q (.bl false) H' := fun H' e' t' z => at_ e' t' (by
            rw [val, z]
            simp)
          refine ⟨.ref a, rfl, 1, rfl, -1, rfl, ?_⟩
          rcases hst2.or with hq | hq
          · refine .inl ⟨a, xs, rfl, SqL.of hq, fun p np => ?_⟩
            have st3 : StSeq (upd H p (.lst (cutV xs none (some (-1))))) p (xs.take (xs.length - 1)) := ⟨.inl (by rw [upd_same, cut_last])⟩
            refine ⟨p, _, rfl, st3, walk p _ st3 (eH.trans (Ex.new np)) (tH.same (same_upd np)) _ fun H' e' t' => ?_⟩
            refine ⟨_, rfl, ite2 (fun e5 => bad H' e' t' e5) (fun e5 => ?_)⟩
            refine ⟨.ref a, rfl, a, xs, rfl, hst.ex e', sums H' e' t' _ fun H'' e'' t'' => ⟨sumSnd ds, GREAT, rfl, rfl, at_ e'' t'' (fin H'' e'' t'' (Bool.eq_false_iff.mpr e5))⟩⟩
          · refine .inr ⟨a, xs, rfl, SqT.of hq, ?_, fun p np => ?_⟩
            · intro z
              have z2 : HT.sIx xs.length xs.length (some (-1)) = xs.length - 1 := by
                show (if (-1 : Int) < 0 then ((-1 : Int) + (xs.length : Int)).toNat else min (-1 : Int).toNat xs.length) = _
                rw [if_pos (by decide)]
                omega
              have z3 := z.2
              rw [z2] at z3
              omega
            have st3 : StSeq (upd H p (.tup (cutV xs none (some (-1))))) p (xs.take (xs.length - 1)) := ⟨.inr (by rw [upd_same, cut_last])⟩
            refine ⟨p, _, rfl, st3, walk p _ st3 (eH.trans (Ex.new np)) (tH.same (same_upd np)) _ fun H' e' t' => ?_⟩
            refine ⟨_, rfl, ite2 (fun e5 => bad H' e' t' e5) (fun e5 => ?_)⟩
            refine ⟨.ref a, rfl, a, xs, rfl, hst.ex e', sums H' e' t' _ fun H'' e'' t'' => ⟨sumSnd ds, GREAT, rfl, rfl, at_ e'' t'' (fin H'' e'' t'' (Bool.eq_false_iff.mpr e5))⟩⟩
      · have e2 : decide ((xs.length : Int) ≤ 8) = false := decide_eq_false (by omega)
        rw [e2]
        refine iteT (at_ (Ex.refl H1) hT1 ?_)
        rw [val, decide_eq_false l2, Bool.and_false, Bool.false_and, Bool.false_and, Bool.false_and]
    · have l1 : ¬ 1 ≤ ds.length := fun z => e1 (decide_eq_true (by omega))
      refine ⟨false, rfl, iteT (at_ (Ex.refl H1) hT1 ?_)⟩
      rw [val, decide_eq_false l1, Bool.false_and, Bool.false_and, Bool.false_and, Bool.false_and]
end
end CL
set_option Elab.async false
set_option linter.all false
set_option maxRecDepth 100000
set_option maxHeartbeats 4000000
namespace CL
open PySem PySem.Spec PyProof.Rows L2 GE
theorem p18 : (10 : Int) ^ (18 : Int).toNat = 1000000000000000000 := by decide +kernel
theorem p30 : (10 : Int) ^ (30 : Int).toNat = GREAT := by decide +kernel
theorem same_ne {H H' : Hp} (s : Same H H') {p b : Addr} (np : H' p = none) (hb : H b ≠ none) : b ≠ p := fun z => by
  rw [z] at hb
  cases q : H p with
  | none => exact hb q
  | some o =>
    rw [s p o q] at np
    cases np
theorem ints_dp {K : PySem.W.Frag} {H : Hp} : ∀ gs : List Int, DpAll K H (gs.map V.int) (gs.map PyData.int)
  | [] => .nil
  | x :: gs => .cons (.int x) (ints_dp gs)
theorem ints_lay : ∀ gs : List Int, PyData.canLayAll0 (gs.map PyData.int) = true
  | [] => by simp [PyData.canLayAll0]
  | x :: gs => by
    have := ints_lay gs
    simp [PyData.canLayAll0, PyData.canLay0, this]
theorem ints_depth : ∀ gs : List Int, PyData.depthAll (gs.map PyData.int) = 0
  | [] => rfl
  | x :: gs => by
    have := ints_depth gs
    show max 0 (PyData.depthAll (gs.map PyData.int)) = 0
    rw [this]
    rfl
theorem ints_shaped (gs : List Int) : SeqAt.shaped (.list (gs.map PyData.int)) = true := by
  unfold SeqAt.shaped
  have h1 : PyData.canLay0 (.list (gs.map PyData.int)) = true := by
    have := ints_lay gs
    simp [PyData.canLay0, this]
  have h2 : PyData.depth (.list (gs.map PyData.int)) = 1 := by
    show PyData.depthAll (gs.map PyData.int) + 1 = 1
    rw [ints_depth]
  rw [h1, h2]
  rfl
theorem ints_take (gs : List Int) (k : Nat) : (gs.map V.int).take k = (gs.take k).map V.int := List.map_take.symm
theorem cut_to (xs : List V) (k : Nat) : cutV xs none (some (k : Int)) = xs.take k := by
  unfold cutV
  have e0 : HT.sIx xs.length 0 none = 0 := rfl
  have e1 : HT.sIx xs.length xs.length (some (k : Int)) = min k xs.length := HT.sIx_nat _ _ _
  rw [e0, e1, List.drop_zero, Nat.sub_zero]
  rcases Nat.le_total k xs.length with h | h
  · rw [Nat.min_eq_left h]
  · rw [Nat.min_eq_right h, List.take_of_length_le h, List.take_of_length_le (Nat.le_refl _)]
theorem cut_from (xs : List V) (k : Nat) : cutV xs (some (k : Int)) none = xs.drop k := by
  unfold cutV
  have e0 : HT.sIx xs.length 0 (some (k : Int)) = min k xs.length := HT.sIx_nat _ _ _
  have e1 : HT.sIx xs.length xs.length none = xs.length := rfl
  rw [e0, e1]
  rcases Nat.le_total k xs.length with h | h
  · rw [Nat.min_eq_left h]
    exact List.take_of_length_le (by rw [List.length_drop]; exact Nat.le_refl _)
  · rw [Nat.min_eq_right h, List.drop_of_length_le (Nat.le_refl _), List.drop_of_length_le h]
    simp
theorem small_add {a b : Nat} (ha : a ≤ 1000) (hb : b ≤ 1000) : a + b ≤ sizeLine := by
  have : 2000 ≤ sizeLine := by decide
  omega
theorem small_le {a : Nat} (ha : a ≤ 1000) : a ≤ sizeLine := by
  have : 1000 ≤ sizeLine := by decide
  omega
theorem yesT {σ : L2.St} {H : Hp} {A B : Hp → Prop} (h : A H) : tYes σ H (fun b H3 => if b = true then A H3 else B H3) := by
  show if true = true then A H else B H
  exact iteT h
open Classical in
noncomputable def Hw (W : Addr → Prop) (H : Hp) : Hp := fun b => if W b then none else H b
theorem Hw.at {W : Addr → Prop} {H : Hp} {b : Addr} (n : ¬ W b) : Hw W H b = H b := by
  unfold Hw
  rw [if_neg n]
theorem Hw.ne {W : Addr → Prop} {H : Hp} {b : Addr} {o : HO} (e : Hw W H b = some o) : ¬ W b := fun z => by
  unfold Hw at e
  rw [if_pos z] at e
  cases e
theorem Hw.sub (W : Addr → Prop) (H : Hp) : Same (Hw W H) H := fun b o e => by rw [Hw.at (Hw.ne e)] at e; exact e
theorem Hw.less {W W' : Addr → Prop} {H : Hp} (h : ∀ b, W b → W' b) : Same (Hw W' H) (Hw W H) := fun b o e => by
  rw [Hw.at fun z => Hw.ne e (h b z)]
  exact Hw.sub W' H b o e
theorem Hw.more {W W' : Addr → Prop} {H : Hp} (h : ∀ b, W' b → W b ∨ H b = none) : Same (Hw W H) (Hw W' H) := fun b o e => by
  have e1 := Hw.sub W H b o e
  rw [Hw.at fun z => (h b z).elim (Hw.ne e) fun q => by rw [q] at e1; cases e1]
  exact e1
theorem hw_upd {W : Addr → Prop} {a : Addr} {H : Hp} {o : HO} (h : W a) : Hw W (upd H a o) = Hw W H := by
  funext b
  by_cases hb : W b
  · unfold Hw
    rw [if_pos hb, if_pos hb]
  · rw [Hw.at hb, Hw.at hb, upd_ne fun z => hb (by rw [z]; exact h)]
theorem Same.hw {W : Addr → Prop} {H H' : Hp} (m : Same H H') : Same (Hw W H) (Hw W H') := fun b o e => by
  rw [Hw.at (Hw.ne e)]
  exact m b o (Hw.sub W H b o e)
theorem Rp.sm {H H' : Hp} (s : Same H H') {v : V} {d : PyData} (h : Rp H v d) : Rp H' v d := Rp.ex (Ex.of s) d v h
theorem RpAll.sm {H H' : Hp} (s : Same H H') {vs : List V} {ds : List PyData} (h : RpAll H vs ds) : RpAll H' vs ds := RpAll.ex (Ex.of s) ds vs h
theorem RpAll.snoc {H : Hp} : ∀ {vs : List V} {ds : List PyData} {v : V} {d : PyData}, RpAll H vs ds → Rp H v d → RpAll H (vs ++ [v]) (ds ++ [d])
  | _, _, _, _, .nil, h => .cons h .nil
  | _, _, _, _, .cons a b, h => .cons a (RpAll.snoc b h)
end CL
set_option Elab.async false
set_option linter.all false
set_option maxRecDepth 100000
set_option maxHeartbeats 4000000
namespace CL
open PySem PySem.Spec PyProof.Rows L2 GE
/-! ### a, b = a list or a tuple -/
def gSeq (K : PySem.W.Frag) (n : Nat) (t : TGs) : TG := fun v σ H Q => ∃ a xs, v = .ref a ∧ StSeq H a xs ∧ xs.length = n ∧ t xs σ H Q
theorem pg_seq {X : Cx} {pos : Pos} {es : List Expr} {k : Nat} {t : TGs} {n : Nat} (hc : X.calm = true) (h : PGs X es t) (hn : (assignEach es X.env).length = n := by rfl) (hst : (assignEach es X.env).findIdx? (·.1) = none := by rfl) :
    PG X (.Tuple es k pos) (gSeq X.K n t) := by
  refine ⟨fun pins s σ H v u Q I r hw => ?_⟩
  obtain ⟨a, xs, e, hs, hl, q⟩ := hw
  rcases hs.or with hq | hq
  · exact (pg_lst hc h hn hst).run pins s σ H v u Q I r ⟨a, xs, e, SqL.of hq, hl, q⟩
  · exact (pg_tup hc h hn hst).run pins s σ H v u Q I r ⟨a, xs, e, SqT.of hq, hl, q⟩
/-! ### for x in a list or a tuple -/
def iSeqW (K : PySem.W.Frag) (tl : TE) : TI := fun σ H R => tl σ H fun x H1 => ∃ a xs, x = .ref a ∧ StSeq H1 a xs ∧ ∀ J, (∀ H2, (∀ o, H1 a = some o → H2 a = some o) → StandsAs K a xs J H2) → R J H1
theorem pi_seqW {X : Cx} {tg l : Expr} {tl : TE} (hl : PE X l tl) : PI X tg l (iSeqW X.K tl) := by
  refine ⟨fun pins s σ H R I h => thn (hl.run pins s σ H _ I h) fun v s1 ⟨x, H1, I1, r1, a, xs, e, st, q⟩ => ?_⟩
  subst e
  cases r1
  have new : ∀ b ∈ [s1.heap.objs.size], FpOk X pins H1 b := fun b hb => by
    rw [List.mem_singleton.mp hb]
    exact I1.fpOk (Nat.le_refl _) (I1.hok.fresh (Nat.le_refl _))
  have kept := fun {o : Obj} => I1.kept (h' := s1.heap.push o) (t' := s1.toks) fun b o' e => Heap.get?_push_of_some _ e
  rcases st.or with hq | hq
  · obtain ⟨its, rv, p, hz⟩ := I1.list (SqL.of hq)
    exact wpAny_pyIter_list p.isList ⟨s1.heap.objs.size, [s1.heap.objs.size], _, _, H1, rfl, kept, turn_list a _, ⟨_, Heap.get?_push_size _ rfl, rfl, rfl⟩, new, q _ fun H2 e => .inl ⟨rfl, SqL.of (e _ hq)⟩⟩
  · obtain ⟨its, rv, p, hz⟩ := I1.tuple (SqT.of hq)
    exact wpAny_pyIter_tuple (show s1.heap.IsTuple a its.toArray from p) ⟨s1.heap.objs.size, [s1.heap.objs.size], _, _, H1, rfl, kept, turn_tuple a _, ⟨_, Heap.get?_push_size _ rfl, rfl, rfl⟩, new, q _ fun H2 e => .inr ⟨rfl, SqT.of (e _ hq)⟩⟩
theorem for_seq {K : PySem.W.Frag} {a : Addr} {xs : List V} {J : It} {g : TG} {tb : TS} {D : Ends} {σ : L2.St} {H : Hp} (Pv : Nat → L2.St → Hp → Prop) (h0 : Pv 0 σ H) (hl : ∀ i σ H, Pv i σ H → StandsAs K a xs J H)
    (hs : ∀ i x σ H, xs[i]? = some x → Pv i σ H → g x σ H fun σ2 H2 => tb { D with nx := Pv (i + 1), ct := Pv (i + 1), bk := D.nx } σ2 H2) (hd : ∀ σ H, Pv xs.length σ H → D.nx σ H) :
    ∃ W : Nat → Nat → L2.St → Hp → Prop, (∃ m, W 0 m σ H) ∧ ∀ i m σ H, W i m σ H →
      (J.stop i H ∧ D.nx σ H) ∨ (J.go i H ∧ ∃ N : L2.St → Hp → Prop, (∀ σ' H', N σ' H' → ∃ m', m' < m ∧ W (i + 1) m' σ' H') ∧ ∀ x H', J.yld i H x H' → g x σ H' fun σ2 H2 => tb { D with nx := N, ct := N, bk := D.nx } σ2 H2) := by
  refine ⟨fun i m σ H => m + i = xs.length ∧ Pv i σ H, ⟨xs.length, rfl, h0⟩, ?_⟩
  rintro i m σ H ⟨hm, p⟩
  have s := hl i σ H p
  cases m with
  | zero =>
    obtain rfl : i = xs.length := by omega
    exact .inl ⟨s.stop (Nat.le_refl _), hd σ H p⟩
  | succ m =>
    have lt : i < xs.length := by omega
    refine .inr ⟨s.go (List.getElem?_eq_getElem lt), Pv (i + 1), fun σ' H' p' => ⟨m, Nat.lt_succ_self m, by omega, p'⟩, fun x H' y => ?_⟩
    obtain ⟨rfl, hx⟩ := s.yld y
    exact hs i x σ _ hx p
/-! ### a class of refusals -/
structure ExcC (K : PySem.W.Frag) (mg : Str → Option Value) (x : Str) (C : Addr) : Prop where
  g : mg x = some (.ref C)
  x : PySem.W.excIn K C [.type "ValueError", .type "Exception", .type "BaseException", .type "object"] "ValueError.__new__" = true
  k : PySem.W.keepIn K (.ref C) = true
  b : PySem.W.subIn K (.ref C) (.type "BaseException") = some true
  t : PySem.W.typeIn K (.ref C) = some (.type "type")
/-! ### pieces_of -/
abbrev nPieces : List Str := ["plan", "pieces", "first", "turns", "many", "past"]
abbrev PieceT := Int × Option Int × List PyData
def optD : Option Int → PyData
  | some i => .int i
  | none => .none
def pieceD (x : PieceT) : PyData := .tuple [.int x.1, optD x.2.1, .tuple x.2.2]
def turnsD (d : PyData) : List PyData := match rowsD d with
  | some (t :: _) => (rowsD t).getD []
  | _ => []
def pastO (f : Int) : PyData → Option Int
  | .int m => some (f + m)
  | _ => none
def pcs : Int → List PyData → List PieceT
  | _, [] => []
  | f, d :: ds => (f, pastO f (sndD d), turnsD d) :: pcs (f + worth (sndD d)) ds
theorem pcs_snoc : ∀ (f : Int) (ds : List PyData) (d : PyData), pcs f (ds ++ [d]) = pcs f ds ++ [(f + sumSnd ds, pastO (f + sumSnd ds) (sndD d), turnsD d)]
  | f, [], d => by
    have e : f + sumSnd [] = f := Int.add_zero f
    rw [e]
    rfl
  | f, c :: ds, d => by
    have e : f + sumSnd (c :: ds) = f + worth (sndD c) + sumSnd ds := by
      show f + (worth (sndD c) + sumSnd ds) = _
      omega
    rw [e]
    show _ :: pcs _ (ds ++ [d]) = _ :: (pcs _ ds ++ _)
    rw [pcs_snoc]
def piecesOf (d : PyData) : List PieceT := pcs 0 ((rowsD d).getD [])
def spPieces (P1 P2 C : Addr) : Sp := fun vs H Q E => ∃ v d, vs = [v] ∧ Rp H v d ∧ Tb P1 P2 H ∧ (isPlan d = false → ∀ H', Ex H H' → Tb P1 P2 H' → E (.ref C) none H') ∧
  (isPlan d = true → ∀ p H', Ex H H' → Tb P1 P2 H' → H p = none → Rp H' (.ref p) (.list ((piecesOf d).map pieceD)) → Q (.ref p) H')
theorem piece_at2 {H : Hp} {x : V} {d : PyData} (hp : isPiece d = true) (hR : Rp H x d) : ∃ b vt vm t m, x = .ref b ∧ StSeq H b [vt, vm] ∧ Rp H vt t ∧ Rp H vm m ∧ rowsD d = some [t, m] ∧ isTurns t = true ∧ isMany m = true := by
  obtain ⟨t, m, e, ht, hm⟩ := piece_parts hp
  obtain ⟨b, xs, rfl, hA, ho⟩ := hR.rows e
  cases hA with
  | cons h1 h2 =>
    cases h2 with
    | cons h3 h4 =>
      cases h4
      exact ⟨b, _, _, t, m, rfl, ⟨ho⟩, h1, h3, e, ht, hm⟩
theorem pieces_put {D : Addr} {ys : List V} {H2 H3 : Hp} {vs : List V} (eD : H2 D = some (.lst vs)) (s3 : Same H2 H3) {p : Addr} (np : H3 p = none) : upd H3 p (.tup ys) D = some (.lst vs) ∧
    Same (Hw (fun b => b = D) H3) (Hw (fun b => b = D) (upd (upd H3 p (.tup ys)) D (.lst (vs ++ [.ref p])))) ∧ Hw (fun b => b = D) (upd (upd H3 p (.tup ys)) D (.lst (vs ++ [.ref p]))) p = some (.tup ys) := by
  have e3 := s3 D _ eD
  have npD : p ≠ D := fun z => by rw [z, e3] at np; cases np
  have e4 : upd H3 p (.tup ys) D = some (.lst vs) := by rw [upd_ne (Ne.symm npD)]; exact e3
  rw [hw_upd (W := fun b => b = D) (a := D) rfl]
  refine ⟨e4, Same.hw (same_upd np), ?_⟩
  rw [Hw.at (W := fun b => b = D) npD]
  exact upd_same
/-- a def that may raise, called by its name -/
structure CalX (P : Program) (w : World) (K : PySem.W.Frag) (mg : Str → Option Value) (base : Heap) (k : Nat) (x : Str) (ps : List Str) (sp : Sp) : Prop where
  ex : ∃ f fd, mg x = some (.ref f) ∧ PySem.W.keepIn K (.ref f) = true ∧ Binds K fd ps [] ∧ FnOk P w K mg base (L2.CX P w) k f fd ps sp
theorem pe_calX {X : Cx} {k : Nat} {x : Str} {ps : List Str} {sp : Sp} {E : XK} {p pos : Pos} {e : Expr} {es : List Expr} {t : TA} (C : CalX X.prog X.w X.K X.mg X.base k x ps sp) (hr : Room k X.A) (hg : Gl X x) (hx : Passes (L2.CX X.prog X.w) X E) (ha : PA X (e :: es) t)
    (hdb : (x == ("__debug__" : Str)) = false := by decide) (he : starEach (e :: es) X.env = (false, eval e X.env) :: starEach es X.env := by rfl) (hpl : (backTo pos (starEach es X.env)).any (·.1) = false := by rfl) : PE X (.Call (.Name x p) (e :: es) [] pos) (tCall sp [] E t) := by
  obtain ⟨f, fd, a1, a2, a3, a4⟩ := C.ex
  exact pe_call a4 hr hg a1 a2 a3 .nil hx ha hdb he hpl
theorem CalX.mono {P : Program} {w : World} {K : PySem.W.Frag} {mg : Str → Option Value} {base : Heap} {j k : Nat} {x : Str} {ps : List Str} {sp : Sp} (C : CalX P w K mg base j x ps sp) (h : j ≤ k) : CalX P w K mg base k x ps sp := by
  obtain ⟨f, fd, a1, a2, a3, a4⟩ := C.ex
  exact ⟨f, fd, a1, a2, a3, a4.mono h⟩
abbrev sCheck : Stmt := topS 33
theorem scCheck : FnScope ["thing"] ["thing"] (defScope sCheck) := ⟨rfl, rfl, rfl, by decide +kernel, rfl, by decide +kernel, by decide +kernel⟩
def spCheck (P1 P2 C : Addr) : Sp := fun vs H Q E => ∃ v d, vs = [v] ∧ Rp H v d ∧ Tb P1 P2 H ∧ (isPlan d = false → ∀ H', Ex H H' → Tb P1 P2 H' → E (.ref C) none H') ∧ (isPlan d = true → ∀ H', Ex H H' → Tb P1 P2 H' → Q .non H')
section
variable {P : Program} {w : World} {K : PySem.W.Frag} {mg : Str → Option Value} {base : Heap}
theorem ok_check {f P1 P2 C : Addr} {fd : FuncData} (F : Fun K "check_plan" "check_plan" sCheck f fd) (XP : ExcC K mg "NoPlan" C) (CP : Cal P w K mg base 7 "is_plan" ["thing"] (spTab P1 P2 isPlan)) :
    FnOk P w K mg base (L2.CX P w) 8 f fd ["thing"] (spCheck P1 P2 C) := by
  refine F.okX scCheck (fun vs H Q E ⟨v, d, e, _⟩ => by rw [e]; rfl) (fun cdv A outer s H vs Q E hr h => ?_)
  obtain ⟨v, d, rfl, hR, hT, qE, q⟩ := h
  refine ⟨_, (pss_one (ps_if (pt_not (pt_val (pe_cal CP hr (by rfl) (pa_cons (pv 0) pa_nil)))) (pss_one (ps_raise rfl (takes_of rfl rfl rfl rfl) (pmk_own PySem.F.excBase_ValueError XP.x XP.g XP.k (raises_own XP.b XP.t) rfl))) pss_nil)), ?_⟩
  refine ⟨v, rfl, v, d, rfl, hR, hT, fun H1 e1 tb1 => ⟨isPlan d, rfl, ?_⟩⟩
  cases hp : isPlan d with
  | false => exact iteT (qE hp H1 e1 tb1)
  | true => exact iteF (q hp H1 e1 tb1)
end
end CL
set_option Elab.async false
set_option linter.all false
set_option pp.maxSteps 600
set_option maxRecDepth 100000
set_option maxHeartbeats 4000000
namespace CL
open PySem PySem.Spec PyProof.Rows L2 GE HotX
/-! ### the end of an iterator where an exception is handled -/
section
variable {prog : Program} {w : World} {A : Around} {E : Value → Shared → Prop} {s : Shared}
theorem list_stops {it l x1 : Addr} {i : Nat} {items : Array Value} {Q : Option Value → Shared → Prop} (hot : HotAt A x1 s.heap) (hne : x1 ≠ it) (at_ : s.heap.IsListIter it l i) (li : s.heap.IsList l items) (no : items[i]? = none)
    (q : ∀ h', Heap.ExtBut it s.heap h' → Q none { s with heap := h' }) : wpAny (model prog w) A (pyNext (.ref it)) Q E s := by
  obtain ⟨n0, o1, vs1, g0, d1, c1⟩ := hot
  obtain ⟨oi, gi, ki, di⟩ := id at_
  obtain ⟨ol, gl, _, nl, dl⟩ := li
  unfold pyNext
  refine wpAny_bind (wpAny_attempt (wpAny_callSpecial?_slot (name := Str.ofString "__next__") at_.typeIs slot_listiter_next (wpAny_call_entry slot_listiter_next at_.typeIs entry_listiter_next ?_ (args_listiter_next _))))
  show wpAny _ _ (field (.ref it) 0 >>= _) _ _ s
  refine wpAny_bind (wpAny_field gi di (x := .ref l) rfl ?_)
  show wpAny _ _ (if (Value.ref l == Value.none) = true then _ else _) _ _ s
  rw [if_neg (show ¬ ((Value.ref l == Value.none) = true) from Bool.false_ne_true)]
  show wpAny _ _ (field (.ref it) 1 >>= _) _ _ s
  refine wpAny_bind (wpAny_field gi di (x := .int i 0) rfl (wpAny_bind (wpAny_seqItems gl dl ?_)))
  simp only [Int.toNat_natCast, no]
  refine wpAny_bind (wpAny_rule (wpAny_bind (wpAny_setField gi di (by simp) ?_)))
  have sb := Heap.SameBut.update s.heap it (Obj.mapFields (·.setIfInBounds 0 Value.none))
  have g1 := sb.extBut x1 _ hne g0
  have nx : ∀ b o, b ≠ it → s.heap.get? b = some o → (s.heap.update it (Obj.mapFields (·.setIfInBounds 0 Value.none))).get? b = some o := fun b o nb e => sb.extBut b o nb e
  show wpAny _ _ (newExc (.type "StopIteration") [] >>= _) _ _ _
  refine wpAny_bind ?_
  simp only [newExc, newTuple]
  refine wpAny_bind (wpAny_newObj_type ?_ (by size_fits))
  refine wpAny_bind (m := firstArgMember _ _) (wpAny_of_eq (a := Value.none) (by first | rfl | (simp only [firstArgMember]; rfl)) ?_)
  refine wpAny_newObj_type ?_ (by size_fits)
  refine raiseNew_hot (x1 := x1) ⟨n0, _, _, Heap.get?_push_of_some _ (Heap.get?_push_of_some _ g1), d1, c1⟩ (Nat.ne_of_lt (Heap.lt_size (Heap.get?_push_of_some _ g1))) (Heap.get?_push_size _ rfl) rfl (by first | (simp; done) | (simp; omega) | (simp only [Array.size_append]; simp; omega)) ?_
  refine wpAny_bind (wpAny_isInstance (T := "StopIteration") (b := true) ⟨_, Heap.get?_update_self _ (Heap.get?_push_size _ rfl) rfl, rfl⟩ isSubtype_stop ?_)
  refine wpAny_pure (q _ fun b o nb e => ?_)
  rw [Heap.get?_update_other _ _ (Nat.ne_of_gt (Heap.lt_size (Heap.get?_push_of_some _ (nx b o nb e))))]
  exact Heap.get?_push_of_some _ (Heap.get?_push_of_some _ (nx b o nb e))
theorem tuple_stops {it t x1 : Addr} {i : Nat} {items : Array Value} {Q : Option Value → Shared → Prop} (hot : HotAt A x1 s.heap) (hne : x1 ≠ it) (at_ : IsTupIter s.heap it t i) (li : IsTup s.heap t items) (no : items[i]? = none)
    (q : ∀ h', Heap.ExtBut it s.heap h' → Q none { s with heap := h' }) : wpAny (model prog w) A (pyNext (.ref it)) Q E s := by
  obtain ⟨n0, o1, vs1, g0, d1, c1⟩ := hot
  obtain ⟨oi, gi, ki, di⟩ := id at_
  obtain ⟨ol, gl, _, nl, dl⟩ := li
  unfold pyNext
  refine wpAny_bind (wpAny_attempt (wpAny_callSpecial?_slot (name := Str.ofString "__next__") at_.typeIs slot_tupleiter_next (wpAny_call_entry slot_tupleiter_next at_.typeIs entry_tupleiter_next ?_ (args_tupleiter_next _))))
  show wpAny _ _ (field (.ref it) 0 >>= _) _ _ s
  refine wpAny_bind (wpAny_field gi di (x := .ref t) rfl ?_)
  show wpAny _ _ (if (Value.ref t == Value.none) = true then _ else _) _ _ s
  rw [if_neg (show ¬ ((Value.ref t == Value.none) = true) from Bool.false_ne_true)]
  show wpAny _ _ (field (.ref it) 1 >>= _) _ _ s
  refine wpAny_bind (wpAny_field gi di (x := .int i 0) rfl (wpAny_bind (wpAny_seqItems gl dl ?_)))
  simp only [Int.toNat_natCast, no]
  refine wpAny_bind (wpAny_rule (wpAny_bind (wpAny_setField gi di (by simp) ?_)))
  have sb := Heap.SameBut.update s.heap it (Obj.mapFields (·.setIfInBounds 0 Value.none))
  have g1 := sb.extBut x1 _ hne g0
  have nx : ∀ b o, b ≠ it → s.heap.get? b = some o → (s.heap.update it (Obj.mapFields (·.setIfInBounds 0 Value.none))).get? b = some o := fun b o nb e => sb.extBut b o nb e
  show wpAny _ _ (newExc (.type "StopIteration") [] >>= _) _ _ _
  refine wpAny_bind ?_
  simp only [newExc, newTuple]
  refine wpAny_bind (wpAny_newObj_type ?_ (by size_fits))
  refine wpAny_bind (m := firstArgMember _ _) (wpAny_of_eq (a := Value.none) (by first | rfl | (simp only [firstArgMember]; rfl)) ?_)
  refine wpAny_newObj_type ?_ (by size_fits)
  refine raiseNew_hot (x1 := x1) ⟨n0, _, _, Heap.get?_push_of_some _ (Heap.get?_push_of_some _ g1), d1, c1⟩ (Nat.ne_of_lt (Heap.lt_size (Heap.get?_push_of_some _ g1))) (Heap.get?_push_size _ rfl) rfl (by first | (simp; done) | (simp; omega) | (simp only [Array.size_append]; simp; omega)) ?_
  refine wpAny_bind (wpAny_isInstance (T := "StopIteration") (b := true) ⟨_, Heap.get?_update_self _ (Heap.get?_push_size _ rfl) rfl, rfl⟩ isSubtype_stop ?_)
  refine wpAny_pure (q _ fun b o nb e => ?_)
  rw [Heap.get?_update_other _ _ (Nat.ne_of_gt (Heap.lt_size (Heap.get?_push_of_some _ (nx b o nb e))))]
  exact Heap.get?_push_of_some _ (Heap.get?_push_of_some _ (nx b o nb e))
/-- a, b = a tuple, there -/
theorem untupled_hot {env : Env} {es : List Expr} {n : Nat} {pos : Pos} {t x1 : Addr} {items : Array Value} {Q : Unit → Shared → Prop} (hot : HotAt A x1 s.heap) (li : IsTup s.heap t items) (many : (assignEach es env).length = items.size) (plain : (assignEach es env).findIdx? (·.1) = none)
    (q : ∀ h', Heap.ExtBut s.heap.objs.size s.heap h' → wpAny (model prog w) A (assignInOrder ((assignEach es env).map (·.2)) items.toList) Q E { s with heap := h' }) : wpAny (model prog w) A (assign (.Tuple es n pos) env (.ref t)) Q E s := by
  obtain ⟨n0, o1, vs1, g0, d1, c1⟩ := hot
  have lt : t ≠ s.heap.objs.size := by
    obtain ⟨o, e, _⟩ := li
    exact Nat.ne_of_lt (Heap.lt_size e)
  have lx : x1 ≠ s.heap.objs.size := Nat.ne_of_lt (Heap.lt_size g0)
  rw [assign_Tuple]
  refine wpAny_bind (wpAny_standAt ?_)
  unfold unpack
  rw [many, plain]
  refine wpAny_bind (wpAny_holding ?_)
  unfold unpackItems notIterableAtAll
  refine wpAny_bind (wpAny_bind (wpAny_specialOf li.typeIs slot_tuple_iter.lookup (wpAny_pure ?_)))
  simp only [Bool.false_eq_true, if_false]
  refine wpAny_bind (wpAny_holding (iter_tuple li (wpAny_bind (wpAny_holding (draw_tuple lt items.size 0 _ _ ⟨_, Heap.get?_push_size _ rfl, rfl, rfl⟩ (li.push _) (by omega) fun h1 at1 sb1 => ?_)))))
  have all : (items.toList.drop 0).take items.size = items.toList := by rw [List.drop_zero]; exact List.take_of_length_le (by simp)
  rw [all, if_neg (by simp)]
  have up : ∀ b o, b ≠ s.heap.objs.size → s.heap.get? b = some o → h1.get? b = some o := fun b o nb e => sb1.extBut b o nb (Heap.get?_push_of_some _ e)
  refine wpAny_bind (wpAny_holding (tuple_stops ⟨n0, o1, vs1, up _ _ lx g0, d1, c1⟩ lx at1 ((li.push _).extBut sb1.extBut lt) (by simp) fun h2 e2 => ?_))
  simp only [Option.isSome_none, Bool.false_eq_true, if_false]
  exact wpAny_pure (q h2 fun b o nb e => e2 b o nb (up b o nb e))
end
end CL
set_option Elab.async false
set_option linter.all false
set_option pp.maxSteps 600
set_option maxRecDepth 100000
set_option maxHeartbeats 4000000
namespace CL
open PySem PySem.Spec PyProof.Rows L2 GE HotX
/-! ### targets and comprehensions where an exception is handled -/
/-- p is handled, and pinned -/
def HotP (X : Cx) (pins : List (Addr × Obj)) : Prop := ∃ p : Addr × Obj, L2H.Hot1 X.A p ∧ p ∈ X.pn ++ pins
theorem HotP.at {X : Cx} {pins : List (Addr × Obj)} {σ : L2.St} {H : Hp} {s : Shared} (c : HotP X pins) (I : Inv X pins σ H s) : ∃ p : Addr × Obj, HotAt X.A p.1 s.heap ∧ p ∈ X.pn ++ pins := by
  obtain ⟨p, ⟨e, vs, d, n⟩, m⟩ := c
  exact ⟨p, ⟨e, p.2, vs, (I.pin p m).1, d, n⟩, m⟩
/-- a target, there -/
structure PGH (X : Cx) (tg : Expr) (g : TG) : Prop where
  go : ∀ pins s σ H v u Q, HotP X pins → Inv X pins σ H s → RelV v u → g v σ H Q → wpAny (model X.prog X.w) X.A (assign tg X.env u) (fun _ t => ∃ σ' H', Inv X pins σ' H' t ∧ Q σ' H') X.xe s
theorem pgh_tup {X : Cx} {es : List Expr} {k n : Nat} {g : TGs} {pos : Pos} (h : PGs X es g) (hn : (assignEach es X.env).length = n := by rfl) (hst : (assignEach es X.env).findIdx? (·.1) = none := by rfl) : PGH X (.Tuple es k pos) (gTup X.K n g) := by
  refine ⟨fun pins s σ H v u Q c I r y => ?_⟩
  obtain ⟨a, xs, rfl, q, len, y⟩ := y
  cases (show u = Value.ref a from r)
  obtain ⟨its, rv, ta, _⟩ := I.tuple q
  obtain ⟨p, hot, _⟩ := c.at I
  refine untupled_hot hot ta (by simp [hn, ← len, rv.length]) hst fun h' e => ?_
  have J : Inv X pins σ H { s with heap := h' } := I.kept (t' := s.toks) fun b o e1 => e b o (Nat.ne_of_lt (Heap.lt_size e1)) e1
  exact h.run pins _ σ H xs _ Q J (by simpa using rv) y
/-- [elt for tg in l if ..]: the list at a stays xs; Pv by the turn and the heap (the new list at D within) -/
def tLcH (K : PySem.W.Frag) (tl : TE) (g : TG) (tt : TT) (te : TE) (vs : List Nat) : TE := fun σ H Q => tl σ H fun x H1 => ∃ a xs, x = .ref a ∧ SqL K H1 a xs ∧ ∀ D, H1 D = none → ∃ Pv : Nat → Hp → Prop, Pv 0 (upd H1 D (.lst [])) ∧ (∀ i H, Pv i H → SqL K H a xs) ∧
  (∀ i x H, xs[i]? = some x → Pv i H → g x (wipe σ vs) H fun σ2 H2 => wipe σ2 vs = wipe σ vs ∧ tt σ2 H2 fun b H3 => if b = true then te σ2 H3 fun y H4 => ∃ acc, H4 D = some (.lst acc) ∧ acc.length < sizeLine ∧ Pv (i + 1) (upd H4 D (.lst (acc ++ [y]))) else Pv (i + 1) H3) ∧
  ∀ H, Pv xs.length H → Q (.ref D) H
section
variable {X : Cx}
theorem lcH_core {pins : List (Addr × Obj)} {s : Shared} {σ : L2.St} {H : Hp} {Q : VK} {elt tg l : Expr} {ifs : List Expr} {scope : Scope} {own : List (Str × Nat)} {pos q0 : Pos} {tl te : TE} {g : TG} {tt : TT} {use : Option (Value → Sem Unit)} {Qf : Value → Shared → Prop}
    (hot : L2H.HotC X) (nd : X.N.Nodup) (I : Inv X pins σ H s) (hl : PE X l tl) (ok : BlkOk X.N X.env.scope scope own)
    (hg : ∀ s H C cl fp, PGH (X.blk s H scope (compEnvC scope cl C X.env) fp) tg g) (ht : ∀ s H C cl fp, PTs (X.blk s H scope (compEnvC scope cl C X.env) fp) ifs tt) (he : ∀ s H C cl fp, PE (X.blk s H scope (compEnvC scope cl C X.env) fp) elt te)
    (hs : ∀ x, foldedSetIterable l X.env x = pure x) (h : tLcH X.K tl g tt te (own.map (·.2)) σ H Q)
    (out : ∀ D C t m H', Inv X pins σ H' t → Q (.ref D) H' → t.heap.Ns C m → FpOk X pins H' C → compPost (model X.prog X.w) X.A X.xe use Qf (.ref D) C (.ok .next) t) :
    wpAny (model X.prog X.w) X.A (comprehension (.ListComp elt [⟨tg, l, ifs, 0⟩] scope pos) scope X.env q0 (newList []) false (eval l X.env) use) Qf X.xe s := by
  obtain ⟨p, hp, pm⟩ := hot
  have frees : ∀ y ∈ scope.names, y.2 = .free → ∃ c, X.env.cells.lookup y.1 = some c := fun y m e => (ok.free y m e).elim (fun k => I.ok.has _ (.inl k)) (fun k => I.ok.has _ (.inr k))
  refine wpAny_comprehension_free (use := use) rfl hs (closure_ok frees) ok.kind (fun y m e => by rw [ok.uniq y m, e]) (thn (hl.run pins s σ H _ I h) fun v s1 ⟨x, H1, I1, r1, a, xs, e1, sq, wish⟩ => ?_)
  subst e1
  cases (show v = Value.ref a from r1)
  obtain ⟨its1, rv1, ls1, _⟩ := I1.list sq
  refine wpAny_pyIter_list ls1.isList ?_
  generalize hz : s1.heap.objs.size = it
  have I2 : Inv X pins σ H1 { s1 with heap := s1.heap.push { cls := .type "list_iterator", data := .fields #[.ref a, .int 0 0] } } := I1.kept (t' := s1.toks) fun b o e => Heap.get?_push_of_some _ e
  have fresh : FpOk X pins H1 it := hz ▸ I1.fpOk (Nat.le_refl _) (I1.hok.fresh (Nat.le_refl _))
  have at2 : ({ s1 with heap := s1.heap.push { cls := .type "list_iterator", data := .fields #[.ref a, .int 0 0] } } : Shared).heap.IsListIter it a 0 := hz ▸ ⟨_, Heap.get?_push_size _ rfl, rfl, rfl⟩
  generalize ({ s1 with heap := s1.heap.push { cls := .type "list_iterator", data := .fields #[.ref a, .int 0 0] } } : Shared) = s2 at I2 at2 ⊢
  refine wpAny_newObj_type (newEnv_comp ?_) (by show 0 ≤ sizeLine; decide)
  have itlt : it < s2.heap.objs.size := by
    obtain ⟨o, e, _⟩ := at2
    exact Heap.lt_size e
  generalize hD : s2.heap.objs.size = D at itlt ⊢
  have nD : H1 D = none := I2.hok.fresh (Nat.le_of_eq hD)
  obtain ⟨Pv, p0, pl, ps, pe⟩ := wish D nD
  generalize h3 : ({ s2 with heap := s2.heap.push { cls := .type "list", data := .seq ([] : List Value).toArray } } : Shared) = s3
  have s3h : s3.heap = s2.heap.push { cls := .type "list", data := .seq ([] : List Value).toArray } := by rw [← h3]
  have I3 : Inv X pins σ (upd H1 D (.lst [])) s3 := by
    rw [← h3]
    exact I2.laid (t' := s2.toks) (fun b o e => Heap.get?_push_of_some _ e) (Nat.le_of_eq hD) ⟨Nat.zero_le _, [], 0, .nil, by rw [← hD]; exact Heap.get?_push_size _ rfl⟩
  have itD : it ≠ D := Nat.ne_of_lt itlt
  have itOk : FpOk X pins (upd H1 D (.lst [])) it := ⟨by rw [upd_ne itD]; exact fresh.1, fresh.2⟩
  have big : it < s3.heap.objs.size := by rw [s3h, Heap.size_push, hD]; exact Nat.lt_succ_of_lt itlt
  have at3 : s3.heap.IsListIter it a 0 := at2.at fun {o} e => by rw [s3h]; exact Heap.get?_push_of_some _ e
  have J := block_start (fp := [it]) I3 ok nd fun b m => by
    cases List.mem_singleton.mp m
    exact ⟨itOk, big⟩
  have gg := hg s3 (upd H1 D (.lst [])) s3.heap.objs.size (cellsFrom (s3.heap.objs.size + 1) scope.names (cloFrom X.env.cells scope.names [])) [it]
  have tt1 := ht s3 (upd H1 D (.lst [])) s3.heap.objs.size (cellsFrom (s3.heap.objs.size + 1) scope.names (cloFrom X.env.cells scope.names [])) [it]
  have ee := he s3 (upd H1 D (.lst [])) s3.heap.objs.size (cellsFrom (s3.heap.objs.size + 1) scope.names (cloFrom X.env.cells scope.names [])) [it]
  show codeAny _ _ (.compStart (.ListComp elt [⟨tg, l, ifs, 0⟩] scope pos) 0 (.ref it) (.ref D) (compEnvC scope (cellsFrom (s3.heap.objs.size + 1) scope.names (cloFrom X.env.cells scope.names [])) s3.heap.objs.size X.env)) (compPost (model X.prog X.w) X.A X.xe use Qf (.ref D) s3.heap.objs.size) { s3 with heap := pushCells (s3.heap.push { cls := .type "dict", data := .dict #[] }) scope.names }
  have keeps4 : ∀ b o, s3.heap.get? b = some o → (pushCells (s3.heap.push { cls := .type "dict", data := .dict #[] }) scope.names).get? b = some o := fun b o e => pushCells_keeps _ _ _ _ (Heap.get?_push_of_some _ e)
  have pin3 := I3.pin p (List.mem_append_left _ pm)
  generalize hce : compEnvC scope (cellsFrom (s3.heap.objs.size + 1) scope.names (cloFrom X.env.cells scope.names [])) s3.heap.objs.size X.env = ce at J gg tt1 ee ⊢
  have ceL : ce.locals = s3.heap.objs.size := by subst hce; rfl
  generalize hH3 : upd H1 D (.lst []) = H3 at I3 J gg tt1 ee p0 itOk pin3
  generalize h4 : ({ s3 with heap := pushCells (s3.heap.push { cls := .type "dict", data := .dict #[] }) scope.names } : Shared) = s4 at J ⊢
  have at4 : s4.heap.IsListIter it a 0 := at3.at fun {o} e => by rw [← h4]; exact keeps4 _ _ e
  -- the handled one stays pinned in the block
  have I4 : Inv (X.blk s3 H3 scope ce [it]) [p] (wipe σ (own.map (·.2))) H3 s4 := J.pins_of fun r m => by
    cases List.mem_singleton.mp m
    refine ⟨by rw [← h4]; exact keeps4 _ _ pin3.1, pin3.2.1, ?_, fun z => ?_, pin3.2.2.2.2⟩
    · show p.1 ≠ ce.locals
      rw [ceL]
      exact Nat.ne_of_lt (Heap.lt_size pin3.1)
    · exact (List.mem_cons.mp (I3.stkSub p.1 z)).elim pin3.2.2.1 pin3.2.2.2.1
  have hp4 : ∀ {pl : List (Addr × Obj)}, HotP (X.blk s3 H3 scope ce [it]) ([p] ++ pl) := fun {pl} => ⟨p, hp, List.mem_append_right _ (List.mem_append_left _ (List.mem_singleton.mpr rfl))⟩
  have pne : p.1 ≠ it := fun z => itOk.2.2.2.2.2 p (List.mem_append_left _ pm) z
  have own4 : ∀ {σ' : L2.St} {H' : Hp} {t : Shared}, Inv (X.blk s3 H3 scope ce [it]) [p] σ' H' t → H' it = none → FpOk (X.blk s3 H3 scope ce [it]) [p] H' it := fun {σ' H' t} I' n =>
    ⟨n, (I'.ok.exf it (List.mem_singleton.mpr rfl)).1, I'.ok.exfs it (List.mem_singleton.mpr rfl), .inl (List.mem_singleton.mpr rfl), fun y c e => (I'.ok.exf it (List.mem_singleton.mpr rfl)).2 y c e, fun r m => by
      rcases List.mem_append.mp m with m | m
      · exact nomatch m
      · cases List.mem_singleton.mp m
        exact pne⟩
  have loop : codeAny (model X.prog X.w) X.A (.compLoop (.ListComp elt [⟨tg, l, ifs, 0⟩] scope pos) 0 (.ref it) (.ref D) ce) (compPost (model X.prog X.w) X.A X.xe use Qf (.ref D) s3.heap.objs.size) s4 := by
    refine compLoop_any (fun n t => ∃ i H', Inv (X.blk s3 H3 scope ce [it]) [p] (wipe σ (own.map (·.2))) H' t ∧ t.heap.IsListIter it a i ∧ H' it = none ∧ Pv i H' ∧ n = xs.length - i ∧ i ≤ xs.length) ?_ xs.length ⟨0, H3, I4, at4, itOk.1, p0, by omega, Nat.zero_le _⟩
    rintro n s5 ⟨i, H5, I5, at5, n5, v5, rfl, le⟩
    have sq5 := pl i H5 v5
    obtain ⟨its5, rv5, ls5, _⟩ := I5.list sq5
    obtain ⟨f0, f1, f2, f3, f4, f5⟩ := own4 I5 n5
    have len5 := rv5.length
    by_cases lt : i < xs.length
    · obtain ⟨u, hu, ru⟩ := rv5.get (show xs[i]? = some xs[i] by simp [lt])
      refine wpAny_pyNext_list_item at5 ls5.isList (x := u) (by simpa using hu) fun h6 at6 sb6 => ?_
      have I6 : Inv (X.blk s3 H3 scope ce [it]) [p] (wipe σ (own.map (·.2))) H5 { s5 with heap := h6 } := I5.turned (t' := s5.toks) (fun b o nb e => (sb6.2 b nb).trans e) f0 f1 f3 f4 f5
      obtain ⟨oi, gi, ki, di⟩ := id at6
      refine go_of (s := { s5 with heap := h6 }) gi ki di (by decide) ?_
      have there6 : ∀ b ∈ [it], ∃ o, ({ s5 with heap := h6 } : Shared).heap.get? b = some o ∧ ∀ v, o.data ≠ .cell v := fun b m => by
        cases List.mem_singleton.mp m
        exact ⟨oi, gi, fun v z => by rw [di] at z; cases z⟩
      have I7 := I6.pinned (fp := [it]) (fun b m => by cases List.mem_singleton.mp m; exact own4 I6 n5) there6
      refine thnF (gg.go _ _ _ H5 xs[i] u _ hp4 I7 ru (ps i xs[i] H5 (by simp [lt]) v5)) fun _ s8 ⟨σ8, H8, I8, w8, q8⟩ => ?_
      refine thnF (tt1.run _ s8 σ8 H8 _ I8 q8) fun b s9 ⟨H9, I9, q9⟩ => ?_
      have fin : ∀ {t : Shared} {H' : Hp}, Inv (X.blk s3 H3 scope ce [it]) ([p] ++ pinsAt [it] h6) σ8 H' t → Pv (i + 1) H' → ∃ m, m < xs.length - i ∧ ∃ j H', Inv (X.blk s3 H3 scope ce [it]) [p] (wipe σ (own.map (·.2))) H' t ∧ t.heap.IsListIter it a j ∧ H' it = none ∧ Pv j H' ∧ m = xs.length - j ∧ j ≤ xs.length := fun {t H'} I' v' => by
        have k := I'.pin (it, oi) (List.mem_append_right _ (List.mem_append_right _ (mem_pinsAt (List.mem_singleton.mpr rfl) gi)))
        have hl : (wipe σ (own.map (·.2))).length = σ8.length := by rw [← w8, wipe_length]
        refine ⟨xs.length - (i + 1), by omega, i + 1, H', I'.unpinned.weak hl (fun j v e => ?_), ⟨oi, k.1, ki, di⟩, k.2.1, v', rfl, lt⟩
        rw [← w8] at e
        exact (wipe_some e).1
      cases b with
      | false =>
        simp only [Bool.false_eq_true, if_false] at q9 ⊢
        exact fin I9 q9
      | true =>
        simp only [if_true] at q9 ⊢
        refine thnF (ee.run _ s9 σ8 H9 _ I9 q9) fun z s10 ⟨yv, H10, I10, r10, acc, hD10, hz10, nx⟩ => ?_
        exact app_ok (X := X.blk s3 H3 scope ce [it]) I10 hD10 hz10 r10 fun s11 I11 => fin I11 nx
    · have e0 : i = xs.length := by omega
      subst e0
      obtain ⟨p', hot5, m5⟩ := HotP.at (X := X.blk s3 H3 scope ce [it]) (pins := [p]) ⟨p, hp, List.mem_append_right _ (List.mem_singleton.mpr rfl)⟩ I5
      have pe5 : p' = p := by
        exact (List.mem_append.mp m5).elim (fun m => nomatch m) (fun m => List.mem_singleton.mp m)
      rw [pe5] at hot5
      refine list_stops hot5 pne at5 ls5.isList (by simp; omega) fun h6 e6 => ?_
      have I6 : Inv (X.blk s3 H3 scope ce [it]) [p] (wipe σ (own.map (·.2))) H5 { s5 with heap := h6 } := I5.turned (t' := s5.toks) (fun b o nb e => e6 b o nb e) f0 f1 f3 f4 f5
      have I7 : Inv X pins σ H5 { s5 with heap := h6 } := I3.call' (ch := [it]) I6.os I6.base I6.hok I6.bare fun b m => by
        cases List.mem_singleton.mp m
        exact ⟨itOk.2.2.2.1, itOk.2.1, itOk.2.2.2.2.1, itOk.2.2.2.2.2⟩
      have nC : H5 s3.heap.objs.size = none := by
        have z : H5 ce.locals = none := I6.free
        rwa [ceL] at z
      obtain ⟨m, hn, _⟩ := I6.loc
      have hn : (h6 : Heap).Ns ce.locals m := hn
      rw [ceL] at hn
      exact out D s3.heap.objs.size { s5 with heap := h6 } m H5 I7 (pe _ v5) hn (I3.fpOk (Nat.le_refl _) nC)
  exact codeAny_compStart_list loop (wpAny_pyIter_listiter at4 loop)
/-- name = [..], there -/
theorem ps_setLcH {i : Nat} {y : Str} {py : Pos} {elt tg l : Expr} {ifs : List Expr} {scope : Scope} {own : List (Str × Nat)} {pos spos : Pos} {tl te : TE} {g : TG} {tt : TT} (hot : L2H.HotC X) (nd : X.N.Nodup) (hy : X.N[i]? = some y) (loc : X.env.scope.names.lookup y = some .local)
    (sw : swapsWith (.ListComp elt [⟨tg, l, ifs, 0⟩] scope pos) (some (.Name y py)) spos.line X.env = pure true) (hl : PE X l tl) (ok : BlkOk X.N X.env.scope scope own)
    (hg : ∀ s H C cl fp, PGH (X.blk s H scope (compEnvC scope cl C X.env) fp) tg g) (ht : ∀ s H C cl fp, PTs (X.blk s H scope (compEnvC scope cl C X.env) fp) ifs tt) (he : ∀ s H C cl fp, PE (X.blk s H scope (compEnvC scope cl C X.env) fp) elt te)
    (hs : ∀ x, foldedSetIterable l X.env x = pure x := by intro _; rfl) : PS X (.Assign [.Name y py] (.ListComp elt [⟨tg, l, ifs, 0⟩] scope pos) spos) (tAsg (tLcH X.K tl g tt te (own.map (·.2))) (gName i)) := by
  refine ⟨fun pins s σ H D I h => ?_⟩
  rw [exec_Assign_Name_used _ _ _ _ sw]
  refine wpAny_bind (wpAny_standAt (wpAny_bind ?_))
  show wpAny _ X.A (do let _ ← comprehension (.ListComp elt [⟨tg, l, ifs, 0⟩] scope pos) scope X.env (firstIterPos [⟨tg, l, ifs, 0⟩] pos) (newList []) false (eval l X.env) (some (assign (.Name y py) X.env))) _ _ s
  have h : tLcH X.K tl g tt te (own.map (·.2)) σ H (fun x H1 => gName i x σ H1 D.nx) := h
  refine wpAny_bind (thn (lcH_core (Qf := fun _ t => SP X pins D .next t) hot nd I hl ok hg ht he hs h fun L C t m H' J q ns f => ?_) fun _ t q => wpAny_pure (wpAny_pure q))
  show wpAny _ _ (assign (.Name y py) X.env (.ref L)) _ _ _
  refine wpAny_assign_Name (store_ok2 (v := V.ref L) J nd hy (.inl loc) rfl (fun t2 J2 ⟨b, sb, where_⟩ => ?_) (.inr loc))
  obtain ⟨f0, f1, f2, f3, f4, f5⟩ := f
  have other : C ≠ b := where_.elim (fun z => z ▸ f1) (fun z e => f4 y b z e.symm)
  exact ⟨m, ns.sameBut sb other, fun h3 sb3 => ⟨_, H', J2.turned (t' := t2.toks) (fun b o nb e => (sb3.2 b nb).trans e) f0 f1 f3 f4 f5, q⟩⟩
end
end CL
set_option Elab.async false
set_option linter.all false
set_option pp.maxSteps 600
set_option maxRecDepth 100000
set_option maxHeartbeats 4000000
namespace CL
open PySem PySem.Spec PyProof.Rows L2 GE HotX
/-! ### a def that is handed the error that is handled -/
structure FnP (P : Program) (w : World) (K : PySem.W.Frag) (mg : Str → Option Value) (base : Heap) (k : Nat) (f : Addr) (fd : FuncData) (ps : List Str) (sp : Addr → Addr → Sp) : Prop where
  len : ∀ a D vs H Q E, sp a D vs H Q E → vs.length = ps.length
  go : ∀ A outer s H args us vs Q E p D, L2H.RoomH k A → L2H.Hot1 A p → Zc (.ref D) none p.2 → L2H.PinOk outer H s p → Env0 P w K mg base A outer s H → BindsTo s fd args (ps.zip us) → Vals vs us → sp p.1 D vs H Q E → codeAny (model P w) A (.call (.ref f) args) (CR CX0 outer P w H s Q E) s
theorem fnP_of {P : Program} {w : World} {K : PySem.W.Frag} {mg : Str → Option Value} {base : Heap} {k : Nat} {f : Addr} {x qual : Str} {st : Stmt} {fd : FuncData} {N ps : List Str} {sp : Addr → Addr → Sp} (F : Fun K x qual st f fd) (S : FnScope N ps (defScope st)) (len : ∀ a D vs H Q E, sp a D vs H Q E → vs.length = ps.length)
    (body : ∀ (cdv : Value) (A : Around) (outer : List Env) (s : Shared) (H : Hp) (vs : List V) (Q : VK) (E : XK) (p : Addr × Obj) (D : Addr), L2H.Hot1 A p → Zc (.ref D) none p.2 → L2H.RoomH k (A.deeper (envOfC qual (defScope st) s.heap.objs.size f cdv)) → sp p.1 D vs H Q E →
      ∃ t, PSs (L2H.cxH CX0 P w K mg base N qual (defScope st) f cdv A outer s H E p) (defBody st) t ∧ t { nx := fun _ H' => Q .non H', rt := Q } (start N vs) H) : FnP P w K mg base (k + 1) f fd ps sp := by
  obtain ⟨oc, od, kV, doc, pm, an, cdv, ct, osl, rfl, lk, hcd⟩ := F.ex
  refine ⟨len, fun A outer s H args us vs Q E p D rm h1 z pk e0 bn rv h => ?_⟩
  have nl := len _ _ _ _ _ _ h
  have low : ∀ b o, base.get? b = some o → s.heap.get? b = some o := fun b o e => (e0.bs b o e).1
  have kinds : ∀ y ∈ ps.zip us, (defScope st).names.lookup y.1 = some .local ∨ ((defScope st).names.lookup y.1 = some .cell ∧ ((cellsFrom (s.heap.objs.size + 1) (defScope st).names []).lookup y.1).isSome = true) := by
    rintro ⟨n, v⟩ m
    exact (S.par n (List.of_mem_zip m).1).elim .inl fun e => .inr ⟨e, PySem.W.cellsFrom_some _ _ _ (.inl e)⟩
  refine codeAny_call_function rm.depth (e0.mod.kin.keeps low _ _ lk) rfl S.co S.gen rfl (PySem.W.codeRec_of (e0.mod.kin.keeps low) hcd) (bn _ _ _ _ ?_)
  refine wpAny_newFunctionEnv_cells S.kind kinds fun env he s1 x1 => ?_
  subst he
  refine ⟨(e0.mod.nolimit.keeps low).keeps x1.toInCall.keep, codeAny_func ?_⟩
  obtain ⟨t, ht, q⟩ := body cdv A outer s H vs Q E p D h1 z (rm.deeper _) h
  have J : Inv (L2H.cxH CX0 P w K mg base N qual (defScope st) f cdv A outer s H E p) [] (start N vs) H s1 := L2H.inv_startH S pk e0 nl rv x1
  refine wpAny_mono (ht.run [] s1 _ H _ J q) (fun g s' y => ?_) fun _ _ y => y
  cases g with
  | next =>
    obtain ⟨σ', H', J', q'⟩ := y
    exact ⟨.non, H', J'.os, J'.bare, J'.base, J'.hok, rfl, q'⟩
  | ret u =>
    obtain ⟨v, σ', H', J', r', q'⟩ := y
    exact ⟨v, H', J'.os, J'.bare, J'.base, J'.hok, r', q'⟩
  | brk => exact (show ∃ _ _, _ from y).elim fun _ y => y.elim fun _ y => y.2.elim
  | cont => exact (show ∃ _ _, _ from y).elim fun _ y => y.elim fun _ y => y.2.elim
/-- such a def by its name -/
structure CalP (P : Program) (w : World) (K : PySem.W.Frag) (mg : Str → Option Value) (base : Heap) (k : Nat) (x : Str) (ps : List Str) (sp : Addr → Addr → Sp) : Prop where
  ex : ∃ f fd, mg x = some (.ref f) ∧ PySem.W.keepIn K (.ref f) = true ∧ Binds K fd ps [] ∧ FnP P w K mg base k f fd ps sp
section
variable {X : Cx}
theorem pe_calP {k : Nat} {x : Str} {ps : List Str} {sp : Addr → Addr → Sp} {p pos : Pos} {e : Expr} {es : List Expr} {t : TA} {h : Addr × Obj} {D : Addr} (C : CalP X.prog X.w X.K X.mg X.base k x ps sp) (hr : L2H.RoomH k X.A) (h1 : L2H.Hot1 X.A h) (hm : h ∈ X.pn) (z : Zc (.ref D) none h.2) (hg : Gl X x) (ha : PA X (e :: es) t)
    (hdb : (x == ("__debug__" : Str)) = false := by decide) (he : starEach (e :: es) X.env = (false, eval e X.env) :: starEach es X.env := by rfl) (hpl : (backTo pos (starEach es X.env)).any (·.1) = false := by rfl) :
    PE X (.Call (.Name x p) (e :: es) [] pos) (fun σ H Q => t σ H fun vs H1 => sp h.1 D vs H1 Q E0) := by
  obtain ⟨f, fd, g, kp, bn, F⟩ := C.ex
  refine ⟨fun pins s σ H Q I y => ?_⟩
  refine wpAny_Call_Name_kw (ld_glob I hg g ?_ hdb)
  refine PySem.W.callWith_K (h₀ := X.base) I.ok.mod.kin kp (thn (ha.run pos pins s σ H _ I y) fun us s1 ⟨vs, H1, J, r, q⟩ => ⟨J.kIn, ?_⟩) he hpl
  have nl : us.length = ps.length := r.length.symm.trans (F.len _ _ _ _ _ _ q)
  have b := bn s1 us J.kIn (by rw [List.append_nil]; exact nl)
  rw [List.append_nil] at b
  have pj := J.pin h (List.mem_append_left _ hm)
  refine wpAny_call (codeAny_mono (F.go X.A X.stack s1 H1 ⟨us, []⟩ us vs Q E0 h D hr h1 z ⟨pj.1, pj.2.1, fun m => (List.mem_cons.mp (J.stkSub h.1 m)).elim pj.2.2.1 pj.2.2.2.1, pj.2.2.2.2⟩ J.env0 b r q) fun c s' y => ?_)
  match c, y with
  | .ok (.ret u), y => exact J.after y
/-! ### isinstance of it -/
theorem pin_inst {pins : List (Addr × Obj)} {σ : L2.St} {H : Hp} {s : Shared} {p : Addr × Obj} {D : Addr} (I : Inv X pins σ H s) (hm : p ∈ X.pn) (z : Zc (.ref D) none p.2) (h1 : L2H.Hot1 X.A p) : PySem.W.InstAt s.heap p.1 p.2 D none := by
  obtain ⟨a, oc, od, oda, osl⟩ := p
  obtain ⟨_, vs, d, _⟩ := h1
  obtain ⟨z1, z2⟩ := z
  dsimp only at z1 z2 d
  subst z1 z2 d
  exact ⟨(I.pin _ (List.mem_append_left _ hm)).1, rfl, rfl, trivial⟩
def rIsP (K : PySem.W.Frag) (a D : Addr) : List V → Hp → VK → Prop := fun xs H Q => ∃ (c : V) (u : Value) (b : Bool), xs = [.ref a, c] ∧ L2.ExcC K D ∧ ClsV c u ∧ PySem.W.kitOne K (.ref D) u = some b ∧ Q (.bl b) H
theorem call_isP {p : Addr × Obj} {D : Addr} (hm : p ∈ X.pn) (z : Zc (.ref D) none p.2) (h1 : L2H.Hot1 X.A p) : CallR X (.builtin "isinstance") (rIsP X.K p.1 D) := by
  intro pins s σ H xs us Q I r h
  obtain ⟨c, u, b, rfl, C, k, e, q⟩ := h
  obtain ⟨u1, u2, rfl, r1, r2⟩ := vals2 r
  have e2 := k.eq r2
  subst e2
  cases (show u1 = Value.ref p.1 from r1)
  exact PySem.W.kia_one (PySem.W.handS_kitx_exc C.hg C.hk C.hs C.hd C.ha C.hn C.ht C.hm) I.kIn (pin_inst I hm z h1) e (fun z => nomatch z) fun tk => ⟨.bl b, H, I.tok tk, rfl, q⟩
def rIsPT (K : PySem.W.Frag) (a D : Addr) : List V → Hp → VK → Prop := fun xs H Q => ∃ (tp : Addr) (cs : List V) (us : List Value) (b : Bool), xs = [.ref a, .ref tp] ∧ L2.ExcC K D ∧ H tp = some (.tup cs) ∧ Paired ClsV cs us ∧ PySem.W.kitAny K (.ref D) us = some b ∧ Q (.bl b) H
theorem call_isPT {p : Addr × Obj} {D : Addr} (hm : p ∈ X.pn) (z : Zc (.ref D) none p.2) (h1 : L2H.Hot1 X.A p) : CallR X (.builtin "isinstance") (rIsPT X.K p.1 D) := by
  intro pins s σ H xs us Q I r h
  obtain ⟨tp, cs, ws, b, rfl, C, hT, k, e, q⟩ := h
  obtain ⟨u1, u2, rfl, r1, r2⟩ := vals2 r
  cases (show u1 = Value.ref p.1 from r1)
  cases (show u2 = Value.ref tp from r2)
  obtain ⟨_, its, rv, o, e1, e2, n, e3⟩ := (show ObjOk X.prog X.w H s.heap tp (.tup cs) from I.hok tp _ hT)
  have same := ClsV.all k rv
  subst same
  obtain ⟨oc, od, dt, sl⟩ := o
  simp only at e2 e3
  subst e2 e3
  exact PySem.W.kia_tup (PySem.W.handS_kitx_exc C.hg C.hk C.hs C.hd C.ha C.hn C.ht C.hm) I.kIn (pin_inst I hm z h1) e1 e (fun z => nomatch z) fun tk => ⟨.bl b, H, I.tok tk, rfl, q⟩
end
end CL
set_option Elab.async false
set_option linter.all false
set_option pp.maxSteps 600
set_option maxRecDepth 100000
set_option maxHeartbeats 4000000
namespace CL
open PySem PySem.Spec PyProof.Rows L2 GE HotX
abbrev sClass : Stmt := topS 47
abbrev nClass : List Str := ["caught", "odd", "some", "found", "word", "there"]
theorem scClass : FnScope nClass ["caught"] (defScope sClass) := ⟨rfl, rfl, rfl, by decide +kernel, rfl, by decide +kernel, by decide +kernel⟩
/-- the classes that it names -/
structure ClsG (K : PySem.W.Frag) (mg : Str → Option Value) where
  aNoPlan : Addr
  gNoPlan : mg "NoPlan" = some (.ref aNoPlan)
  aNoPerson : Addr
  gNoPerson : mg "NoPerson" = some (.ref aNoPerson)
  aNoMoment : Addr
  gNoMoment : mg "NoMoment" = some (.ref aNoMoment)
  aTooMany : Addr
  gTooMany : mg "TooMany" = some (.ref aTooMany)
  aNoOther : Addr
  gNoOther : mg "NoOther" = some (.ref aNoOther)
  aNoPlace : Addr
  gNoPlace : mg "NoPlace" = some (.ref aNoPlace)
  aNoEnd : Addr
  gNoEnd : mg "NoEnd" = some (.ref aNoEnd)
  aNoOrder : Addr
  gNoOrder : mg "NoOrder" = some (.ref aNoOrder)
  aNoNumber : Addr
  gNoNumber : mg "NoNumber" = some (.ref aNoNumber)
  aNoPatience : Addr
  gNoPatience : mg "NoPatience" = some (.ref aNoPatience)
  aNobody : Addr
  gNobody : mg "Nobody" = some (.ref aNobody)
  aNothing : Addr
  gNothing : mg "Nothing" = some (.ref aNothing)
  aNoHistory : Addr
  gNoHistory : mg "NoHistory" = some (.ref aNoHistory)
  aNoText : Addr
  gNoText : mg "NoText" = some (.ref aNoText)
  aNoForm : Addr
  gNoForm : mg "NoForm" = some (.ref aNoForm)
  aNoneYet : Addr
  gNoneYet : mg "NoneYet" = some (.ref aNoneYet)
  ve : mg "ValueError" = none
def clsWs (b1 : Bool) : List (Str × Bool) := [("NoPlan", b1)]
def metW (l : List (Str × Bool)) : List Str := (l.filter (·.2)).map (·.1)
theorem clsVs : ∀ l : List Addr, Paired ClsV (l.map V.ref) (l.map Value.ref)
  | [] => .nil
  | a :: l => .cons (.own a) (clsVs l)
/-- what the classes say of the class D -/
structure ClsF (K : PySem.W.Frag) (mg : Str → Option Value) (G : ClsG K mg) (D : Addr) (b1 : Bool) : Prop where
  ex : L2.ExcC K D
  ve : PySem.W.kitOne K (.ref D) (.type "ValueError") = some true
  o0 : PySem.W.kitAny K (.ref D) ([G.aNoPerson, G.aNoMoment, G.aTooMany, G.aNoOther, G.aNoPlace, G.aNoEnd].map Value.ref) = some false
  o1 : PySem.W.kitAny K (.ref D) ([G.aNoOrder, G.aNoNumber, G.aNoPatience, G.aNobody, G.aNothing, G.aNoHistory].map Value.ref) = some false
  o2 : PySem.W.kitAny K (.ref D) ([G.aNoText, G.aNoForm, G.aNoneYet].map Value.ref) = some false
  kb1 : PySem.W.kitOne K (.ref D) (.ref G.aNoPlan) = some b1
/-- D is that word's class -/
def ClsW (K : PySem.W.Frag) (mg : Str → Option Value) (G : ClsG K mg) (D : Addr) (word : Str) : Prop := ∃ b1, ClsF K mg G D b1 ∧ metW (clsWs b1) = [word]
def spClass (K : PySem.W.Frag) (mg : Str → Option Value) (G : ClsG K mg) : Addr → Addr → Sp := fun a D vs H Q _ => ∃ word, vs = [.ref a] ∧ ClsW K mg G D word ∧ ∀ H', Same H H' → Q (.str word) H'
section
variable {P : Program} {w : World} {K : PySem.W.Frag} {mg : Str → Option Value} {base : Heap}
theorem ok_class {f : Addr} {fd : FuncData} (F : Fun K "_law_class" "_law_class" sClass f fd) (T : Nm mg) (G : ClsG K mg) : FnP P w K mg base 1 f fd ["caught"] (spClass K mg G) := by
  refine fnP_of F scClass (fun a D vs H Q E ⟨word, e, _⟩ => by rw [e]; rfl) (fun cdv A outer s H vs Q E p D h1 z hr h => ?_)
  obtain ⟨word, rfl, ⟨b1, KF, hw⟩, q⟩ := h
  have nd := scClass.nd
  have pm : p ∈ (L2H.cxH CX0 P w K mg base nClass "_law_class" (defScope sClass) f cdv A outer s H E p).pn := List.mem_singleton.mpr rfl
  have hot : L2H.HotC (L2H.cxH CX0 P w K mg base nClass "_law_class" (defScope sClass) f cdv A outer s H E p) := ⟨p, h1, pm⟩
  refine ⟨_, (pss_cons (ps_set (i := 1) nd rfl (.inl rfl) (pe_not (pe_callB (call_isP pm z h1) (by rfl) T.isi (by decide +kernel) (pa_cons (pv 0) (pa_cons (pe_bltn (v := .ty "ValueError") (by rfl) G.ve (by decide +kernel) rfl) pa_nil)))))
    (pss_cons (ps_set (i := 1) nd rfl (.inl rfl) (pe_or (pv 1) (pe_one (pe_callB (call_isPT pm z h1) (by rfl) T.isi (by decide +kernel) (pa_cons (pv 0) (pa_cons (pe_tup (pa_cons (pe_glob (v := .ref G.aNoPerson) (by rfl) G.gNoPerson rfl (by decide)) (pa_cons (pe_glob (v := .ref G.aNoMoment) (by rfl) G.gNoMoment rfl (by decide)) (pa_cons (pe_glob (v := .ref G.aTooMany) (by rfl) G.gTooMany rfl (by decide)) (pa_cons (pe_glob (v := .ref G.aNoOther) (by rfl) G.gNoOther rfl (by decide)) (pa_cons (pe_glob (v := .ref G.aNoPlace) (by rfl) G.gNoPlace rfl (by decide)) (pa_cons (pe_glob (v := .ref G.aNoEnd) (by rfl) G.gNoEnd rfl (by decide)) pa_nil))))))) pa_nil))))))
    (pss_cons (ps_set (i := 1) nd rfl (.inl rfl) (pe_or (pv 1) (pe_one (pe_callB (call_isPT pm z h1) (by rfl) T.isi (by decide +kernel) (pa_cons (pv 0) (pa_cons (pe_tup (pa_cons (pe_glob (v := .ref G.aNoOrder) (by rfl) G.gNoOrder rfl (by decide)) (pa_cons (pe_glob (v := .ref G.aNoNumber) (by rfl) G.gNoNumber rfl (by decide)) (pa_cons (pe_glob (v := .ref G.aNoPatience) (by rfl) G.gNoPatience rfl (by decide)) (pa_cons (pe_glob (v := .ref G.aNobody) (by rfl) G.gNobody rfl (by decide)) (pa_cons (pe_glob (v := .ref G.aNothing) (by rfl) G.gNothing rfl (by decide)) (pa_cons (pe_glob (v := .ref G.aNoHistory) (by rfl) G.gNoHistory rfl (by decide)) pa_nil))))))) pa_nil))))))
    (pss_cons (ps_set (i := 1) nd rfl (.inl rfl) (pe_or (pv 1) (pe_one (pe_callB (call_isPT pm z h1) (by rfl) T.isi (by decide +kernel) (pa_cons (pv 0) (pa_cons (pe_tup (pa_cons (pe_glob (v := .ref G.aNoText) (by rfl) G.gNoText rfl (by decide)) (pa_cons (pe_glob (v := .ref G.aNoForm) (by rfl) G.gNoForm rfl (by decide)) (pa_cons (pe_glob (v := .ref G.aNoneYet) (by rfl) G.gNoneYet rfl (by decide)) pa_nil)))) pa_nil))))))
    (pss_cons (ps_set (i := 2) nd rfl (.inl rfl) (pe_lst pa_nil))
    (pss_cons (ps_expr (pe_bm PySem.F.plainAttrs_list PySem.F.slot_list_append PySem.F.type_list_append mt_append (pv 2) (pa_cons (pe_tup (pa_cons pe_str (pa_cons (pe_callB (call_isP pm z h1) (by rfl) T.isi (by decide +kernel) (pa_cons (pv 0) (pa_cons (pe_glob (v := .ref G.aNoPlan) (by rfl) G.gNoPlan rfl (by decide)) pa_nil))) pa_nil))) pa_nil)))
    (pss_cons (ps_setLcH (i := 3) (own := [("word", 4), ("there", 5)]) (g := gTup K 2 (gCons (gName 4) (gCons (gName 5) gNil))) hot nd rfl rfl (sw_true rfl rfl rfl (by decide +kernel)) (pv 2) (blkOk_by (N := nClass) (sc := defScope sClass) (by decide +kernel))
      (fun _ _ _ _ _ => pgh_tup (pgs_cons (pg_name (i := 4) nd rfl (.inl rfl) (.inr rfl)) (pgs_cons (pg_name (i := 5) nd rfl (.inl rfl) (.inr rfl)) pgs_nil))) (fun _ _ _ _ _ => pts_one (pt_val (pv 5))) (fun _ _ _ _ _ => pv 4))
    (pss_one (ps_ret (pe_ifExp (PW.pt (pw_and (pt_cmpR op_eq (pe_callB call_len_seq (by rfl) T.len PySem.boot_len (pa_cons (pv 3) pa_nil)) pe_int (nomark _)) (pw_and1 (pt_not (pt_val (pv 1)))))) (pe_ix ix_list (pv 3) pe_int (fun _ _ => rfl)) pe_str)))))))))), ?_⟩
  have two : ∀ {x y : V}, [x, y].length ≤ sizeLine := fun {x y} => small_le (by show 2 ≤ 1000; decide)
  refine ⟨.ref p.1, rfl, .ty "ValueError", .type "ValueError", true, rfl, KF.ex, .ty _, KF.ve, true, rfl, ?_⟩
  refine ⟨.bl false, rfl, false, rfl, iteF ⟨.ref p.1, rfl, small_le (by show 6 ≤ 1000; decide), fun o0 no0 => ?_⟩⟩
  have so0 : Same H (upd H o0 (.tup [.ref G.aNoPerson, .ref G.aNoMoment, .ref G.aTooMany, .ref G.aNoOther, .ref G.aNoPlace, .ref G.aNoEnd])) := same_upd no0
  have to0 : (upd H o0 (.tup [.ref G.aNoPerson, .ref G.aNoMoment, .ref G.aTooMany, .ref G.aNoOther, .ref G.aNoPlace, .ref G.aNoEnd])) o0 = some (.tup ([G.aNoPerson, G.aNoMoment, G.aTooMany, G.aNoOther, G.aNoPlace, G.aNoEnd].map V.ref)) := upd_same
  generalize upd H o0 (.tup [.ref G.aNoPerson, .ref G.aNoMoment, .ref G.aTooMany, .ref G.aNoOther, .ref G.aNoPlace, .ref G.aNoEnd]) = Ha0 at so0 to0 ⊢
  refine ⟨o0, _, _, false, rfl, KF.ex, to0, clsVs _, KF.o0, ?_⟩
  refine ⟨.bl false, rfl, false, rfl, iteF ⟨.ref p.1, rfl, small_le (by show 6 ≤ 1000; decide), fun o1 no1 => ?_⟩⟩
  have so1 : Same Ha0 (upd Ha0 o1 (.tup [.ref G.aNoOrder, .ref G.aNoNumber, .ref G.aNoPatience, .ref G.aNobody, .ref G.aNothing, .ref G.aNoHistory])) := same_upd no1
  have to1 : (upd Ha0 o1 (.tup [.ref G.aNoOrder, .ref G.aNoNumber, .ref G.aNoPatience, .ref G.aNobody, .ref G.aNothing, .ref G.aNoHistory])) o1 = some (.tup ([G.aNoOrder, G.aNoNumber, G.aNoPatience, G.aNobody, G.aNothing, G.aNoHistory].map V.ref)) := upd_same
  generalize upd Ha0 o1 (.tup [.ref G.aNoOrder, .ref G.aNoNumber, .ref G.aNoPatience, .ref G.aNobody, .ref G.aNothing, .ref G.aNoHistory]) = Ha1 at so1 to1 ⊢
  refine ⟨o1, _, _, false, rfl, KF.ex, to1, clsVs _, KF.o1, ?_⟩
  refine ⟨.bl false, rfl, false, rfl, iteF ⟨.ref p.1, rfl, small_le (by show 3 ≤ 1000; decide), fun o2 no2 => ?_⟩⟩
  have so2 : Same Ha1 (upd Ha1 o2 (.tup [.ref G.aNoText, .ref G.aNoForm, .ref G.aNoneYet])) := same_upd no2
  have to2 : (upd Ha1 o2 (.tup [.ref G.aNoText, .ref G.aNoForm, .ref G.aNoneYet])) o2 = some (.tup ([G.aNoText, G.aNoForm, G.aNoneYet].map V.ref)) := upd_same
  generalize upd Ha1 o2 (.tup [.ref G.aNoText, .ref G.aNoForm, .ref G.aNoneYet]) = Ha2 at so2 to2 ⊢
  refine ⟨o2, _, _, false, rfl, KF.ex, to2, clsVs _, KF.o2, ?_⟩
  refine ⟨Nat.zero_le _, fun l nl => ?_⟩
  have sl : Same Ha2 (upd Ha2 l (.lst [])) := same_upd nl
  have tl0 : (upd Ha2 l (.lst [])) l = some (.lst []) := upd_same
  show tSeq _ _ _ [some (.ref p.1), some (.bl false), some (.ref l), none, none, none] (upd Ha2 l (.lst []))
  have sH : Same H Ha2 := ((so0).trans so1).trans so2
  generalize hL : upd Ha2 l (.lst []) = HL at sl tl0 ⊢
  have nlH : H l = none := by
    cases e : H l with
    | none => rfl
    | some o => rw [sH _ _ e] at nl; cases nl
  have s0 : Same H HL := sH.trans sl
  -- NoPlan
  refine ⟨.ref l, rfl, .inl ⟨rfl, _, SqL.of tl0⟩, .ref p.1, rfl, .ref G.aNoPlan, .ref G.aNoPlan, b1, rfl, KF.ex, .own _, KF.kb1, two, fun p1 np1 => ?_⟩
  have up1 : Same HL (upd HL p1 (.tup [.str "NoPlan", .bl b1])) := same_upd np1
  have tp1 : (upd HL p1 (.tup [.str "NoPlan", .bl b1])) p1 = some (.tup [.str "NoPlan", .bl b1]) := upd_same
  generalize upd HL p1 (.tup [.str "NoPlan", .bl b1]) = Hb1 at up1 tp1 ⊢
  have m0 := up1 _ _ tl0
  refine ⟨l, _, .ref p1, rfl, rfl, m0, small1000 (by show 0 ≤ 1000; decide), ?_⟩
  have tl1 : (upd Hb1 l (.lst ([] ++ [.ref p1]))) l = some (.lst [.ref p1]) := upd_same
  have s1 : Same H (upd Hb1 l (.lst ([] ++ [.ref p1]))) := fun b o e => by
    rw [upd_ne (fun y => by rw [y, nlH] at e; cases e)]
    exact up1 _ _ (s0 _ _ e)
  have ne0 : ∀ {b : Addr} {xs : List V}, Hb1 b = some (.tup xs) → b ≠ l := fun {b xs} e y => by rw [y, m0] at e; cases e
  have tp1 : (upd Hb1 l (.lst ([] ++ [.ref p1]))) p1 = some (.tup [.str "NoPlan", .bl b1]) := by rw [upd_ne (ne0 tp1)]; exact tp1
  generalize upd Hb1 l (.lst ([] ++ [.ref p1])) = Hc1 at s1 tl1  tp1 ⊢
  have items : ∀ (j : Nat) (x : V), [V.ref p1][j]? = some x → ∃ b wd so, x = .ref b ∧ Hc1 b = some (.tup [.str wd, .bl so]) ∧ (clsWs b1)[j]? = some (wd, so) := fun j x hx => by
    match j, hx with
    | 0, hx => cases hx; exact ⟨p1, _, _, rfl, tp1, rfl⟩
  refine ⟨.ref l, rfl, l, [V.ref p1], rfl, SqL.of tl1, fun D2 n2 => ?_⟩
  refine ⟨fun j H' => H' = upd Hc1 D2 (.lst ((metW ((clsWs b1).take j)).map V.str)), rfl, fun j H' e => by rw [e]; exact SqL.of ((same_upd n2 : Same Hc1 _) _ _ tl1), fun j x H' hx e => ?_, fun H' e => ?_⟩
  · subst e
    obtain ⟨b, wd, so, rfl, hb, hk⟩ := items j x hx
    have hb' := (same_upd n2 : Same Hc1 (upd Hc1 D2 (.lst ((metW ((clsWs b1).take j)).map V.str)))) _ _ hb
    have est : metW ((clsWs b1).take (j + 1)) = metW ((clsWs b1).take j) ++ (if so = true then [wd] else []) := by
      unfold metW
      rw [List.take_add_one, hk, List.filter_append, List.map_append]
      cases so <;> rfl
    have len : ((metW ((clsWs b1).take j)).map V.str).length < sizeLine := by
      unfold metW
      rw [List.length_map, List.length_map]
      have y1 := List.length_filter_le (fun x : Str × Bool => x.2) ((clsWs b1).take j)
      have y2 : ((clsWs b1).take j).length ≤ 1 := by rw [List.length_take]; exact Nat.min_le_right _ _
      exact small1000 (by omega)
    refine ⟨b, [.str wd, .bl so], rfl, SqT.of hb', rfl, .str wd, [.bl so], rfl, .bl so, [], rfl, rfl, rfl, .bl so, rfl, so, rfl, ?_⟩
    cases so with
    | false =>
      refine iteF ?_
      show upd Hc1 D2 (.lst ((metW ((clsWs b1).take j)).map V.str)) = upd Hc1 D2 (.lst ((metW ((clsWs b1).take (j + 1))).map V.str))
      rw [est]
      show _ = upd Hc1 D2 (.lst ((metW ((clsWs b1).take j) ++ []).map V.str))
      rw [List.append_nil]
    | true =>
      refine iteT ⟨.str wd, rfl, _, upd_same, len, ?_⟩
      show _ = upd Hc1 D2 (.lst ((metW ((clsWs b1).take (j + 1))).map V.str))
      rw [est, upd_upd, List.map_append]
      rfl
  · have e2 : H' = upd Hc1 D2 (.lst [.str word]) := by
      rw [e]
      show upd Hc1 D2 (.lst ((metW ((clsWs b1).take 1)).map V.str)) = _
      have all : (clsWs b1).take 1 = clsWs b1 := rfl
      rw [all, hw]
      rfl
    subst e2
    have sF : Same H (upd Hc1 D2 (.lst [.str word])) := s1.trans (same_upd n2)
    have em : (upd Hc1 D2 (.lst [.str word])) D2 = some (.lst [.str word]) := upd_same
    refine ⟨.ref D2, rfl, D2, _, rfl, .inl (SqL.of em), rfl, _, rfl, ite2 (fun _ => ?_) (fun y => absurd (show decide (V.int ((1 : Nat) : Int) = V.int 1) = true from by decide) y)⟩
    refine ⟨.bl false, rfl, false, rfl, iteT ⟨.ref D2, rfl, D2, _, 0, .str word, rfl, rfl, SqL.of em, atI_nat (j := 0) rfl, q _ sF⟩⟩
end
end CL
set_option Elab.async false
set_option linter.all false
set_option maxRecDepth 100000
set_option maxHeartbeats 4000000
namespace CL
open PySem PySem.Spec PyProof.Rows L2 GE
abbrev sBag : Stmt := topS 40
abbrev sStir : Stmt := topS 41
abbrev sDraw : Stmt := topS 42
theorem scBag : FnScope ["script", "total", "cell"] ["script"] (defScope sBag) := ⟨rfl, rfl, rfl, by decide +kernel, rfl, by decide +kernel, by decide +kernel⟩
theorem scStir : FnScope ["number", "place", "one", "two"] ["number", "place"] (defScope sStir) := ⟨rfl, rfl, rfl, by decide +kernel, rfl, by decide +kernel, by decide +kernel⟩
theorem scDraw : FnScope ["bag", "many", "cell", "found"] ["bag", "many"] (defScope sDraw) := ⟨rfl, rfl, rfl, by decide +kernel, rfl, by decide +kernel, by decide +kernel⟩
abbrev MSP : Int := 2305843009213693951
theorem t64 : (2 : Int) ^ 64 = 18446744073709551616 := by decide +kernel
abbrev M60 : Nat := 1000000000000000000
/-- a bag's place, and its cells' -/
structure Bg where
  a : Addr
  c : Addr
/-- the bag: the cells, which is next, what is left of one, how many draws (n at most), a number mixed -/
structure BagAt (n : Nat) (H : Hp) (r : Bg) : Prop where
  ex : ∃ (ns : List Int) (i : Nat) (b k t : Int), H r.a = some (.lst [.ref r.c, .int i, .int b, .int k, .int t]) ∧ H r.c = some (.lst (ns.map V.int)) ∧ i ≤ ns.length ∧ 0 ≤ b ∧ 0 ≤ k ∧ k ≤ n ∧ 0 ≤ t ∧ t < MSP
/-- all but the bag stays -/
structure Mv (r : Bg) (H H' : Hp) : Prop where
  keep : ∀ b o, b ≠ r.a → H b = some o → H' b = some o
theorem Mv.refl (r : Bg) (H : Hp) : Mv r H H := ⟨fun _ _ _ h => h⟩
theorem Mv.of {r : Bg} {H H' : Hp} (s : Same H H') : Mv r H H' := ⟨fun b o _ h => s b o h⟩
theorem Mv.trans {r : Bg} {H H1 H2 : Hp} (a : Mv r H H1) (b : Mv r H1 H2) : Mv r H H2 := ⟨fun c o n h => b.keep c o n (a.keep c o n h)⟩
theorem Mv.upd {r : Bg} {p : Addr} {H H' : Hp} {o : HO} (m : Mv r H H') (hn : H p = none) : Mv r H (upd H' p o) := ⟨fun b x nb e => by
  rw [upd_ne (ne_of_none e hn)]
  exact m.keep b x nb e⟩
theorem BagAt.mono {n m : Nat} {H : Hp} {r : Bg} (h : BagAt n H r) (l : n ≤ m) : BagAt m H r := by
  obtain ⟨ns, i, b, k, t, er, ec, hi, hb, hk, hn, ht⟩ := h
  exact ⟨ns, i, b, k, t, er, ec, hi, hb, hk, by omega, ht⟩
theorem BagAt.same {n : Nat} {r : Bg} {H H' : Hp} (s : Same H H') (hr : BagAt n H r) : BagAt n H' r := by
  obtain ⟨ns, i, b, k, t, er, ec, h⟩ := hr
  exact ⟨ns, i, b, k, t, s _ _ er, s _ _ ec, h⟩
theorem BagAt.some {n : Nat} {r : Bg} {H : Hp} (hr : BagAt n H r) : H r.a ≠ none := by
  obtain ⟨ns, i, b, k, t, er, h⟩ := hr
  rw [er]
  exact nofun
theorem BagAt.someC {n : Nat} {r : Bg} {H : Hp} (hr : BagAt n H r) : H r.c ≠ none := by
  obtain ⟨ns, i, b, k, t, er, ec, h⟩ := hr
  rw [ec]
  exact nofun
/-- a place that is neither -/
structure Off (r : Bg) (p : Addr) : Prop where
  a : p ≠ r.a
  c : p ≠ r.c
theorem BagAt.new {n : Nat} {r : Bg} {p : Addr} {H : Hp} (hr : BagAt n H r) (np : H p = none) : Off r p := ⟨fun z => hr.some (by rw [← z]; exact np), fun z => hr.someC (by rw [← z]; exact np)⟩
theorem BagAt.store {n : Nat} {r : Bg} {p : Addr} {H : Hp} {o : HO} (hr : BagAt n H r) (f : Off r p) : BagAt n (upd H p o) r := by
  obtain ⟨ns, i, b, k, t, er, ec, h⟩ := hr
  exact ⟨ns, i, b, k, t, by rw [upd_ne (Ne.symm f.a)]; exact er, by rw [upd_ne (Ne.symm f.c)]; exact ec, h⟩
theorem BagAt.kx {n : Nat} {r : Bg} {H H' : Hp} (h : BagAt n H r) (e : Ex H H') : BagAt n H' r := by
  obtain ⟨ns, i, b, k, t, er, ec, h⟩ := h
  exact ⟨ns, i, b, k, t, e.lst er, e.lst ec, h⟩
theorem bag_ne {c r : Addr} {H : Hp} {ns : List Int} {vs : List V} (er : H r = some (.lst (.ref c :: vs))) (ec : H c = some (.lst (ns.map V.int))) : c ≠ r := fun z => by
  rw [z, er] at ec
  cases ns with
  | nil => simp at ec
  | cons x ns => simp at ec
theorem mem_keep {r : Bg} {b : Addr} {H H' : Hp} (m : Mv r H H') (n : b ≠ r.a) (h : H b ≠ none) : H' b ≠ none := fun z => by
  cases q : H b with
  | none => exact h q
  | some o =>
    rw [m.keep b o n q] at z
    cases z
def spStir : Sp := fun vs H Q _ => ∃ a b : Int, vs = [.int a, .int b] ∧ 0 ≤ a ∧ a < MSP ∧ 0 ≤ b ∧ b ≤ (M60 : Int) ∧ ∀ x, Q (.int x) H
def spDraw (r : Bg) : Sp := fun vs H Q _ => ∃ (m : Int) (n : Nat), vs = [.ref r.a, .int m] ∧ BagAt n H r ∧ n < M60 ∧ 1 ≤ m ∧ m < 2 ^ 140 ∧ ∀ x H', BagAt (n + 1) H' r → Mv r H H' → 0 ≤ x → x < m → Q (.int x) H'
def spBag (K : PySem.W.Frag) : Sp := fun vs H Q _ => ∃ (a : Addr) (ns : List Int), vs = [.ref a] ∧ SqL K H a (ns.map V.int) ∧ ∀ (r : Bg) H', Same H H' → H r.a = none → BagAt 0 H' r → Q (.ref r.a) H'
section
variable {P : Program} {w : World} {K : PySem.W.Frag} {mg : Str → Option Value} {base : Heap}
theorem ok_stir {f : Addr} {fd : FuncData} (F : Fun K "_law_stir" "_law_stir" sStir f fd) : FnOk P w K mg base CX0 1 f fd ["number", "place"] spStir := by
  refine F.ok scStir (fun vs H Q E ⟨a, b, e, _⟩ => by rw [e]; rfl) (fun cdv A outer s H vs Q E hr h => ?_)
  obtain ⟨a, b, rfl, a0, a1, b0, b1, q⟩ := h
  have nd := scStir.nd
  refine ⟨_, pss_cons (ps_set (i := 2) nd rfl (.inl rfl) (pe_op op_mod (pe_op op_add (pe_op op_add (pe_op op_mul (pv 0) pe_int) (pe_op op_mul (pv 1) pe_int)) pe_int) pe_int))
    (pss_cons (ps_set (i := 3) nd rfl (.inl rfl) (pe_op op_mod (pe_op op_mul (pv 2) (pv 2)) pe_int))
    (pss_one (ps_ret (pe_op op_fdiv (pe_op op_mod (pe_op op_add (pe_op op_add (pe_op op_mul (pv 3) pe_int) (pe_op op_mul (pe_op op_mul (pv 1) (pv 1)) pe_int)) (pe_op op_fdiv (pv 2) pe_int)) pe_int) pe_int)))), ?_⟩
  have a1' : a < 2305843009213693951 := a1
  have b1' : b ≤ 1000000000000000000 := b1
  refine ⟨.int a, rfl, a, 998244353, rfl, rfl, .inr ⟨by decide, by decide⟩, .int b, rfl, b, 1000000007, rfl, rfl, .inr ⟨by decide, by decide⟩, _, _, rfl, rfl, _, 5, rfl, rfl, _, _, rfl, rfl, (by show (0 : Int) < 2305843009213693951; decide), ?_⟩
  show tSeq _ _ _ [some (.int a), some (.int b), some (.int ((a * 998244353 + b * 1000000007 + 5) % 2305843009213693951)), none] H
  generalize hz : (a * 998244353 + b * 1000000007 + 5) % 2305843009213693951 = z
  have z0 : 0 ≤ z := by rw [← hz]; exact Int.emod_nonneg _ (by decide)
  have z1 : z < 2305843009213693951 := by rw [← hz]; exact Int.emod_lt_of_pos _ (by decide)
  refine ⟨.int z, rfl, .int z, rfl, z, z, rfl, rfl, .inl ⟨by rw [t64]; omega, by rw [t64]; omega⟩, _, _, rfl, rfl, (by show (0 : Int) < 2305843009213693951; decide), ?_⟩
  refine ⟨.int (z * z % 2305843009213693951), rfl, z * z % 2305843009213693951, 2860486313, rfl, rfl, .inr ⟨by decide, by decide⟩, .int b, rfl, .int b, rfl, b, b, rfl, rfl, .inl ⟨by rw [t64]; omega, by rw [t64]; omega⟩, _, 48271, rfl, rfl, .inr ⟨by decide, by decide⟩, _, _, rfl, rfl, .int z, rfl, z, 3, rfl, rfl, ⟨by decide, by decide⟩, _, _, rfl, rfl, _, _, rfl, rfl, (by show (0 : Int) < 2305843009213693921; decide), _, _, rfl, rfl, ⟨by decide, by decide⟩, ?_⟩
  exact q _
theorem ok_draw {f : Addr} {r : Bg} {fd : FuncData} (F : Fun K "_law_draw" "_law_draw" sDraw f fd) (hlen : mg "len" = none) (CS : Cal P w K mg base 1 "_law_stir" ["number", "place"] spStir) : FnOk P w K mg base CX0 2 f fd ["bag", "many"] (spDraw r) := by
  refine F.ok scDraw (fun vs H Q E ⟨m, n, e, _⟩ => by rw [e]; rfl) (fun cdv A outer s H vs Q E hr h => ?_)
  obtain ⟨m, n, rfl, ⟨ns, i, b, k, t, er, ec, hi, hb, hk, hn, ht0, ht1⟩, hn1, m1, m2, q⟩ := h
  have nd := scDraw.nd
  refine ⟨_, pss_cons (ps_if (pt_cmpR op_eq (pv 1) pe_int (nomark _)) (pss_one (ps_ret pe_int)) pss_nil)
    (pss_cons (ps_asg (pe_op op_add (pe_ix ix_list (pv 0) pe_int (fun _ _ => rfl)) pe_int) (pg_sub (pv 0) pe_int set_list))
    (pss_cons (ps_if (PW.pt (pw_and (pt_cmpR op_lt (pe_ix ix_list (pv 0) pe_int (fun _ _ => rfl)) pe_int (nomark _)) (pw_and1 (pt_cmpR op_eq (pe_ix ix_list (pv 0) pe_int (fun _ _ => rfl)) (pe_callB call_len_seq (by rfl) hlen PySem.boot_len (pa_cons (pe_ix ix_list (pv 0) pe_int (fun _ _ => rfl)) pa_nil)) (nomark _)))))
      (pss_one (ps_ret (pe_op op_mod (pe_cal CS hr (by rfl) (pa_cons (pe_ix ix_list (pv 0) pe_int (fun _ _ => rfl)) (pa_cons (pe_ix ix_list (pv 0) pe_int (fun _ _ => rfl)) pa_nil))) (pv 1)))) pss_nil)
    (pss_cons (ps_if (pt_cmpR op_lt (pe_ix ix_list (pv 0) pe_int (fun _ _ => rfl)) pe_int (nomark _))
      (pss_cons (ps_set (i := 2) nd rfl (.inl rfl) (pe_ix ix_list (pe_ix ix_list (pv 0) pe_int (fun _ _ => rfl)) (pe_ix ix_list (pv 0) pe_int (fun _ _ => rfl)) (fun _ _ => rfl)))
      (pss_cons (ps_asg (pe_op op_add (pe_ix ix_list (pv 0) pe_int (fun _ _ => rfl)) pe_int) (pg_sub (pv 0) pe_int set_list))
      (pss_cons (ps_if (pt_cmpR op_lt (pv 2) (pe_op op_pow pe_int pe_int) (nomark _)) (pss_one (ps_ret (pe_op op_mod (pe_cal CS hr (by rfl) (pa_cons (pe_op op_mod (pv 2) pe_int) (pa_cons (pe_ix ix_list (pv 0) pe_int (fun _ _ => rfl)) pa_nil))) (pv 1)))) pss_nil)
      (pss_one (ps_asg (pe_op op_sub (pv 2) (pe_op op_pow pe_int pe_int)) (pg_sub (pv 0) pe_int set_list)))))) pss_nil)
    (pss_cons (ps_set (i := 3) nd rfl (.inl rfl) (pe_op op_mod (pe_ix ix_list (pv 0) pe_int (fun _ _ => rfl)) (pv 1)))
    (pss_cons (ps_asg (pe_op op_fdivW (pe_ix ix_list (pv 0) pe_int (fun _ _ => rfl)) (pv 1)) (pg_sub (pv 0) pe_int set_list))
    (pss_one (ps_ret (pv 3)))))))), ?_⟩
  have hcr := bag_ne er ec
  have mdiv : ∀ f : Int, CDivW f m := fun f => wide_div (b := 140) (by omega) (by omega) (by decide) (by decide)
  have mp : (0 : Int) < m := by omega
  refine ⟨.int m, rfl, rfl, _, rfl, ite2 (fun e => ?_) (fun _ => ?_)⟩
  · exact q 0 H (BagAt.mono (n := n) ⟨ns, i, b, k, t, er, ec, hi, hb, hk, hn, ht0, ht1⟩ (Nat.le_succ n)) (Mv.refl r H) (Int.le_refl 0) mp
  -- the counter
  refine ⟨.ref r.a, rfl, r.a, _, 3, .int k, rfl, rfl, SqL.of er, atI_nat (j := 3) rfl, k, 1, rfl, rfl, .ref r.a, rfl, r.a, _, 3, 3, rfl, rfl, er, rfl, ?_⟩
  show tSeq _ _ _ _ (upd H r.a (.lst [.ref r.c, .int i, .int b, .int (k + 1), .int t]))
  have m1' : Mv r H (upd H r.a (.lst [.ref r.c, .int i, .int b, .int (k + 1), .int t])) := ⟨fun b o nb e => by rw [upd_ne nb]; exact e⟩
  have er1 : (upd H r.a (.lst [.ref r.c, .int i, .int b, .int (k + 1), .int t])) r.a = some (.lst [.ref r.c, .int i, .int b, .int (k + 1), .int t]) := upd_same
  generalize upd H r.a (.lst [.ref r.c, .int i, .int b, .int (k + 1), .int t]) = H1 at m1' er1
  have ec1 := m1'.keep r.c _ hcr ec
  have fin1 : ∀ x : Int, Q (.int (x % m)) H1 := fun x => q _ H1 ⟨ns, i, b, k + 1, t, er1, ec1, hi, hb, by omega, by omega, ht0, ht1⟩ m1' (Int.emod_nonneg _ (by omega)) (Int.emod_lt_of_pos _ mp)
  have last : ∀ (H2 : Hp) (i2 : Nat) (b2 : Int) (y : Option V), Mv r H H2 → H2 r.a = some (.lst [.ref r.c, .int i2, .int b2, .int (k + 1), .int t]) → i2 ≤ ns.length → 0 ≤ b2 → ∀ x : Int, x = b2 % m → Q (.int x) (upd H2 r.a (.lst [.ref r.c, .int i2, .int (b2 / m), .int (k + 1), .int t])) := fun H2 i2 b2 y mv e2 hi2 hb2 x hx => by
    rw [hx]
    exact q _ _ ⟨ns, i2, b2 / m, k + 1, t, upd_same, by rw [upd_ne hcr]; exact mv.keep r.c _ hcr ec, hi2, Int.ediv_nonneg hb2 (by omega), by omega, by omega, ht0, ht1⟩ ⟨fun b o nb e => by rw [upd_ne nb]; exact mv.keep b o nb e⟩ (Int.emod_nonneg _ (by omega)) (Int.emod_lt_of_pos _ mp)
  refine ⟨.ref r.a, rfl, r.a, _, 2, .int b, rfl, rfl, SqL.of er1, atI_nat (j := 2) rfl, b, 2, rfl, rfl, decide (b < 2), rfl, ?_⟩
  by_cases hb2 : b < 2
  · rw [decide_eq_true hb2]
    refine iteT ⟨.ref r.a, rfl, r.a, _, 1, .int i, rfl, rfl, SqL.of er1, atI_nat (j := 1) rfl, .ref r.a, rfl, r.a, _, 0, .ref r.c, rfl, rfl, SqL.of er1, atI_nat (j := 0) rfl, r.c, _, rfl, .inl (SqL.of ec1), rfl, _, rfl, ite2 (fun e => ?_) (fun e => ?_)⟩
    · refine ⟨.ref r.a, rfl, r.a, _, 4, .int t, rfl, rfl, SqL.of er1, atI_nat (j := 4) rfl, .ref r.a, rfl, r.a, _, 3, .int (k + 1), rfl, rfl, SqL.of er1, atI_nat (j := 3) rfl, t, k + 1, rfl, ht0, ht1, by omega, by omega, fun x => ?_⟩
      exact ⟨.int m, rfl, x, m, rfl, rfl, mp, fin1 x⟩
    · have hi2 : i < ns.length := by
        rcases Nat.lt_or_ge i ns.length with z | z
        · exact z
        · refine absurd ?_ e
          have : i = ns.length := by omega
          rw [this, List.length_map]
          exact decide_eq_true rfl
      refine ⟨.ref r.a, rfl, r.a, _, 2, .int b, rfl, rfl, SqL.of er1, atI_nat (j := 2) rfl, b, 2, rfl, rfl, decide (b < 2), rfl, ?_⟩
      rw [decide_eq_true hb2]
      refine iteT ?_
      refine ⟨.ref r.a, rfl, r.a, _, 0, .ref r.c, rfl, rfl, SqL.of er1, atI_nat (j := 0) rfl, .ref r.a, rfl, r.a, _, 1, .int i, rfl, rfl, SqL.of er1, atI_nat (j := 1) rfl, r.c, _, i, .int ns[i], rfl, rfl, SqL.of ec1, atI_nat (j := i) (by rw [List.getElem?_map, List.getElem?_eq_getElem hi2]; rfl), ?_⟩
      refine ⟨.ref r.a, rfl, r.a, _, 1, .int i, rfl, rfl, SqL.of er1, atI_nat (j := 1) rfl, i, 1, rfl, rfl, .ref r.a, rfl, r.a, _, 1, 1, rfl, rfl, er1, rfl, ?_⟩
      show tSeq _ _ _ _ (upd H1 r.a (.lst [.ref r.c, .int (i + 1 : Int), .int b, .int (k + 1), .int t]))
      have m2' : Mv r H (upd H1 r.a (.lst [.ref r.c, .int (i + 1 : Int), .int b, .int (k + 1), .int t])) := ⟨fun b o nb e => by rw [upd_ne nb]; exact m1'.keep b o nb e⟩
      have er2 : (upd H1 r.a (.lst [.ref r.c, .int (i + 1 : Int), .int b, .int (k + 1), .int t])) r.a = some (.lst [.ref r.c, .int ((i + 1 : Nat) : Int), .int b, .int (k + 1), .int t]) := by rw [upd_same]; rfl
      generalize upd H1 r.a (.lst [.ref r.c, .int (i + 1 : Int), .int b, .int (k + 1), .int t]) = H2 at m2' er2
      generalize hcell : ns[i] = cell
      have ec2 := m2'.keep r.c _ hcr ec
      refine ⟨.int cell, rfl, 10, 18, rfl, rfl, ⟨by decide, by decide, by decide⟩, cell, _, rfl, rfl, _, rfl, ?_⟩
      rw [show (10 : Int) ^ (18 : Int).toNat = 1000000000000000000 from p18]
      refine ite2 (fun e1 => ?_) (fun e1 => ?_)
      · refine ⟨.int cell, rfl, cell, 2305843009213693951, rfl, rfl, (by show (0 : Int) < 2305843009213693951; decide), .ref r.a, rfl, r.a, _, 3, .int (k + 1), rfl, rfl, SqL.of er2, atI_nat (j := 3) rfl, cell % 2305843009213693951, k + 1, rfl, Int.emod_nonneg _ (by decide), Int.emod_lt_of_pos _ (by decide), by omega, by omega, fun x => ?_⟩
        exact ⟨.int m, rfl, x, m, rfl, rfl, mp, q _ H2 ⟨ns, i + 1, b, k + 1, t, er2, ec2, hi2, hb, by omega, by omega, ht0, ht1⟩ m2' (Int.emod_nonneg _ (by omega)) (Int.emod_lt_of_pos _ mp)⟩
      · have hc18 : 1000000000000000000 ≤ cell := by
          rcases Int.lt_or_le cell 1000000000000000000 with z | z
          · exact absurd (decide_eq_true z) e1
          · exact z
        refine ⟨.int cell, rfl, 10, 18, rfl, rfl, ⟨by decide, by decide, by decide⟩, cell, _, rfl, rfl, .ref r.a, rfl, r.a, _, 2, 2, rfl, rfl, er2, rfl, ?_⟩
        show tSeq _ _ _ _ (upd H2 r.a (.lst [.ref r.c, .int ((i + 1 : Nat) : Int), .int (cell - (10 : Int) ^ (18 : Int).toNat), .int (k + 1), .int t]))
        rw [show (10 : Int) ^ (18 : Int).toNat = 1000000000000000000 from p18]
        have m3' : Mv r H (upd H2 r.a (.lst [.ref r.c, .int ((i + 1 : Nat) : Int), .int (cell - 1000000000000000000), .int (k + 1), .int t])) := ⟨fun b o nb e => by rw [upd_ne nb]; exact m2'.keep b o nb e⟩
        have er3 : (upd H2 r.a (.lst [.ref r.c, .int ((i + 1 : Nat) : Int), .int (cell - 1000000000000000000), .int (k + 1), .int t])) r.a = some (.lst [.ref r.c, .int ((i + 1 : Nat) : Int), .int (cell - 1000000000000000000), .int (k + 1), .int t]) := upd_same
        have hb3 : 0 ≤ cell - 1000000000000000000 := by omega
        generalize cell - 1000000000000000000 = b2 at m3' er3 hb3
        generalize upd H2 r.a (.lst [.ref r.c, .int ((i + 1 : Nat) : Int), .int b2, .int (k + 1), .int t]) = H3 at m3' er3
        exact ⟨.ref r.a, rfl, r.a, _, 2, .int b2, rfl, rfl, SqL.of er3, atI_nat (j := 2) rfl, .int m, rfl, b2, m, rfl, rfl, mp, .ref r.a, rfl, r.a, _, 2, .int b2, rfl, rfl, SqL.of er3, atI_nat (j := 2) rfl, .int m, rfl, b2, m, rfl, rfl, mdiv b2, .ref r.a, rfl, r.a, _, 2, 2, rfl, rfl, er3, rfl, .int (b2 % m), rfl, last H3 (i + 1) b2 none m3' er3 hi2 hb3 _ rfl⟩
  · rw [decide_eq_false hb2]
    refine iteF ⟨.ref r.a, rfl, r.a, _, 2, .int b, rfl, rfl, SqL.of er1, atI_nat (j := 2) rfl, b, 2, rfl, rfl, decide (b < 2), rfl, ?_⟩
    rw [decide_eq_false hb2]
    exact iteF ⟨.ref r.a, rfl, r.a, _, 2, .int b, rfl, rfl, SqL.of er1, atI_nat (j := 2) rfl, .int m, rfl, b, m, rfl, rfl, mp, .ref r.a, rfl, r.a, _, 2, .int b, rfl, rfl, SqL.of er1, atI_nat (j := 2) rfl, .int m, rfl, b, m, rfl, rfl, mdiv b, .ref r.a, rfl, r.a, _, 2, 2, rfl, rfl, er1, rfl, .int (b % m), rfl, last H1 i b none m1' er1 hi hb _ rfl⟩
theorem ok_bag {f : Addr} {fd : FuncData} (F : Fun K "_law_bag" "_law_bag" sBag f fd) (hlist : mg "list" = none) : FnOk P w K mg base CX0 1 f fd ["script"] (spBag K) := by
  refine F.ok scBag (fun vs H Q E ⟨a, ns, e, _⟩ => by rw [e]; rfl) (fun cdv A outer s H vs Q E hr h => ?_)
  obtain ⟨a, ns, rfl, hS, q⟩ := h
  have nd := scBag.nd
  refine ⟨_, pss_cons (ps_set (i := 1) nd rfl (.inl rfl) pe_int)
    (pss_cons (ps_for PassesOwn.never rfl (pi_list (pv 0)) (pg_name (i := 2) nd rfl (.inl rfl))
      (pss_one (ps_set (i := 1) nd rfl (.inl rfl) (pe_op op_mod (pe_op op_add (pe_op op_add (pe_op op_mul (pv 1) pe_int) (pe_op op_mod (pv 2) pe_int)) pe_int) pe_int))))
    (pss_one (ps_ret (pe_lst (pa_cons (pe_callTy call_list_of (by rfl) hlist (by decide +kernel) (pa_cons (pv 0) pa_nil)) (pa_cons pe_int (pa_cons pe_int (pa_cons pe_int (pa_cons (pv 1) pa_nil))))))))), ?_⟩
  refine ⟨.ref a, rfl, a, rfl, ⟨_, hS⟩, for_list (xs := ns.map V.int) (fun i σ H2 => H2 = H ∧ ∃ t y2, σ = [some (.ref a), some (.int t), y2] ∧ 0 ≤ t ∧ t < MSP) ⟨rfl, 1, none, rfl, by decide, by decide⟩
    (fun i σ H2 _ ⟨e, _⟩ => by rw [e]; exact hS) (fun i x σ H2 hx ⟨e, t, y2, es, t0, t1⟩ => ?_) (fun σ H2 ⟨e, t, y2, es, t0, t1⟩ => ?_)⟩
  · subst e es
    obtain ⟨c, rfl⟩ : ∃ c, x = .int c := by
      rw [List.getElem?_map] at hx
      cases q : ns[i]? with
      | none => rw [q] at hx; cases hx
      | some c => rw [q] at hx; cases hx; exact ⟨c, rfl⟩
    exact ⟨.int t, rfl, t, 1000003, rfl, rfl, .inr ⟨by decide, by decide⟩, .int c, rfl, c, _, rfl, rfl, (by show (0 : Int) < 2305843009213693951; decide), _, _, rfl, rfl, _, 1, rfl, rfl, _, _, rfl, rfl, (by show (0 : Int) < 2305843009213693951; decide), rfl, _, some (.int c), rfl, Int.emod_nonneg _ (by decide), Int.emod_lt_of_pos _ (by decide)⟩
  · subst e es
    refine ⟨.ref a, rfl, a, _, rfl, .inl hS, fun l nl => ⟨.int t, rfl, small_le (by show 5 ≤ 1000; decide), fun r nr => ?_⟩⟩
    have s1 : Same H2 (upd H2 l (.lst (ns.map V.int))) := same_upd nl
    have lr : l ≠ r := fun z => by rw [← z, upd_same] at nr; cases nr
    exact q ⟨r, l⟩ _ (s1.trans (same_upd nr)) (s1.free nr) ⟨ns, 0, 0, 0, t, upd_same, by rw [upd_ne lr]; exact upd_same, Nat.zero_le _, Int.le_refl 0, Int.le_refl 0, Int.le_refl 0, t0, t1⟩
end
end CL
set_option Elab.async false
set_option linter.all false
set_option maxRecDepth 100000
set_option maxHeartbeats 4000000
namespace CL
open PySem PySem.Spec PyProof.Rows L2 GE
/-! ### how much a thing weighs -/
mutual
def wt : PyData → Nat
  | .none => 4
  | .bool _ => 5
  | .int i => i.natAbs.log2 + 4
  | .str x => (reprText x).length
  | .list xs => wtAll xs + 4
  | .tuple xs => wtAll xs + 4
  | .dict kvs => kvs.length * 100000000 + 2
def wtAll : List PyData → Nat
  | [] => 0
  | x :: xs => wt x + 2 + wtAll xs
end
structure B (k u : Nat) (d : PyData) : Prop where
  dp : d.depth ≤ k
  wt : wt d ≤ u
  sh : d.showable = true
theorem B.mono {k u k' u' : Nat} {d : PyData} (b : B k u d) (hk : k ≤ k') (hu : u ≤ u') : B k' u' d := ⟨Nat.le_trans b.dp hk, Nat.le_trans b.wt hu, b.sh⟩
theorem all_bnd {k u : Nat} : ∀ {ds : List PyData}, (∀ x ∈ ds, B k u x) → PyData.depthAll ds ≤ k ∧ wtAll ds ≤ ds.length * (u + 2) ∧ PyData.showableAll ds = true
  | [], _ => ⟨Nat.zero_le _, by simp [wtAll], by simp [PyData.showableAll]⟩
  | x :: ds, h => by
    obtain ⟨h1, h2, h3⟩ := all_bnd (ds := ds) fun y hy => h y (List.mem_cons_of_mem _ hy)
    have hx := h x List.mem_cons_self
    refine ⟨?_, ?_, ?_⟩
    · show max _ _ ≤ k
      exact Nat.max_le.mpr ⟨hx.dp, h1⟩
    · show wt x + 2 + wtAll ds ≤ _
      rw [List.length_cons, Nat.add_mul]
      have := hx.wt
      omega
    · simp [PyData.showableAll, hx.sh, h3]
theorem B.list {k u n : Nat} {ds : List PyData} (h : ∀ x ∈ ds, B k u x) (hn : ds.length ≤ n) : B (k + 1) (n * (u + 2) + 4) (.list ds) := by
  obtain ⟨h1, h2, h3⟩ := all_bnd h
  have := Nat.mul_le_mul_right (u + 2) hn
  refine ⟨?_, ?_, ?_⟩
  · show PyData.depthAll ds + 1 ≤ k + 1
    omega
  · show wtAll ds + 4 ≤ _
    omega
  · simp [PyData.showable, h3]
theorem B.tuple {k u n : Nat} {ds : List PyData} (h : ∀ x ∈ ds, B k u x) (hn : ds.length ≤ n) : B (k + 1) (n * (u + 2) + 4) (.tuple ds) := by
  obtain ⟨h1, h2, h3⟩ := all_bnd h
  have := Nat.mul_le_mul_right (u + 2) hn
  refine ⟨?_, ?_, ?_⟩
  · show PyData.depthAll ds + 1 ≤ k + 1
    omega
  · show wtAll ds + 4 ≤ _
    omega
  · simp [PyData.showable, h3]
theorem b_none {k : Nat} : B k 200 .none := ⟨Nat.zero_le _, by decide, rfl⟩
theorem b_bool {k : Nat} {b : Bool} : B k 200 (.bool b) := ⟨Nat.zero_le _, by show 5 ≤ 200; decide, rfl⟩
theorem b_int {k : Nat} {i : Int} (h : i.natAbs < 2 ^ 140) : B k 200 (.int i) := by
  have h1 : i.natAbs.log2 < 140 := PySem.Flt.log2_lt_of (by decide) h
  exact ⟨Nat.zero_le _, by show i.natAbs.log2 + 4 ≤ 200; omega, by simp [PyData.showable]; omega⟩
/-- a list of lo to hi things, each P -/
def Ls (lo hi : Nat) (P : PyData → Prop) (d : PyData) : Prop := ∃ ds, d = .list ds ∧ lo ≤ ds.length ∧ ds.length ≤ hi ∧ ∀ x ∈ ds, P x
def Tp (n : Nat) (P : PyData → Prop) (d : PyData) : Prop := ∃ ds, d = .tuple ds ∧ ds.length ≤ n ∧ ∀ x ∈ ds, P x
/-! ### evaluation where nothing but the bag changes, by so many draws -/
theorem BagAt.to {a b : Nat} {H : Hp} {r : Bg} (h : BagAt a H r) (e : a ≤ b := by omega) : BagAt b H r := h.mono e
/-- W is tracked, the bag in it -/
structure Wk (W : Addr → Prop) (H : Hp) (r : Bg) : Prop where
  bag : W r.a
  trk : ∀ b, W b → H b ≠ none
theorem Mv.hw {r : Bg} {W : Addr → Prop} {H H' : Hp} (m : Mv r H H') (h : W r.a) : Same (Hw W H) (Hw W H') := fun b o e => by
  have hb := Hw.ne e
  rw [Hw.at hb]
  exact m.keep b o (fun z => hb (by rw [z]; exact h)) (Hw.sub W H b o e)
theorem Wk.mv {n : Nat} {W : Addr → Prop} {H H' : Hp} {r : Bg} (k : Wk W H r) (re : BagAt n H' r) (m : Mv r H H') : Wk W H' r := ⟨k.bag, fun b hb z => by
  by_cases hr : b = r.a
  · rw [hr] at z
    exact re.some z
  · exact mem_keep m hr (k.trk b hb) z⟩
theorem Wk.out {W : Addr → Prop} {H : Hp} {r : Bg} {p : Addr} (k : Wk W H r) (n : H p = none) : ¬ W p := fun z => k.trk p z n
theorem Wk.add {W : Addr → Prop} {H : Hp} {r : Bg} {p : Addr} (k : Wk W H r) (n : H p ≠ none) : Wk (fun b => W b ∨ b = p) H r := ⟨.inl k.bag, fun b hb => hb.elim (k.trk b) fun z => by rw [z]; exact n⟩
abbrev Gam := List (V × PyData)
def GOk (W : Addr → Prop) (H : Hp) (G : Gam) : Prop := ∀ p ∈ G, Rp (Hw W H) p.1 p.2
theorem GOk.mv {r : Bg} {W : Addr → Prop} {H H' : Hp} {G : Gam} (g : GOk W H G) (m : Mv r H H') (h : W r.a) : GOk W H' G := fun p hp => Rp.sm (m.hw h) (g p hp)
theorem GOk.cons {W : Addr → Prop} {H : Hp} {G : Gam} {v : V} {d : PyData} (g : GOk W H G) (h : Rp (Hw W H) v d) : GOk W H ((v, d) :: G) := fun p hp => by
  rcases List.mem_cons.mp hp with e | hp
  · rw [e]; exact h
  · exact g p hp
structure Se (n : Nat) (r : Bg) (W : Addr → Prop) (G : Gam) (H : Hp) : Prop where
  re : BagAt n H r
  wk : Wk W H r
  ok : GOk W H G
theorem Se.mv {n m : Nat} {r : Bg} {W : Addr → Prop} {G : Gam} {H H' : Hp} (s : Se n r W G H) (re : BagAt m H' r) (mv : Mv r H H') : Se m r W G H' := ⟨re, s.wk.mv re mv, s.ok.mv mv s.wk.bag⟩
theorem Se.same {n : Nat} {r : Bg} {W : Addr → Prop} {G : Gam} {H H' : Hp} (s : Se n r W G H) (m : Same H H') : Se n r W G H' := s.mv (s.re.same m) (Mv.of m)
theorem Se.to {n m : Nat} {r : Bg} {W : Addr → Prop} {G : Gam} {H : Hp} (s : Se n r W G H) (e : n ≤ m := by omega) : Se m r W G H := ⟨s.re.mono e, s.wk, s.ok⟩
theorem rp_list {H : Hp} {v : V} {ds : List PyData} (h : Rp H v (.list ds)) : ∃ p xs, v = .ref p ∧ H p = some (.lst xs) ∧ RpAll H xs ds := by
  cases h with
  | lst h1 h2 => exact ⟨_, _, rfl, h1, h2⟩
theorem RpAll.drop {H : Hp} : ∀ {vs : List V} {ds : List PyData} (n : Nat), RpAll H vs ds → RpAll H (vs.drop n) (ds.drop n)
  | _, _, 0, h => h
  | _, _, _ + 1, .nil => .nil
  | _, _, n + 1, .cons _ t => RpAll.drop n t
theorem rp_intsA {H : Hp} : ∀ ns : List Int, RpAll H (ns.map V.int) (ns.map PyData.int)
  | [] => .nil
  | n :: ns => .cons (.int n) (rp_intsA ns)
section
variable {c c1 c2 c3 : Nat} {r : Bg} {W : Addr → Prop} {G : Gam} {σ : L2.St}
def Ev (c : Nat) (r : Bg) (W : Addr → Prop) (G : Gam) (σ : L2.St) (te : TE) (P : PyData → Prop) : Prop := ∀ n H Q, n + c ≤ M60 → Se n r W G H → (∀ v d H', BagAt (n + c) H' r → Mv r H H' → Rp (Hw W H') v d → P d → Q v H') → te σ H Q
def EvI (c : Nat) (r : Bg) (W : Addr → Prop) (G : Gam) (σ : L2.St) (te : TE) (P : Int → Prop) : Prop := ∀ n H Q, n + c ≤ M60 → Se n r W G H → (∀ i H', BagAt (n + c) H' r → Mv r H H' → P i → Q (.int i) H') → te σ H Q
def EvA (c : Nat) (r : Bg) (W : Addr → Prop) (G : Gam) (σ : L2.St) (ta : TA) (m : Nat) (P : PyData → Prop) : Prop := ∀ n H Q, n + c ≤ M60 → Se n r W G H → (∀ vs ds H', BagAt (n + c) H' r → Mv r H H' → RpAll (Hw W H') vs ds → ds.length = m → (∀ x ∈ ds, P x) → Q vs H') → ta σ H Q
theorem Ev.imp {te : TE} {P P' : PyData → Prop} (e : Ev c r W G σ te P) (h : ∀ d, P d → P' d) : Ev c r W G σ te P' := fun n H Q l s q => e n H Q l s fun v d H' re m rp p => q v d H' re m rp (h d p)
theorem EvI.imp {te : TE} {P P' : Int → Prop} (e : EvI c r W G σ te P) (h : ∀ d, P d → P' d) : EvI c r W G σ te P' := fun n H Q l s q => e n H Q l s fun i H' re m p => q i H' re m (h i p)
theorem EvI.ev {te : TE} {P : Int → Prop} {P' : PyData → Prop} (e : EvI c r W G σ te P) (h : ∀ i, P i → P' (.int i)) : Ev c r W G σ te P' := fun n H Q l s q => e n H Q l s fun i H' re m p => q _ _ H' re m (.int i) (h i p)
theorem ev_int {i : Int} : EvI 0 r W G σ (tC (.int i)) (· = i) := fun n H Q l s q => q i H s.re (Mv.refl r H) rfl
theorem ev_non {P : PyData → Prop} (h : P .none) : Ev 0 r W G σ (tC .non) P := fun n H Q l s q => q _ _ H s.re (Mv.refl r H) .non h
theorem ev_bl {b : Bool} {P : PyData → Prop} (h : P (.bool b)) : Ev 0 r W G σ (tC (.bl b)) P := fun n H Q l s q => q _ _ H s.re (Mv.refl r H) (.bl b) h
theorem ev_str {x : Str} {P : PyData → Prop} (h : P (.str x)) : Ev 0 r W G σ (tC (.str x)) P := fun n H Q l s q => q _ _ H s.re (Mv.refl r H) (.str x) h
theorem ev_dict {P : PyData → Prop} (h : P (.dict [])) : Ev 0 r W G σ tDNewK P := fun n H Q l s q => fun p np => q (.ref p) (.dict []) _ (s.re.same (same_upd np)) (Mv.of (same_upd np)) (.dct (by rw [Hw.at (s.wk.out np)]; exact upd_same)) h
theorem ev_var {i : Nat} {v : V} {d : PyData} {P : PyData → Prop} (h1 : σ[i]? = some (some v)) (h2 : (v, d) ∈ G) (h : P d) : Ev 0 r W G σ (tVar i) P := fun n H Q l s q => ⟨v, h1, q v d H s.re (Mv.refl r H) (s.ok _ h2) h⟩
theorem ev_varI {i : Nat} {x : Int} (h1 : σ[i]? = some (some (.int x))) : EvI 0 r W G σ (tVar i) (· = x) := fun n H Q l s q => ⟨.int x, h1, q x H s.re (Mv.refl r H) rfl⟩
theorem eva_nil {P : PyData → Prop} : EvA 0 r W G σ tNil 0 P := fun n H Q l s q => q [] [] H s.re (Mv.refl r H) .nil rfl (fun _ h => nomatch h)
theorem eva_cons {te : TE} {ta : TA} {m : Nat} {P : PyData → Prop} (e : Ev c1 r W G σ te P) (a : EvA c2 r W G σ ta m P) : EvA (c1 + c2) r W G σ (tCons te ta) (m + 1) P := fun n H Q l s q =>
  e n H _ (by omega) s fun v d H1 re1 m1 rp1 p1 => a (n + c1) H1 _ (by omega) (s.mv re1 m1) fun vs ds H2 re2 m2 rp2 l2 p2 => q (v :: vs) (d :: ds) H2 re2.to (m1.trans m2) (.cons (Rp.sm (m2.hw s.wk.bag) rp1) rp2) (by rw [List.length_cons, l2]) fun x hx => by
    rcases List.mem_cons.mp hx with z | z
    · rw [z]; exact p1
    · exact p2 x z
theorem ev_lst {ta : TA} {m : Nat} {P : PyData → Prop} (a : EvA c r W G σ ta m P) (hn : m ≤ 1000 := by decide) : Ev c r W G σ (tLst ta) (Ls m m P) := fun n H Q l s q =>
  a n H _ l s fun vs ds H1 re1 m1 rp1 l1 p1 => ⟨small_le (by rw [rp1.length]; omega), fun p np => q (.ref p) (.list ds) _ (re1.same (same_upd np)) (m1.trans (Mv.of (same_upd np)))
    (.lst (by rw [Hw.at ((s.wk.mv re1 m1).out np)]; exact upd_same) (RpAll.sm (Same.hw (same_upd np)) rp1)) ⟨ds, rfl, Nat.le_of_eq l1.symm, Nat.le_of_eq l1, p1⟩⟩
theorem ev_tup {ta : TA} {m : Nat} {P : PyData → Prop} (a : EvA c r W G σ ta m P) (hn : m ≤ 1000 := by decide) : Ev c r W G σ (tTup ta) (Tp m P) := fun n H Q l s q =>
  a n H _ l s fun vs ds H1 re1 m1 rp1 l1 p1 => ⟨small_le (by rw [rp1.length]; omega), fun p np => q (.ref p) (.tuple ds) _ (re1.same (same_upd np)) (m1.trans (Mv.of (same_upd np)))
    (.tup (by rw [Hw.at ((s.wk.mv re1 m1).out np)]; exact upd_same) (RpAll.sm (Same.hw (same_upd np)) rp1)) ⟨ds, rfl, Nat.le_of_eq l1, p1⟩⟩
/-- two lists, the one behind the other, by what each is -/
theorem ev_catG {ta tb : TE} {PA PB PC : PyData → Prop} (a : Ev c1 r W G σ ta PA) (b : Ev c2 r W G σ tb PB) (h : ∀ d e, PA d → PB e → ∃ ds es, d = .list ds ∧ e = .list es ∧ ds.length ≤ 1000 ∧ es.length ≤ 1000 ∧ PC (.list (ds ++ es))) : Ev (c1 + c2) r W G σ (tOp rCat ta tb) PC := fun n H Q l s q =>
  a n H _ (by omega) s fun v d H1 re1 m1 rp1 e1 => b (n + c1) H1 _ (by omega) (s.mv re1 m1) fun v2 d2 H2 re2 m2 rp2 e2 => by
    obtain ⟨ds, es, z1, z2, hn, hm, hc⟩ := h d d2 e1 e2
    subst z1 z2
    obtain ⟨p, xs, rfl, hp, hx⟩ := rp_list (Rp.sm (m2.hw s.wk.bag) rp1)
    obtain ⟨p', ys, rfl, hp', hy⟩ := rp_list rp2
    have wk2 := s.wk.mv re2 (m1.trans m2)
    exact ⟨p, p', xs, ys, rfl, rfl, Hw.sub W H2 _ _ hp, Hw.sub W H2 _ _ hp', small_add (by rw [hx.length]; exact hn) (by rw [hy.length]; exact hm), fun t nt => q (.ref t) (.list (ds ++ es)) _ (re2.same (same_upd nt)).to ((m1.trans m2).trans (Mv.of (same_upd nt)))
      (.lst (by rw [Hw.at (wk2.out nt)]; exact upd_same) (RpAll.sm (Same.hw (same_upd nt)) (hx.append hy))) hc⟩
theorem ev_cat {ta tb : TE} {l1 h1 l2 h2 : Nat} {P : PyData → Prop} (a : Ev c1 r W G σ ta (Ls l1 h1 P)) (b : Ev c2 r W G σ tb (Ls l2 h2 P)) (hn : h1 ≤ 1000 := by decide) (hm : h2 ≤ 1000 := by decide) : Ev (c1 + c2) r W G σ (tOp rCat ta tb) (Ls (l1 + l2) (h1 + h2) P) :=
  ev_catG a b fun d e ⟨ds, e1, a1, b1, p1⟩ ⟨es, e2, a2, b2, p2⟩ => ⟨ds, es, e1, e2, by omega, by omega, ds ++ es, rfl, by rw [List.length_append]; omega, by rw [List.length_append]; omega, fun x hx => (List.mem_append.mp hx).elim (p1 x) (p2 x)⟩
theorem part_none : ∀ n H (Q : Option Int → Hp → Prop), n + 0 ≤ M60 → Se n r W G H → (∀ l H', BagAt (n + 0) H' r → Mv r H H' → l = none → Q l H') → tNoPart σ H Q := fun n H Q l s q => q none H s.re (Mv.refl r H) rfl
theorem part_some {te : TE} {P : Int → Prop} (e : EvI c r W G σ te P) : ∀ n H (Q : Option Int → Hp → Prop), n + c ≤ M60 → Se n r W G H → (∀ l H', BagAt (n + c) H' r → Mv r H H' → (∃ i, l = some i ∧ P i) → Q l H') → tPart te σ H Q := fun n H Q l s q => e n H _ l s fun i H' re m p => ⟨i, rfl, q (some i) H' re m ⟨i, rfl, p⟩⟩
/-- a part of a list, by its ends -/
theorem ev_slG {K : PySem.W.Frag} {te : TE} {tl th : TO} {PA PC : PyData → Prop} {PL PH : Option Int → Prop} (a : Ev c1 r W G σ te PA) (hl : ∀ n H Q, n + c2 ≤ M60 → Se n r W G H → (∀ l H', BagAt (n + c2) H' r → Mv r H H' → PL l → Q l H') → tl σ H Q) (hh : ∀ n H Q, n + c3 ≤ M60 → Se n r W G H → (∀ l H', BagAt (n + c3) H' r → Mv r H H' → PH l → Q l H') → th σ H Q)
    (h : ∀ d l u, PA d → PL l → PH u → ∃ ds, d = .list ds ∧ PC (.list ((ds.drop (HT.sIx ds.length 0 l)).take (HT.sIx ds.length ds.length u - HT.sIx ds.length 0 l)))) :
    Ev (c1 + c2 + c3) r W G σ (tSl (rSlL K) te tl th) PC := fun n H Q l s q =>
  a n H _ (by omega) s fun v d H1 re1 m1 rp1 e1 => hl (n + c1) H1 _ (by omega) (s.mv re1 m1) fun l H2 re2 m2 pl => hh (n + c1 + c2) H2 _ (by omega) (s.mv re2 (m1.trans m2)) fun u H3 re3 m3 pu => by
    obtain ⟨ds, z, hc⟩ := h d l u e1 pl pu
    subst z
    obtain ⟨p, xs, rfl, hp, hx⟩ := rp_list (Rp.sm ((m2.trans m3).hw s.wk.bag) rp1)
    have m13 := m1.trans (m2.trans m3)
    have wk3 := s.wk.mv re3 m13
    have lx := hx.length
    refine ⟨p, xs, rfl, SqL.of (Hw.sub W H3 _ _ hp), fun t nt => q (.ref t) _ _ (re3.same (same_upd nt)).to (m13.trans (Mv.of (same_upd nt)))
      (.lst (by rw [Hw.at (wk3.out nt)]; exact upd_same) (RpAll.sm (Same.hw (same_upd nt)) ((hx.drop _).take _))) ?_⟩
    rw [lx]
    exact hc
theorem ev_sl {K : PySem.W.Frag} {te : TE} {tl th : TO} {lo hi : Nat} {P : PyData → Prop} {PL PH : Option Int → Prop} (a : Ev c1 r W G σ te (Ls lo hi P)) (hl : ∀ n H Q, n + c2 ≤ M60 → Se n r W G H → (∀ l H', BagAt (n + c2) H' r → Mv r H H' → PL l → Q l H') → tl σ H Q) (hh : ∀ n H Q, n + c3 ≤ M60 → Se n r W G H → (∀ l H', BagAt (n + c3) H' r → Mv r H H' → PH l → Q l H') → th σ H Q) :
    Ev (c1 + c2 + c3) r W G σ (tSl (rSlL K) te tl th) (Ls 0 hi P) := ev_slG a hl hh fun d l u ⟨ds, e1, a1, b1, p1⟩ _ _ => ⟨ds, e1, _, rfl, Nat.zero_le _, by rw [List.length_take, List.length_drop]; omega, fun x hx => p1 x (List.mem_of_mem_drop (List.mem_of_mem_take hx))⟩
theorem ev_draw {tm : TE} {m : Int} (e : EvI c r W G σ tm (· = m)) (h0 : σ[0]? = some (some (.ref r.a))) (h1 : 1 ≤ m) (h2 : m < 2 ^ 140) : EvI (c + 1) r W G σ (tCall (spDraw r) [] E0 (tCons (tVar 0) (tCons tm tNil))) (fun x => 0 ≤ x ∧ x < m) := fun n H Q l s q =>
  ⟨.ref r.a, h0, e n H _ (by omega) s fun i H1 re1 m1 e1 => ⟨m, n + c, by rw [e1]; rfl, re1, by omega, h1, h2, fun x H' re' m' x0 x1 => q x H' re'.to (m1.trans m') ⟨x0, x1⟩⟩⟩
theorem ev_ixG {K : PySem.W.Frag} {ta ti : TE} {PA PC : PyData → Prop} {PI : Int → Prop} (a : Ev c1 r W G σ ta PA) (b : EvI c2 r W G σ ti PI) (h : ∀ d i, PA d → PI i → ∃ ds, d = .list ds ∧ 0 ≤ i ∧ i < (ds.length : Int) ∧ ∀ x, ds[i.toNat]? = some x → PC x) : Ev (c1 + c2) r W G σ (tOp (rIxL K) ta ti) PC := fun n H Q l s q =>
  a n H _ (by omega) s fun v d H1 re1 m1 rp1 e1 => b (n + c1) H1 _ (by omega) (s.mv re1 m1) fun i H2 re2 m2 hi => by
    obtain ⟨ds, z, i0, i1, hc⟩ := h d i e1 hi
    subst z
    obtain ⟨p, xs, rfl, hp, hx⟩ := rp_list (Rp.sm (m2.hw s.wk.bag) rp1)
    obtain ⟨j, rfl⟩ : ∃ j : Nat, i = (j : Int) := ⟨i.toNat, (Int.toNat_of_nonneg i0).symm⟩
    have hj : j < xs.length := by have := hx.length; omega
    obtain ⟨d, hd, hr⟩ := hx.get (List.getElem?_eq_getElem hj)
    exact ⟨p, xs, j, xs[j], rfl, rfl, SqL.of (Hw.sub W H2 _ _ hp), atI_nat (List.getElem?_eq_getElem hj), q _ d H2 re2.to (m1.trans m2) hr (hc d hd)⟩
theorem ev_ix {K : PySem.W.Frag} {ta ti : TE} {lo hi : Nat} {P : PyData → Prop} (a : Ev c1 r W G σ ta (Ls lo hi P)) (b : EvI c2 r W G σ ti (fun x => 0 ≤ x ∧ x < (lo : Int))) : Ev (c1 + c2) r W G σ (tOp (rIxL K) ta ti) P :=
  ev_ixG a b fun d i ⟨ds, e1, a1, b1, p1⟩ hi => ⟨ds, e1, hi.1, by omega, fun x hx => p1 x (List.mem_of_getElem? hx)⟩
theorem ev_len {K : PySem.W.Frag} {i : Nat} {v : V} {ds : List PyData} (h1 : σ[i]? = some (some v)) (h2 : (v, PyData.list ds) ∈ G) :
    EvI 0 r W G σ (tCB (fun xs H Q => ∃ p ys, xs = [.ref p] ∧ (SqL K H p ys ∨ SqT K H p ys) ∧ Q (.int ys.length) H) (tCons (tVar i) tNil)) (· = (ds.length : Int)) := fun n H Q l s q => by
  obtain ⟨p, xs, rfl, hp, hx⟩ := rp_list (s.ok _ h2)
  exact ⟨.ref p, h1, p, xs, rfl, .inl (SqL.of (Hw.sub W H _ _ hp)), q _ H s.re (Mv.refl r H) (by rw [hx.length])⟩
theorem evi_add {ta tb : TE} {x y : Int} (a : EvI c1 r W G σ ta (· = x)) (b : EvI c2 r W G σ tb (· = y)) : EvI (c1 + c2) r W G σ (tOp (rI0 fun i j => .int (i + j)) ta tb) (· = x + y) := fun n H Q l s q =>
  a n H _ (by omega) s fun i H1 re1 m1 e1 => b (n + c1) H1 _ (by omega) (s.mv re1 m1) fun j H2 re2 m2 e2 => ⟨i, j, rfl, rfl, q _ H2 re2.to (m1.trans m2) (by rw [e1, e2])⟩
theorem evi_sub {ta tb : TE} {x y : Int} (a : EvI c1 r W G σ ta (· = x)) (b : EvI c2 r W G σ tb (· = y)) : EvI (c1 + c2) r W G σ (tOp (rI0 fun i j => .int (i - j)) ta tb) (· = x - y) := fun n H Q l s q =>
  a n H _ (by omega) s fun i H1 re1 m1 e1 => b (n + c1) H1 _ (by omega) (s.mv re1 m1) fun j H2 re2 m2 e2 => ⟨i, j, rfl, rfl, q _ H2 re2.to (m1.trans m2) (by rw [e1, e2])⟩
theorem evi_pow {x y : Int} (h : CPow x y) : EvI 0 r W G σ (tOp (rI CPow fun i j => .int (i ^ j.toNat)) (tC (.int x)) (tC (.int y))) (· = x ^ y.toNat) := fun n H Q l s q =>
  ⟨x, y, rfl, rfl, h, q _ H s.re (Mv.refl r H) rfl⟩
theorem evi_neg {x : Int} : EvI 0 r W G σ (tUn (rU fun i => .int (-i)) (tC (.int x))) (· = -x) := fun n H Q l s q => ⟨x, rfl, q _ H s.re (Mv.refl r H) rfl⟩
theorem ev_set {te : TE} {i n : Nat} {P : PyData → Prop} {D : Ends} {H : Hp} (e : Ev c r W G σ te P) (l : n + c ≤ M60) (s : Se n r W G H) (h : ∀ v d H', Se (n + c) r W ((v, d) :: G) H' → Mv r H H' → P d → D.nx (σ.set i (some v)) H') : tAsg te (gName i) D σ H :=
  e n H _ l s fun v d H' re m rp p => h v d H' ⟨re, s.wk.mv re m, (s.ok.mv m s.wk.bag).cons rp⟩ m p
theorem evi_set {te : TE} {i n : Nat} {P : Int → Prop} {D : Ends} {H : Hp} (e : EvI c r W G σ te P) (l : n + c ≤ M60) (s : Se n r W G H) (h : ∀ x H', Se (n + c) r W G H' → Mv r H H' → P x → D.nx (σ.set i (some (.int x))) H') : tAsg te (gName i) D σ H :=
  e n H _ l s fun x H' re m p => h x H' (s.mv re m) m p
end
end CL
set_option Elab.async false
set_option linter.all false
set_option maxRecDepth 100000
set_option maxHeartbeats 4000000
namespace CL
open PySem PySem.Spec PyProof.Rows L2 GE
/-! ### a def that is called where no repr is under way -/
structure FnG (P : Program) (w : World) (K : PySem.W.Frag) (mg : Str → Option Value) (base : Heap) (k : Nat) (f : Addr) (fd : FuncData) (ps : List Str) (sp : Sp) : Prop where
  run : ∀ (A : Around) (outer : List Env) (s : Shared) (H : Hp) (args : Args) (us : List Value) (vs : List V) (Q : VK) (E : XK), A.guards = some [] → Room k A → Env0 P w K mg base A outer s H → BindsTo s fd args (ps.zip us) → Vals vs us → sp vs H Q E →
    codeAny (model P w) A (.call (.ref f) args) (CR CX0 outer P w H s Q E) s
theorem fng_of {P : Program} {w : World} {K : PySem.W.Frag} {mg : Str → Option Value} {base : Heap} {x qual : Str} {st : Stmt} {f : Addr} {fd : FuncData} {N ps : List Str} {k : Nat} {sp : Sp} (F : Fun K x qual st f fd) (S : FnScope N ps (defScope st)) (len : ∀ vs H Q E, sp vs H Q E → vs.length = ps.length)
    (hbody : ∀ (cdv : Value) (A : Around) (outer : List Env) (s : Shared) (H : Hp) (vs : List V) (Q : VK) (E : XK), A.guards = some [] → Room k (A.deeper (envOfC qual (defScope st) s.heap.objs.size f cdv)) → sp vs H Q E →
      ∃ t, PSs (cxOf CX0 P w K mg base N qual (defScope st) f cdv A outer s H E).nox (defBody st) t ∧ t { nx := fun _ H' => Q .non H', rt := Q } (start N vs) H) : FnG P w K mg base (k + 1) f fd ps sp := by
  obtain ⟨oc, od, kV, doc, pm, an, cdv, ct, osl, rfl, lk, hcd⟩ := F.ex
  constructor
  intro A outer s H args us vs Q E hgd hr e0 hb r hsp
  have hl : vs.length = ps.length := len _ _ _ _ hsp
  have up : ∀ b o, base.get? b = some o → s.heap.get? b = some o := fun b o e => (e0.bs b o e).1
  have KX : K.In s.heap := e0.mod.kin.keeps up
  have pk : ∀ y ∈ ps.zip us, (defScope st).names.lookup y.1 = some .local ∨ ((defScope st).names.lookup y.1 = some .cell ∧ ((cellsFrom (s.heap.objs.size + 1) (defScope st).names []).lookup y.1).isSome = true) := by
    rintro ⟨n, v⟩ hy
    exact (S.par n (List.of_mem_zip hy).1).imp id fun q => ⟨q, PySem.W.cellsFrom_some _ _ _ (.inl q)⟩
  refine codeAny_call_function hr.depth (KX _ _ lk) rfl S.co S.gen rfl (PySem.W.codeRec_of KX hcd) (hb _ _ _ _ (wpAny_newFunctionEnv_cells S.kind pk fun env he s1 x => ?_))
  subst he
  obtain ⟨t, ht, hq⟩ := hbody cdv A outer s H vs Q E hgd (hr.deeper _) hsp
  refine ⟨(e0.mod.nolimit.keeps up).keeps x.toInCall.keep, codeAny_func (wpAny_mono (ht.nox.run [] s1 (start N vs) H _ (inv_start S hr.hd e0 hl r x) hq) (fun fl s' hs => ?_) fun _ _ z => z)⟩
  cases fl with
  | ret u =>
    obtain ⟨v, _, H', J, rv, z⟩ := hs
    exact ⟨v, H', J.os, J.bare, J.base, J.hok, rv, z⟩
  | next =>
    obtain ⟨_, H', J, z⟩ := hs
    exact ⟨.non, H', J.os, J.bare, J.base, J.hok, rfl, z⟩
  | brk => exact (let ⟨_, _, _, z⟩ := hs; z : False).elim
  | cont => exact (let ⟨_, _, _, z⟩ := hs; z : False).elim
/-! ### repr of data -/
section
variable {X : Cx} {pins : List (Addr × Obj)} {σ : L2.St} {H : Hp} {s : Shared}
mutual
theorem Rp.reads (hsys : ∃ o, X.base.get? sysModules = some o) (I : Inv X pins σ H s) : ∀ (d : PyData) (v : V) (u : Value), Rp H v d → RelV v u → ∃ as, Reads s.heap u d as ∧ sysModules ∉ as
  | .none, _, _, h, r => by cases h; cases r; exact ⟨_, Reads.none, by simp⟩
  | .bool b, _, _, h, r => by cases h; cases r; exact ⟨_, Reads.bool b, by simp⟩
  | .int i, _, _, h, r => by cases h; obtain ⟨t, rfl⟩ := r; exact ⟨_, Reads.int i t, by simp⟩
  | .str x, _, _, h, r => by cases h; obtain ⟨t, rfl⟩ := r; exact ⟨_, Reads.str x t, by simp⟩
  | .list ds, _, _, h, r => by
    cases h with
    | @lst a xs _ hs ha =>
      cases r
      obtain ⟨its, rv, ⟨o, n, ho, hc, _, hd⟩, _⟩ := I.list (SqL.of hs)
      obtain ⟨as, hr, hn⟩ := RpAll.reads hsys I ds _ its ha rv
      refine ⟨_, Reads.list ho hc hd hr, fun z => (List.mem_cons.mp z).elim (fun e => ?_) hn⟩
      obtain ⟨o1, ho1⟩ := hsys
      have z := (I.bs _ _ ho1).2
      rw [e, hs] at z
      cases z
  | .tuple ds, _, _, h, r => by
    cases h with
    | tup hs ha =>
      cases r
      obtain ⟨its, rv, ⟨o, ho, hc, n, hd⟩, _⟩ := I.tuple (SqT.of hs)
      obtain ⟨as, hr, hn⟩ := RpAll.reads hsys I ds _ its ha rv
      exact ⟨_, Reads.tuple ho hc hd hr, hn⟩
  | .dict kvs, _, _, h, r => by
    cases h with
    | @dct a hs =>
      cases r
      obtain ⟨_, hne, vs, kv, o, es, ep, ho, hx, hd, _, hp, _⟩ := (show ObjOk X.prog X.w H s.heap a (.dK []) from I.hok a _ hs)
      cases kv
      have e0 : es.toList = [] := List.eq_nil_of_length_eq_zero hp.length
      refine ⟨_, Reads.dict ho hx.1 hd (by rw [e0]; exact .nil) (by rw [e0]; exact .nil), fun z => ?_⟩
      have z' : sysModules = a := by simpa using z
      rw [z'] at hne
      simp at hne
theorem RpAll.reads (hsys : ∃ o, X.base.get? sysModules = some o) (I : Inv X pins σ H s) : ∀ (ds : List PyData) (vs : List V) (us : List Value), RpAll H vs ds → Vals vs us → ∃ as, ReadsAll s.heap us ds as ∧ sysModules ∉ as
  | [], _, _, h, r => by cases h; cases r; exact ⟨_, ReadsAll.nil, by simp⟩
  | d :: ds, _, _, h, r => by
    cases h with
    | cons h1 h2 =>
      cases r with
      | cons r1 r2 =>
        obtain ⟨as, q1, n1⟩ := Rp.reads hsys I d _ _ h1 r1
        obtain ⟨bs, q2, n2⟩ := RpAll.reads hsys I ds _ _ h2 r2
        exact ⟨_, ReadsAll.cons q1 q2, fun z => (List.mem_append.mp z).elim n1 n2⟩
end
end
/-! ### how long a thing is, shown -/
theorem piled_le {ts : List Str} : ∀ {ds : List PyData}, ts = PyData.shownAll ds → (∀ d ∈ ds, d.shown.length ≤ wt d) → piled ts ≤ wtAll ds
  | [], e, _ => by rw [e]; exact Nat.le_refl 0
  | d :: ds, e, h => by
    have ih := piled_le (ts := PyData.shownAll ds) rfl fun x hx => h x (List.mem_cons_of_mem _ hx)
    have h1 := h d List.mem_cons_self
    rw [e]
    show d.shown.length + 2 + piled (PyData.shownAll ds) ≤ wt d + 2 + wtAll ds
    omega
theorem list_len (ts : List Str) : (listText ts).length ≤ piled ts + 2 := by
  cases ts with
  | nil => decide +kernel
  | cons t r =>
    have h := textFrom_length_pos r 1 (("[" : Str) ++ (if (0 : Nat) > 0 then ", " else "" : String) ++ t) (Nat.succ_pos 0)
    have hX : (listText (t :: r)).length = (textFrom 1 (("[" : Str) ++ (if (0 : Nat) > 0 then ", " else "" : String) ++ t) r).length + 1 := by
      show (textFrom 1 _ r ++ "]").length = _
      rw [Str.length_append]
      rfl
    have e1 : ((("[" : Str) ++ (if (0 : Nat) > 0 then ", " else "" : String) ++ t) : Str).length = 1 + t.length := by
      rw [Str.length_append, Str.length_append]
      rfl
    have e2 : piled (t :: r) = t.length + 2 + piled r := rfl
    omega
theorem tuple_len (ts : List Str) : (tupleText ts).length ≤ piled ts + 3 := by
  have h : (Str.join ", " ts).length ≤ piled ts := by
    by_cases e : ts = []
    · rw [e]; decide +kernel
    · have := join_length_add ts e
      omega
  unfold tupleText
  rw [Str.length_append, Str.length_append]
  have h1 : (("(" : Str)).length = 1 := by decide +kernel
  have h2 : ((if ts.length == 1 then ",)" else ")" : String) : Str).length ≤ 2 := by
    split <;> decide +kernel
  omega
mutual
theorem shown_le : ∀ d : PyData, wt d ≤ 10000000 → d.showable = true → d.shown.length ≤ wt d
  | .none, _, _ => by decide +kernel
  | .bool b, _, _ => by cases b <;> decide +kernel
  | .int i, _, _ => by
    have h := int_text_length_le (a := i) (k := i.natAbs.log2 + 1) (Nat.succ_pos _) (Nat.lt_succ_self _)
    show (Str.ofString (toString i)).length ≤ i.natAbs.log2 + 4
    rw [PySem.ofString_length]
    omega
  | .str x, _, _ => Nat.le_refl _
  | .list ds, h, s => by
    have h1 := shown_all ds (by have : wt (.list ds) = wtAll ds + 4 := rfl; omega) (by simpa [PyData.showable] using s)
    have h2 := piled_le rfl h1
    have h3 := list_len (PyData.shownAll ds)
    show (listText (PyData.shownAll ds)).length ≤ wtAll ds + 4
    omega
  | .tuple ds, h, s => by
    have h1 := shown_all ds (by have : wt (.tuple ds) = wtAll ds + 4 := rfl; omega) (by simpa [PyData.showable] using s)
    have h2 := piled_le rfl h1
    have h3 := tuple_len (PyData.shownAll ds)
    show (tupleText (PyData.shownAll ds)).length ≤ wtAll ds + 4
    omega
  | .dict [], _, _ => by decide +kernel
  | .dict (x :: kvs), h, _ => by
    have : wt (.dict (x :: kvs)) = (kvs.length + 1) * 100000000 + 2 := rfl
    omega
theorem shown_all : ∀ ds : List PyData, wtAll ds ≤ 10000000 → PyData.showableAll ds = true → ∀ d ∈ ds, d.shown.length ≤ wt d
  | [], _, _, d, hd => nomatch hd
  | x :: ds, h, s, d, hd => by
    have e : wtAll (x :: ds) = wt x + 2 + wtAll ds := rfl
    have s' : x.showable = true ∧ PyData.showableAll ds = true := by simpa [PyData.showableAll] using s
    rcases List.mem_cons.mp hd with z | z
    · rw [z]
      exact shown_le x (by omega) s'.1
    · exact shown_all ds (by omega) s'.2 d z
end
/-! ### repr(x) of a list or a tuple -/
theorem call_reprD {X : Cx} {k : Nat} (hg : X.A.guards = some []) (hr : Room k X.A) (hsys : ∃ o, X.base.get? sysModules = some o) :
    CallR X (.builtin "repr") (fun xs H Q => ∃ v d a, xs = [v] ∧ v = .ref a ∧ Rp H v d ∧ B 100 10000000 d ∧ Q (.str d.shown) H) := by
  intro pins s σ H xs us Q I r h
  obtain ⟨v, d, a, rfl, rfl, hR, hB, q⟩ := h
  obtain ⟨u, rfl, rx⟩ := vals1 r
  obtain ⟨as, hrd, hno⟩ := Rp.reads hsys I d _ _ hR rx
  cases rx
  refine repr_of_reads' hrd hB.sh (fun _ => hno) hg (by have := hr.un; have := hB.dp; omega) (fun _ _ e => e) (fun h' u tk hk => ⟨.str _, H, I.kept hk, ⟨_, rfl⟩, q⟩) ?_
  have h1 := shown_le d hB.wt hB.sh
  have h2 := hB.wt
  rw [sizeLine_eq]
  omega
end CL
set_option Elab.async false
set_option linter.all false
set_option maxRecDepth 100000
set_option maxHeartbeats 4000000
namespace CL
open PySem PySem.Spec PyProof.Rows L2 GE
/-! ### what a call that fills tables leaves -/
theorem Ex.some {H H' : Hp} (e : Ex H H') {b : Addr} (n : H b ≠ none) : H' b ≠ none := fun z => n (e.free z)
theorem Wk.ex {W : Addr → Prop} {H H' : Hp} {r : Bg} (k : Wk W H r) (e : Ex H H') : Wk W H' r := ⟨k.bag, fun b hb => e.some (k.trk b hb)⟩
theorem Ex.hw {W : Addr → Prop} {H H' : Hp} (e : Ex H H') : Ex (Hw W H) (Hw W H') := fun b o h => by
  rw [Hw.at (Hw.ne h)]
  exact e b o (Hw.sub W H b o h)
theorem Se.ex {n : Nat} {r : Bg} {W : Addr → Prop} {G : Gam} {H H' : Hp} (s : Se n r W G H) (e : Ex H H') : Se n r W G H' := ⟨s.re.kx e, s.wk.ex e, fun p hp => Rp.ex e.hw _ _ (s.ok p hp)⟩
theorem tabG_mv {n : Nat} {P : Addr} {r : Bg} {H H' : Hp} (h : GxR.TabG H P) (hr : BagAt n H r) (m : Mv r H H') : GxR.TabG H' P := by
  obtain ⟨ps, e, t⟩ := h
  obtain ⟨ns, i, b, k, tt, er, _⟩ := hr
  exact ⟨ps, m.keep P _ (fun z => by rw [z, er] at e; cases e) e, t⟩
theorem tabG_upd {P p : Addr} {H : Hp} {o : HO} (h : GxR.TabG H P) (n : ∀ ps, H p ≠ some (.tbl ps)) : GxR.TabG (upd H p o) P := by
  obtain ⟨ps, e, t⟩ := h
  exact ⟨ps, by rw [upd_ne fun z => n ps (by rw [← z]; exact e)]; exact e, t⟩
def spE (sp : Bg → Sp) : Sp := fun vs H Q E => ∃ r, sp r vs H Q E
section
variable {c c1 c2 : Nat} {r : Bg} {W : Addr → Prop} {G : Gam} {σ : L2.St}
theorem ev_tupE {K : PySem.W.Frag} {te : TE} {PA PC : PyData → Prop} (e : Ev c r W G σ te PA) (h : ∀ d, PA d → ∃ ds, d = .list ds ∧ PC (.tuple ds)) :
    Ev c r W G σ (tCB (fun xs H Q => ∃ p ys, xs = [.ref p] ∧ ((SqL K H p ys ∧ ∀ l, H l = none → Q (.ref l) (upd H l (.tup ys))) ∨ (SqT K H p ys ∧ Q (.ref p) H))) (tCons te tNil)) PC := fun n H Q l s q =>
  e n H _ l s fun v d H1 b1 m1 rp p1 => by
    obtain ⟨ds, z, hc⟩ := h d p1
    subst z
    obtain ⟨p, xs, rfl, hp, hx⟩ := rp_list rp
    exact ⟨p, xs, rfl, .inl ⟨SqL.of (Hw.sub W H1 _ _ hp), fun t nt => q (.ref t) (.tuple ds) _ (b1.same (same_upd nt)) (m1.trans (Mv.of (same_upd nt))) (.tup (by rw [Hw.at ((s.wk.mv b1 m1).out nt)]; exact upd_same) (RpAll.sm (Same.hw (same_upd nt)) hx)) hc⟩⟩
end
/-! ### a list that grows, hidden from the other data -/
structure DS (n : Nat) (r : Bg) (D : Addr) (G : Gam) (ds : List PyData) (H : Hp) : Prop where
  se : Se n r (fun b => b = r.a ∨ b = D) G H
  at_ : ∃ vs, H D = some (.lst vs) ∧ RpAll (Hw (fun b => b = r.a ∨ b = D) H) vs ds
  off : Off r D
section
variable {n c c1 c2 : Nat} {r : Bg} {G : Gam} {σ : L2.St} {H : Hp} {D0 : Ends} {i : Nat} {ds es : List PyData}
theorem DS.mk' {W : Addr → Prop} {H1 : Hp} {t : Addr} {vs : List V} (se : Se n r W G H1) (nt : H1 t = none) (hv : RpAll (Hw W H1) vs ds) : DS n r t G ds (upd H1 t (.lst vs)) := by
  have ex : Same (Hw W H1) (Hw (fun b => b = r.a ∨ b = t) (upd H1 t (.lst vs))) := by
    rw [hw_upd (.inr rfl)]
    exact Hw.more fun b hb => hb.elim (fun e => .inl (by rw [e]; exact se.wk.bag)) fun e => .inr (by rw [e]; exact nt)
  have off := se.re.new nt
  refine ⟨⟨se.re.same (same_upd nt), ⟨.inl rfl, fun b hb => ?_⟩, fun p hp => Rp.sm ex (se.ok p hp)⟩, ⟨vs, upd_same, RpAll.sm ex hv⟩, off⟩
  rcases hb with e | e
  · rw [e, upd_ne (Ne.symm off.a)]; exact se.re.some
  · rw [e, upd_same]; exact nofun
theorem ds_catE {W : Addr → Prop} {ta tb : TE} {PA PB : PyData → Prop} (a : Ev c1 r W G σ ta PA) (b : Ev c2 r W G σ tb PB) (l : n + (c1 + c2) ≤ M60) (s : Se n r W G H) (h : ∀ d e, PA d → PB e → ∃ ds es, d = .list ds ∧ e = .list es ∧ ds.length ≤ 1000 ∧ es.length ≤ 1000)
    (h2 : ∀ D ds es H', Mv r H H' → DS (n + (c1 + c2)) r D G (ds ++ es) H' → PA (.list ds) → PB (.list es) → D0.nx (σ.set i (some (.ref D))) H') : tAsg (tOp rCat ta tb) (gName i) D0 σ H :=
  a n H _ (by omega) s fun v d H1 re1 m1 rp1 e1 => b (n + c1) H1 _ (by omega) (s.mv re1 m1) fun v2 d2 H2 re2 m2 rp2 e2 => by
    obtain ⟨ds, es, z1, z2, hn, hm⟩ := h d d2 e1 e2
    subst z1 z2
    obtain ⟨p, xs, rfl, hp, hx⟩ := rp_list (Rp.sm (m2.hw s.wk.bag) rp1)
    obtain ⟨p', ys, rfl, hp', hy⟩ := rp_list rp2
    have re3 : BagAt (n + (c1 + c2)) H2 r := re2.to
    exact ⟨p, p', xs, ys, rfl, rfl, Hw.sub W H2 _ _ hp, Hw.sub W H2 _ _ hp', small_add (by rw [hx.length]; exact hn) (by rw [hy.length]; exact hm), fun t nt => h2 t ds es _ ((m1.trans m2).trans (Mv.of (same_upd nt))) (DS.mk' (s.mv re3 (m1.trans m2)) nt (hx.append hy)) e1 e2⟩
theorem DS.app {D : Addr} {m : Nat} (s : DS n r D G ds H) {H1 : Hp} {v : V} {d : PyData} (re1 : BagAt m H1 r) (m1 : Mv r H H1) (rp : Rp (Hw (fun b => b = r.a ∨ b = D) H1) v d) : ∃ vs, H1 D = some (.lst vs) ∧ vs.length = ds.length ∧ DS m r D G (ds ++ [d]) (upd H1 D (.lst (vs ++ [v]))) := by
  obtain ⟨vs, hD, hv⟩ := s.at_
  have hD1 := m1.keep D _ s.off.a hD
  have se1 := s.se.mv re1 m1
  have hv1 := RpAll.sm (m1.hw (W := fun b => b = r.a ∨ b = D) (.inl rfl)) hv
  refine ⟨vs, hD1, hv.length, ⟨re1.store s.off, ⟨.inl rfl, fun b hb => ?_⟩, fun p hp => ?_⟩, ⟨_, upd_same, ?_⟩, s.off⟩
  · rcases hb with e | e
    · rw [e, upd_ne (Ne.symm s.off.a)]; exact re1.some
    · rw [e, upd_same]; exact nofun
  · rw [hw_upd (.inr rfl)]; exact se1.ok p hp
  · rw [hw_upd (.inr rfl)]; exact hv1.snoc rp
/-- the list shown again -/
theorem DS.back {D : Addr} (s : DS n r D G ds H) : Se n r (fun b => b = r.a) ((.ref D, .list ds) :: G) H := by
  obtain ⟨vs, hD, hv⟩ := s.at_
  have less : Same (Hw (fun b => b = r.a ∨ b = D) H) (Hw (fun b => b = r.a) H) := Hw.less fun b hb => .inl hb
  exact ⟨s.se.re, ⟨rfl, fun b hb => by rw [hb]; exact s.se.re.some⟩, GOk.cons (fun p hp => Rp.sm less (s.se.ok p hp)) (.lst (by rw [Hw.at (W := fun b => b = r.a) s.off.a]; exact hD) (RpAll.sm less hv))⟩
end
end CL
set_option Elab.async false
set_option linter.all false
set_option maxRecDepth 100000
set_option maxHeartbeats 4000000
/-! ### sep.join(reversed(a list of texts)) -/
namespace JR
open PySem PySem.Spec PyProof.Rows RT L2
section
variable {prog : Program} {w : World} {A : Around} {E : Value → Shared → Prop} {s : Shared}
theorem join_rev {x : Str} {t : Tok} {it l : Addr} {items : Array Value} {ys : List Str} {Q : Value → Shared → Prop} (hh : A.handled = none) (hit : s.heap.IsRevIter it l ((items.size : Int) - 1)) (hl : s.heap.IsList l items) (hne : l ≠ it) (hn : items.size ≤ sizeLine)
    (hP : ∀ acc : Array Value, ItemsOf (fun i v => items[items.size - 1 - i]? = some v) acc items.size → StrsAre acc.toList ys) (hok : (ys.map (·.length)).sum + ys.length * x.length ≤ 16777216)
    (hQ : ∀ (h' : Heap) (t' : Tok) (k : Nat), (∀ b o, b ≠ it → s.heap.get? b = some o → h'.get? b = some o) → Q (.str (Txt.join x ys) t') { s with heap := h', toks := k }) :
    wpAny (model prog w) A (call (.builtin "str.join") [.str x t, .ref it]) Q E s := by
  refine wpAny_call (codeAny_call_builtin F.slot_str_join.plain F.entry_str_join (F.slot_str_join.check _ _ _ _ _ _ _ _ (typeIs_str _ _ _) (F.args_str_join_2 _ _) ?_))
  rw [join_tree_other]
  refine wpAny_bind (wpAny_typeOf hit.typeIs ?_)
  show wpAny _ A.in1 ((pyIter (.ref it)).tryCatch _ >>= fun it => collect it >>= fun items => joinTail x items) _ _ s
  refine wpAny_bind (wpAny_tryCatch (wpAny_pyIter_revIter hit ?_))
  refine wpAny_bind (collect_rev hh hit hl hne hn fun h' tk acc hk hacc => ?_)
  obtain ⟨l', hl', ht⟩ := strsAre_values (hP acc hacc)
  subst ht
  rw [hl']
  have hok' := joinOk_of hok
  unfold JoinOk at hok'
  rw [Bool.not_eq_true'] at hok'
  have g : Gives (joinTail x (strValues l')) (joinMade x l') := by
    have g0 := gives_joinTail x l' hok'
    cases l' with
    | nil => exact g0
    | cons p r => cases r with
      | nil => exact g0
      | cons q r' => exact g0
  exact g prog w A (wants Q E) { s with heap := h', toks := tk } (post_join l' ⟨joinFit_length hok', fun t' k => hQ h' t' k hk⟩)
end
end JR
namespace CL
open PySem PySem.Spec PyProof.Rows L2 GE RT
def tJoinRev (K : PySem.W.Frag) (to te : TE) : TE := fun σ H Q => to σ H fun x H1 => (∃ a, x = .str a) ∧ te σ H1 fun v H2 => ∃ (a : Str) (q : Addr) (ys : List Str),
  x = .str a ∧ v = .ref q ∧ SqL K H2 q (ys.map V.str) ∧ (ys.reverse.map (·.length)).sum + ys.reverse.length * a.length ≤ 16777216 ∧ Q (.str (Txt.join a ys.reverse)) H2
theorem pe_joinRev {X : Cx} {o e : Expr} {to te : TE} {apos pos p2 pos2 : Pos} (hc : X.calm = true) (ho : PE X o to) (hg2 : Gl X "reversed") (hm2 : X.mg "reversed" = none) (he : PE X e te)
    (hs1 : starEach [.Call (.Name "reversed" p2) [e] [] pos2] X.env = [(false, eval (.Call (.Name "reversed" p2) [e] [] pos2) X.env)] := by rfl)
    (hs : starEach [e] X.env = (false, eval e X.env) :: starEach [] X.env := by rfl)
    (hbase : attributeBase o "join" X.env (eval o X.env) = eval o X.env := by rfl) (hline : (apos.endLine == pos.line) = true := by rfl) :
    PE X (.Call (.Attribute o "join" apos) [.Call (.Name "reversed" p2) [e] [] pos2] [] pos) (tJoinRev X.K to te) := by
  refine ⟨fun pins s σ H Q I h => ?_⟩
  refine PySem.Call_method1 hbase hs1 hline (thn (ho.run pins s σ H _ I h) fun v s1 ⟨x, H1, I1, r1, q1⟩ => ?_)
  obtain ⟨⟨a, rfl⟩, q1⟩ := q1
  obtain ⟨t, rfl⟩ := _root_.id r1
  refine ⟨"str", _, PySem.F.plainAttrs_str, PySem.F.slot_str_join, PySem.F.type_str_join, typeIs_str _ _ _, (fun _ e => nomatch e), Calls.callWith_builtin rfl (Calls.evalArgs_plain (Calls.spliced_cons ?_))⟩
  refine Call_ (ld_blt I1 hg2 hm2 PyProof.Rows.boot_reversed (PyProof.Rows.callWith_type1 (args_cons (thn (he.run pins s1 σ H1 _ I1 q1) fun u s2 ⟨v2, H2, I2, r2, q2⟩ => args_nil ?_) hs) hs rfl))
  obtain ⟨a', q, ys, ea, ev, hq, hz, q2⟩ := q2
  cases ea
  subst ev
  obtain rfl : u = Value.ref q := r2
  obtain ⟨its, rv, p', hsz⟩ := I2.list hq
  refine call_reversed_list p'.isList (Calls.spliced_nil ?_)
  have k0 : ∀ b o, s2.heap.get? b = some o → (s2.heap.push (revObj q ((its.toArray.size : Int) - 1))).get? b = some o := fun b o e => Heap.get?_push_of_some _ e
  have I3 : Inv X pins σ H2 { s2 with heap := s2.heap.push (revObj q ((its.toArray.size : Int) - 1)) } := I2.kept (t' := s2.toks) k0
  obtain ⟨f0, f1, f2, f3, f4, f5⟩ := I2.fpOk (H' := H2) (b := s2.heap.objs.size) (Nat.le_refl _) (I2.hok.fresh (Nat.le_refl _))
  have hl := p'.isList
  obtain ⟨ol, hol, _⟩ := id hl
  have hne : q ≠ s2.heap.objs.size := Nat.ne_of_lt (Heap.lt_size hol)
  have hn : its.toArray.size ≤ sizeLine := by rw [List.size_toArray, ← rv.length]; exact hsz
  refine JR.join_rev (s := { s2 with heap := s2.heap.push (revObj q ((its.toArray.size : Int) - 1)) }) (ys := ys.reverse) (I2.ok.hd hc) ⟨_, Heap.get?_push_size _ rfl, rfl, rfl⟩ (hl.push _) hne hn (fun acc hi => ?_) hz fun h' t' k hk => ?_
  · have rr := vals_rev rv hi
    rw [← List.map_reverse] at rr
    exact strs_of_vals rr
  · exact ⟨.str _, H2, I3.turned (t' := k) (fun b o hb e => hk b o hb e) f0 f1 f3 f4 f5, ⟨t', rfl⟩, q2⟩
end CL
set_option Elab.async false
set_option linter.all false
set_option maxRecDepth 100000
set_option maxHeartbeats 4000000
namespace CL
open PySem PySem.Spec PyProof.Rows L2 GE
theorem lc_seqW {K : PySem.W.Frag} {a : Addr} {xs : List V} {J : It} {g : TG} {tt : TT} {te : TE} {vs : List Nat} {σ : L2.St} {H1 : Hp} {D : Addr} {Qd : Hp → Prop} (Pv : Nat → Hp → Prop) (h0 : Pv 0 (upd H1 D (.lst []))) (hl : ∀ i H, Pv i H → StandsAs K a xs J H)
    (hs : ∀ i x H, xs[i]? = some x → Pv i H → g x (wipe σ vs) H fun σ2 H2 => wipe σ2 vs = wipe σ vs ∧ tt σ2 H2 fun b H3 => if b = true then te σ2 H3 fun y H4 => ∃ acc, H4 D = some (.lst acc) ∧ acc.length < sizeLine ∧ Pv (i + 1) (upd H4 D (.lst (acc ++ [y]))) else Pv (i + 1) H3) (hd : ∀ H, Pv xs.length H → Qd H) :
    ∃ W : Nat → Nat → Hp → Prop, (∃ m, W 0 m (upd H1 D (.lst []))) ∧ ∀ i m H, W i m H → (J.stop i H ∧ Qd H) ∨ (J.go i H ∧ ∃ Nx : Hp → Prop, (∀ H', Nx H' → ∃ m', m' < m ∧ W (i + 1) m' H') ∧ ∀ x H', J.yld i H x H' → g x (wipe σ vs) H' fun σ2 H2 => wipe σ2 vs = wipe σ vs ∧ tt σ2 H2 fun b H3 => if b = true then te σ2 H3 fun y H4 => ∃ acc, H4 D = some (.lst acc) ∧ acc.length < sizeLine ∧ Nx (upd H4 D (.lst (acc ++ [y]))) else Nx H3) := by
  refine ⟨fun i m H => m + i = xs.length ∧ Pv i H, ⟨xs.length, rfl, h0⟩, ?_⟩
  rintro i m H ⟨hm, p⟩
  have s := hl i H p
  cases m with
  | zero =>
    obtain rfl : i = xs.length := by omega
    exact .inl ⟨s.stop (Nat.le_refl _), hd H p⟩
  | succ m =>
    have lt : i < xs.length := by omega
    refine .inr ⟨s.go (List.getElem?_eq_getElem lt), Pv (i + 1), fun H' p' => ⟨m, Nat.lt_succ_self m, by omega, p'⟩, fun x H' y => ?_⟩
    obtain ⟨rfl, hx⟩ := s.yld y
    exact hs i x _ hx p
theorem same_updN {H H1 : Hp} {b : Addr} {o : HO} (s : Same H H1) (n : H b = none) : Same H (upd H1 b o) := fun c o' h => by
  have ne : c ≠ b := fun z => by rw [z, n] at h; cases h
  rw [upd_ne ne]
  exact s c o' h
/-! ### the figures of a number -/
abbrev FIFTY : Int := 100000000000000000000000000000000000000000000000000
structure Nm4 (mg : Str → Option Value) : Prop where
  str : mg "str" = none
  divmod : mg "divmod" = none
  reversed : mg "reversed" = none
  partL : ∃ t, mg "PART_LENGTH" = some (.int 50 t)
  partW : ∃ t, mg "PART_WORTH" = some (.int FIFTY t)
  never : ∃ t, mg "NEVER" = some (.str "never" t)
  ever : ∃ t, mg "EVER" = some (.str "ever" t)
abbrev sFig : Stmt := topS 21
abbrev sFor : Stmt := topS 22
abbrev sPc : Stmt := topS 37
abbrev sShow : Stmt := topS 38
abbrev nFig : List Str := ["number", "parts", "part"]
abbrev nFor : List Str := ["number", "none"]
abbrev nPc : List Str := ["turns", "many", "words", "patience"]
theorem scFig : FnScope nFig ["number"] (defScope sFig) := ⟨rfl, rfl, rfl, by decide +kernel, rfl, by decide +kernel, by decide +kernel⟩
theorem scFor : FnScope nFor ["number", "none"] (defScope sFor) := ⟨rfl, rfl, rfl, by decide +kernel, rfl, by decide +kernel, by decide +kernel⟩
theorem scPc : FnScope nPc ["turns", "many"] (defScope sPc) := ⟨rfl, rfl, rfl, by decide +kernel, rfl, by decide +kernel, by decide +kernel⟩
/-- a number's figures, or the word for None -/
def wordD (no : Str) : PyData → Str
  | .int i => toString i
  | _ => no
/-- None, or a number that isn't below 0 and not too great -/
def NumD (d : PyData) : Prop := d = .none ∨ ∃ i, d = .int i ∧ 0 ≤ i ∧ i ≤ GREAT
theorem NumD.of {d : PyData} (h : isPatience d = true) : NumD d := by
  cases d with
  | none => exact .inl rfl
  | int i =>
    simp only [isPatience, Bool.and_eq_true, decide_eq_true_eq] at h
    exact .inr ⟨i, rfl, h.1, h.2⟩
  | _ => simp [isPatience] at h
theorem great140 {i : Int} (h0 : 0 ≤ i) (h1 : i ≤ GREAT) : i.natAbs < 2 ^ 140 := by
  have e : (1000000000000000000000000000000 : Nat) < 2 ^ 140 := by decide
  have h1 : i ≤ 1000000000000000000000000000000 := h1
  omega
theorem int_len {i : Int} (h0 : 0 ≤ i) (h1 : i ≤ GREAT) : (toString i : Str).length ≤ 200 := by
  have b := b_int (k := 0) (great140 h0 h1)
  exact Nat.le_trans (shown_le (.int i) (Nat.le_trans b.wt (by decide)) b.sh) b.wt
theorem word_len {no : Str} {d : PyData} (h : NumD d) (hn : no.length ≤ 200) : (wordD no d).length ≤ 200 := by
  rcases h with rfl | ⟨i, rfl, h0, h1⟩
  · exact hn
  · exact int_len h0 h1
def spFig : Sp := fun vs H Q _ => ∃ i : Int, vs = [.int i] ∧ 0 ≤ i ∧ i ≤ GREAT ∧ ∀ H', Same H H' → Q (.str (toString i)) H'
def spFor : Sp := fun vs H Q _ => ∃ (v : V) (d : PyData) (no : Str), vs = [v, .str no] ∧ Rp H v d ∧ NumD d ∧ ∀ H', Same H H' → Q (.str (wordD no d)) H'
/-- a piece's text -/
def pieceS (ts : List PyData) (m : PyData) : Str := Txt.join " " (ts.map (wordD "never") ++ [("x" : Str), wordD "ever" m])
def spPc : Sp := fun vs H Q _ => ∃ (a : Addr) (xs : List V) (ds : List PyData) (vm : V) (m : PyData), vs = [.ref a, vm] ∧ StSeq H a xs ∧ RpAll H xs ds ∧ ds.length ≤ 8 ∧ (∀ d ∈ ds, NumD d) ∧ Rp H vm m ∧ NumD m ∧ ∀ H', Same H H' → Q (.str (pieceS ds m)) H'
section
variable {P : Program} {w : World} {K : PySem.W.Frag} {mg : Str → Option Value} {base : Heap}
theorem ok_fig {f : Addr} {fd : FuncData} (F : Fun K "figures_of" "figures_of" sFig f fd) (N4 : Nm4 mg) : FnOk P w K mg base CX0 1 f fd ["number"] spFig := by
  refine F.ok scFig (fun vs H Q E ⟨i, e, _⟩ => by rw [e]; rfl) (fun cdv A outer s H vs Q E hr h => ?_)
  obtain ⟨i, rfl, h0, h1, q⟩ := h
  obtain ⟨tl, hpl⟩ := N4.partL
  obtain ⟨tw, hpw⟩ := N4.partW
  have nd := scFig.nd
  refine ⟨_, (pss_cons (ps_set (i := 1) nd rfl (.inl rfl) (pe_lst pa_nil))
      (pss_cons (ps_while PassesOwn.never (pt_cmpR op_ge (pv 0) (pe_glob (v := .int FIFTY) (by rfl) hpw ⟨_, rfl⟩) (nomark _)) (pss_cons (ps_asg (pe_callB call_divmodW (by rfl) N4.divmod (by decide +kernel) (pa_cons (pv 0) (pa_cons (pe_glob (v := .int FIFTY) (by rfl) hpw ⟨_, rfl⟩) pa_nil))) (pg_tup rfl (pgs_cons (pg_name (i := 0) nd rfl (.inl rfl)) (pgs_cons (pg_name (i := 2) nd rfl (.inl rfl)) pgs_nil))))
      (pss_one (ps_expr (pe_bm PySem.F.plainAttrs_list PySem.F.slot_list_append PySem.F.type_list_append mt_append (pv 1) (pa_cons (pe_m1 PySem.F.slot_str_zfill PySem.F.type_str_zfill mt_zfill (pe_callTy call_str_int (by rfl) N4.str (by decide +kernel) (pa_cons (pv 2) pa_nil)) (pe_glob (v := .int 50) (by rfl) hpl ⟨_, rfl⟩)) pa_nil))))))
      (pss_cons (ps_expr (pe_bm PySem.F.plainAttrs_list PySem.F.slot_list_append PySem.F.type_list_append mt_append (pv 1) (pa_cons (pe_callTy call_str_int (by rfl) N4.str (by decide +kernel) (pa_cons (pv 0) pa_nil)) pa_nil)))
      (pss_one (ps_ret (pe_joinRev rfl pe_str (by rfl) N4.reversed (pv 1))))))), ?_⟩
  have hi : i < FIFTY := by show i < 100000000000000000000000000000000000000000000000000; have h1 : i ≤ 1000000000000000000000000000000 := h1; omega
  refine ⟨small_le (by show 0 ≤ 1000; decide), fun p np => ?_⟩
  have s1 : Same H (upd H p (.lst [])) := same_upd np
  have e1 : (upd H p (.lst [])) p = some (.lst []) := upd_same
  show tSeq _ _ _ [some (.int i), some (.ref p), none] (upd H p (.lst []))
  generalize upd H p (.lst []) = H1 at s1 e1
  refine ⟨fun m σ H' => σ = [some (.int i), some (.ref p), none] ∧ H' = H1, ⟨0, rfl, rfl⟩, ?_⟩
  rintro m σ H' ⟨rfl, rfl⟩
  refine ⟨.int i, rfl, i, FIFTY, rfl, rfl, _, rfl, ite2 (fun y => absurd (of_decide_eq_true y) (by omega)) (fun _ => ?_)⟩
  refine ⟨.ref p, rfl, .inl ⟨rfl, _, SqL.of e1⟩, .int i, rfl, i, rfl, Nat.lt_trans (PySem.Flt.log2_lt_of (by decide) (great140 h0 h1)) (by decide), p, [], _, rfl, rfl, e1, small1000 (by decide), ?_⟩
  have e2 : (upd H' p (.lst ([] ++ [.str (toString i)]))) p = some (.lst ([(toString i : Str)].map V.str)) := upd_same
  have x2 : Same H (upd H' p (.lst ([] ++ [.str (toString i)]))) := fun b o e => by
    rw [upd_ne fun z => by rw [z, np] at e; cases e]
    exact s1 b o e
  generalize upd H' p (.lst ([] ++ [.str (toString i)])) = H2 at e2 x2 ⊢
  have hl := int_len h0 h1
  dsimp only []
  refine ⟨⟨_, rfl⟩, .ref p, rfl, _, p, [(toString i : Str)], rfl, rfl, SqL.of e2, (by show ((toString i : Str).length + 0) + 1 * 0 ≤ 16777216; omega), ?_⟩
  have ej : Txt.join (Str.ofString "") [(toString i : Str)].reverse = (toString i : Str) := rfl
  rw [ej]
  exact q H2 x2
theorem ok_for {f : Addr} {fd : FuncData} (F : Fun K "figures_or" "figures_or" sFor f fd) (CF : Cal P w K mg base 1 "figures_of" ["number"] spFig) : FnOk P w K mg base CX0 2 f fd ["number", "none"] spFor := by
  refine F.ok scFor (fun vs H Q E ⟨v, d, no, e, _⟩ => by rw [e]; rfl) (fun cdv A outer s H vs Q E hr h => ?_)
  obtain ⟨v, d, no, rfl, hR, hN, q⟩ := h
  refine ⟨_, (pss_one (ps_ret (pe_ifExp (pt_cmp (pc_isN (pv 0))) (pv 1) (pe_cal (CF.mono (by decide)) hr (by rfl) (pa_cons (pv 0) pa_nil))))), ?_⟩
  rcases hN with rfl | ⟨i, rfl, h0, h1⟩
  · cases hR
    exact ⟨.non, rfl, true, rfl, iteT ⟨.str no, rfl, q H (Same.refl H)⟩⟩
  · cases hR
    exact ⟨.int i, rfl, false, rfl, iteF ⟨.int i, rfl, i, rfl, h0, h1, q⟩⟩
theorem ok_pc {f : Addr} {fd : FuncData} (F : Fun K "show_piece" "show_piece" sPc f fd) (N4 : Nm4 mg) (CF : Cal P w K mg base 2 "figures_or" ["number", "none"] spFor) : FnOk P w K mg base CX0 3 f fd ["turns", "many"] spPc := by
  refine F.ok scPc (fun vs H Q E ⟨a, xs, ds, vm, m, e, _⟩ => by rw [e]; rfl) (fun cdv A outer s H vs Q E hr h => ?_)
  obtain ⟨a, xs, ds, vm, m, rfl, hS, hA, h8, hN, hR, hM, q⟩ := h
  obtain ⟨tn, hnv⟩ := N4.never
  obtain ⟨te, hev⟩ := N4.ever
  have nd := scPc.nd
  refine ⟨_, (pss_cons (ps_setLc (i := 2) (own := [("patience", 3)]) (g := (gName 3)) (tt := tYes) rfl nd rfl rfl (sw_true rfl rfl rfl (by decide +kernel)) (pi_seqW (pv 0)) (blkOk_by (own := [("patience", 3)]) (N := nPc) (sc := (defScope sPc)) (by decide +kernel)) (fun _ _ _ _ _ => (pg_name (i := 3) nd rfl (.inl rfl))) (fun _ _ _ _ _ => pts_nil) (fun _ _ _ _ _ => (pe_cal (CF.mono (by decide)) hr (by rfl) (pa_cons (pv 3) (pa_cons (pe_glob (v := .str "never") (by rfl) hnv ⟨_, rfl⟩) pa_nil)))))
      (pss_one (ps_ret (pe_join pe_str (pe_lst (StX.pa_star (pv 2) (pa_cons pe_str (pa_cons (pe_cal (CF.mono (by decide)) hr (by rfl) (pa_cons (pv 1) (pa_cons (pe_glob (v := .str "ever") (by rfl) hev ⟨_, rfl⟩) pa_nil))) pa_nil)))))))), ?_⟩
  refine ⟨.ref a, rfl, a, xs, rfl, hS, fun J hJ D hD => ?_⟩
  have lx : xs.length = ds.length := hA.length
  refine lc_seqW (K := K) (a := a) (xs := xs) (fun i H' => Same H H' ∧ H' D = some (.lst (((ds.take i).map (wordD "never")).map V.str))) ⟨same_upd hD, upd_same⟩ (fun i H' ⟨x', _⟩ => hJ _ fun o e => x' _ _ e) (fun i x H' hx ⟨x', eD⟩ => ?_) (fun H' ⟨x', eD⟩ => ?_)
  · obtain ⟨d, hd, hRd⟩ := hA.get hx
    have hi : i < xs.length := (List.getElem?_eq_some_iff.mp hx).1
    refine ⟨rfl, yesT ⟨x, rfl, x, d, _, rfl, Rp.sm x' hRd, hN d (List.mem_of_getElem? hd), fun H2 s2 => ⟨_, s2 _ _ eD, small1000 (by rw [List.length_map, List.length_map, List.length_take]; omega), same_updN (x'.trans s2) hD, ?_⟩⟩⟩
    rw [upd_same, List.take_add_one, hd, List.map_append, List.map_append]
    rfl
  · rw [lx, List.take_length] at eD
    dsimp only [gName]
    show tRet _ _ [some (.ref a), some vm, some (.ref D), none] H'
    refine ⟨⟨_, rfl⟩, .ref D, rfl, D, _, rfl, .inr (SqL.of eD), vm, rfl, vm, m, _, rfl, Rp.sm x' hR, hM, fun H2 s2 => ⟨small_le (by show (List.map V.str (ds.map (wordD "never")) ++ _).length ≤ 1000; rw [List.length_append, List.length_map, List.length_map]; show _ + 2 ≤ 1000; omega), fun p np => ?_⟩⟩
    have e3 : (upd H2 p (.lst ((ds.map (wordD "never")).map V.str ++ [.str "x", .str (wordD "ever" m)]))) p = some (.lst ((ds.map (wordD "never") ++ [("x" : Str), wordD "ever" m]).map V.str)) := by rw [upd_same, List.map_append]; rfl
    refine ⟨_, p, _, rfl, rfl, .inl (SqL.of e3), ?_, q _ ((x'.trans s2).trans (same_upd np))⟩
    have hsum : ∀ es : List PyData, (∀ d ∈ es, NumD d) → ((es.map (wordD "never")).map (·.length)).sum ≤ es.length * 200 := by
      intro es
      induction es with
      | nil => intro _; exact Nat.le_refl _
      | cons e es ih =>
        intro h
        have h1 := word_len (no := "never") (h e List.mem_cons_self) (by decide)
        have h2 := ih fun d hd => h d (List.mem_cons_of_mem _ hd)
        simp only [List.map_cons, List.sum_cons, List.length_cons]
        omega
    have h1 := hsum ds hN
    have h2 := word_len (no := "ever") hM (by decide)
    have h3 : (Str.ofString " ").length = 1 := rfl
    have h4 : (Str.ofString "x").length = 1 := rfl
    simp only [List.map_append, List.sum_append, List.map_cons, List.map_nil, List.sum_cons, List.sum_nil, List.length_append, List.length_map, List.length_cons, List.length_nil, h3, h4]
    omega
end
end CL
set_option Elab.async false
set_option linter.all false
set_option pp.maxSteps 600
set_option maxRecDepth 100000
set_option maxHeartbeats 4000000
namespace CL
open PySem PySem.Spec PyProof.Rows L2 GE HotX
/-! ### a class of refusals; defs that refuse, what they let out with no context -/
structure ExcM (K : PySem.W.Frag) (mg : Str → Option Value) (x : Str) (C : Addr) : Prop where
  g : mg x = some (.ref C)
  x : PySem.W.excIn K C [.type "ValueError", .type "Exception", .type "BaseException", .type "object"] "ValueError.__new__" = true
  k : PySem.W.keepIn K (.ref C) = true
  b : PySem.W.subIn K (.ref C) (.type "BaseException") = some true
  t : PySem.W.typeIn K (.ref C) = some (.type "type")
section
variable {P : Program} {w : World} {K : PySem.W.Frag} {mg : Str → Option Value} {base : Heap} 
theorem okN {x qual : Str} {st : Stmt} {f : Addr} {fd : FuncData} {N ps : List Str} {k : Nat} {sp : Sp} (F : Fun K x qual st f fd) (S : FnScope N ps (defScope st)) (len : ∀ vs H Q E, sp vs H Q E → vs.length = ps.length)
    (body : ∀ cdv A outer s H vs Q E, Room k (A.deeper (envOfC qual (defScope st) s.heap.objs.size f cdv)) → sp vs H Q E → ∃ t, PSs (cxOf (L2N.CX P w) P w K mg base N qual (defScope st) f cdv A outer s H E) (defBody st) t ∧ t { nx := fun _ H' => Q .non H', rt := Q } (start N vs) H) :
    FnOk P w K mg base (L2N.CX P w) (k + 1) f fd ps sp := by
  obtain ⟨oc, od, kV, doc, pm, an, cdv, ct, osl, rfl, lk, hcd⟩ := F.ex
  exact fn_of lk hcd S len fun A outer s H vs Q E hr h => body cdv A outer s H vs Q E hr h
/-- the one or the other -/
theorem FnOk.both {k : Nat} {f : Addr} {fd : FuncData} {ps : List Str} {sp bad : Sp} (F : FnOk P w K mg base CX0 k f fd ps sp) (G : FnOk P w K mg base (L2N.CX P w) k f fd ps bad) : FnOk P w K mg base (L2N.CX P w) k f fd ps (fun vs H Q E => sp vs H Q E ∨ bad vs H Q E) := by
  refine ⟨fun vs H Q E h => h.elim (F.len vs H Q E) (G.len vs H Q E), fun A outer s H args us vs Q E hr e0 b r h => ?_⟩
  rcases h with h | h
  · refine codeAny_mono (F.run A outer s H args us vs Q E hr e0 b r h) fun c t y => ?_
    match c, y with
    | .ok (.ret u), y => exact y
  · exact G.run A outer s H args us vs Q E hr e0 b r h
end

/-! ### a plan's text -/
abbrev nShow : List Str := ["plan", "turns", "many"]
theorem scShow : FnScope nShow ["plan"] (defScope sShow) := ⟨rfl, rfl, rfl, by decide +kernel, rfl, by decide +kernel, by decide +kernel⟩
def pieceT (d : PyData) : Str := pieceS (turnsD d) (sndD d)
def planS (d : PyData) : Str := Txt.join ", " (((rowsD d).getD []).map pieceT)
theorem worth_le : ∀ (ds : List PyData), (∀ d ∈ ds, 0 ≤ worth (sndD d)) → ∀ d ∈ ds, worth (sndD d) ≤ sumSnd ds := by
  intro ds
  induction ds with
  | nil => intro _ d hd; cases hd
  | cons e es ih =>
    intro h d hd
    have e1 : sumSnd (e :: es) = worth (sndD e) + sumSnd es := rfl
    have h0 := h e List.mem_cons_self
    have hs : 0 ≤ sumSnd es := by
      have : ∀ es : List PyData, (∀ d ∈ es, 0 ≤ worth (sndD d)) → 0 ≤ sumSnd es := by
        intro es
        induction es with
        | nil => intro _; exact Int.le_refl _
        | cons x xs ihx =>
          intro h
          have e2 : sumSnd (x :: xs) = worth (sndD x) + sumSnd xs := rfl
          have := h x List.mem_cons_self
          have := ihx fun d hd => h d (List.mem_cons_of_mem _ hd)
          omega
      exact this es fun d hd => h d (List.mem_cons_of_mem _ hd)
    rcases List.mem_cons.mp hd with rfl | hd
    · omega
    · have := ih (fun d hd => h d (List.mem_cons_of_mem _ hd)) d hd
      omega
theorem piece_worth {d : PyData} (h : isPiece d = true) : 0 ≤ worth (sndD d) := by
  obtain ⟨t, m, e, ht, hm⟩ := piece_parts h
  have : sndD d = m := by unfold sndD; rw [e]
  rw [this]
  cases m with
  | int i => show 0 ≤ i; simpa [isMany] using hm
  | _ => exact Int.le_refl _
/-- the parts of a plan -/
theorem plan_parts {d : PyData} (h : isPlan d = true) : ∃ ds, rowsD d = some ds ∧ 1 ≤ ds.length ∧ ds.length ≤ 8 ∧ (∀ x ∈ ds, isPiece x = true) ∧ (∀ x ∈ ds, NumD (sndD x)) ∧ sumSnd ds ≤ GREAT := by
  unfold isPlan at h
  cases e : rowsD d with
  | none => rw [e] at h; cases h
  | some ds =>
    rw [e] at h
    simp only [isPlanL, Bool.and_eq_true, decide_eq_true_eq, List.all_eq_true] at h
    obtain ⟨⟨⟨⟨h1, h2⟩, h3⟩, h4⟩, h5⟩ := h
    refine ⟨ds, rfl, h1, h2, h3, fun x hx => ?_, h5⟩
    have hw := worth_le ds (fun y hy => piece_worth (h3 y hy)) x hx
    obtain ⟨t, m, e, ht, hm⟩ := piece_parts (h3 x hx)
    have es : sndD x = m := by unfold sndD; rw [e]
    rw [es] at hw ⊢
    cases m with
    | none => exact .inl rfl
    | int i =>
      have hi : 0 ≤ i := by simpa [isMany] using hm
      exact .inr ⟨i, rfl, hi, Int.le_trans hw h5⟩
    | _ => simp [isMany] at hm
theorem turns_parts {t : PyData} (h : isTurns t = true) : ∃ ds, rowsD t = some ds ∧ 1 ≤ ds.length ∧ ds.length ≤ 8 ∧ ∀ x ∈ ds, isPatience x = true := by
  unfold isTurns at h
  cases e : rowsD t with
  | none => rw [e] at h; cases h
  | some ds =>
    rw [e] at h
    simp only [Bool.and_eq_true, decide_eq_true_eq, List.all_eq_true] at h
    exact ⟨ds, rfl, h.1.1, h.1.2, h.2⟩
theorem piece_len {ts : List PyData} {m : PyData} (h8 : ts.length ≤ 8) (hN : ∀ d ∈ ts, NumD d) (hM : NumD m) : (pieceS ts m).length ≤ 2000 := by
  have hsum : ∀ es : List PyData, (∀ d ∈ es, NumD d) → ((es.map (wordD "never")).map (·.length)).sum ≤ es.length * 200 := by
    intro es
    induction es with
    | nil => intro _; exact Nat.le_refl _
    | cons e es ih =>
      intro h
      have h1 := word_len (no := "never") (h e List.mem_cons_self) (by decide)
      have h2 := ih fun d hd => h d (List.mem_cons_of_mem _ hd)
      simp only [List.map_cons, List.sum_cons, List.length_cons]
      omega
  have h1 := hsum ts hN
  have h2 := word_len (no := "ever") hM (by decide)
  have h3 : (Str.ofString " ").length = 1 := rfl
  have h4 : (Str.ofString "x").length = 1 := rfl
  have := StrLaws.join_length_le " " (ts.map (wordD "never") ++ [("x" : Str), wordD "ever" m])
  rw [← StrLaws.glued_eq_join] at this
  refine Nat.le_trans this ?_
  simp only [List.map_append, List.sum_append, List.map_cons, List.map_nil, List.sum_cons, List.sum_nil, List.length_append, List.length_map, List.length_cons, List.length_nil, h3, h4]
  omega
def spChk (P1 P2 : Addr) : Sp := fun vs H Q _ => ∃ (v : V) (d : PyData), vs = [v] ∧ Rp H v d ∧ Tb P1 P2 H ∧ isPlan d = true ∧ ∀ H', Ex H H' → Tb P1 P2 H' → Q .non H'
def badPlan (P1 P2 B : Addr) : Sp := fun vs H _ E => ∃ (v : V) (d : PyData), vs = [v] ∧ Rp H v d ∧ Tb P1 P2 H ∧ isPlan d = false ∧ ∀ H', Ex H H' → Tb P1 P2 H' → E (.ref B) none H'
def spShow (P1 P2 : Addr) : Sp := fun vs H Q _ => ∃ (v : V) (d : PyData), vs = [v] ∧ Rp H v d ∧ Tb P1 P2 H ∧ isPlan d = true ∧ ∀ H', Ex H H' → Tb P1 P2 H' → Q (.str (planS d)) H'
section
variable {P : Program} {w : World} {K : PySem.W.Frag} {mg : Str → Option Value} {base : Heap} {P1 P2 : Addr}
theorem ok_chk {f : Addr} {fd : FuncData} (F : Fun K "check_plan" "check_plan" sCheck f fd) (CP : Cal P w K mg base 7 "is_plan" ["thing"] (spTab P1 P2 isPlan)) : FnOk P w K mg base CX0 8 f fd ["thing"] (spChk P1 P2) := by
  refine F.ok scCheck (fun vs H Q E ⟨v, d, e, _⟩ => by rw [e]; rfl) (fun cdv A outer s H vs Q E hr h => ?_)
  obtain ⟨v, d, rfl, hR, hT, hp, q⟩ := h
  refine ⟨_, (pss_one (ps_if (pt_not (pt_val (pe_cal CP hr (by rfl) (pa_cons (pv 0) pa_nil)))) (pss_one ps_never) pss_nil)), ?_⟩
  refine ⟨v, rfl, v, d, rfl, hR, hT, fun H1 e1 tb1 => ⟨isPlan d, rfl, ?_⟩⟩
  rw [hp]
  exact iteF (q H1 e1 tb1)
theorem bad_chk {f B : Addr} {fd : FuncData} (F : Fun K "check_plan" "check_plan" sCheck f fd) (XB : ExcM K mg "NoPlan" B) (CP : Cal P w K mg base 7 "is_plan" ["thing"] (spTab P1 P2 isPlan)) : FnOk P w K mg base (L2N.CX P w) 8 f fd ["thing"] (badPlan P1 P2 B) := by
  refine okN F scCheck (fun vs H Q E ⟨v, d, e, _⟩ => by rw [e]; rfl) (fun cdv A outer s H vs Q E hr h => ?_)
  obtain ⟨v, d, rfl, hR, hT, hp, q⟩ := h
  refine ⟨_, (pss_one (ps_if (pt_not (pt_val (pe_cal CP hr (by rfl) (pa_cons (pv 0) pa_nil)))) (pss_one (L2N.ps_raise rfl (L2N.takes_of rfl rfl rfl rfl) (L2N.pmk_own PySem.F.excBase_ValueError XB.x XB.g XB.k (raises_own XB.b XB.t) (by rfl)))) pss_nil)), ?_⟩
  refine ⟨v, rfl, v, d, rfl, hR, hT, fun H1 e1 tb1 => ⟨isPlan d, rfl, ?_⟩⟩
  rw [hp]
  exact iteT (q H1 e1 tb1)
theorem ok_show {f : Addr} {fd : FuncData} (F : Fun K "show_plan" "show_plan" sShow f fd) (CC : Cal P w K mg base 8 "check_plan" ["thing"] (spChk P1 P2)) (CP : Cal P w K mg base 3 "show_piece" ["turns", "many"] spPc) : FnOk P w K mg base CX0 9 f fd ["plan"] (spShow P1 P2) := by
  refine F.ok scShow (fun vs H Q E ⟨v, d, e, _⟩ => by rw [e]; rfl) (fun cdv A outer s H vs Q E hr h => ?_)
  obtain ⟨v, d, rfl, hR, hT, hp, q⟩ := h
  have nd := scShow.nd
  refine ⟨_, (pss_cons (ps_expr (pe_cal (CC.mono (by decide)) hr (by rfl) (pa_cons (pv 0) pa_nil))) (pss_one (ps_ret (pe_join pe_str (pe_lc (own := [("turns", 1), ("many", 2)]) (g := gSeq K 2 (gCons (gName 1) (gCons (gName 2) gNil))) (tt := tYes) rfl nd (pi_seqW (pv 0)) (blkOk_by (own := [("turns", 1), ("many", 2)]) (N := nShow) (sc := (defScope sShow)) (by decide +kernel)) (fun _ _ _ _ _ => pg_seq rfl (pgs_cons (pg_name (i := 1) nd rfl (.inl rfl) (.inr rfl)) (pgs_cons (pg_name (i := 2) nd rfl (.inl rfl) (.inr rfl)) pgs_nil))) (fun _ _ _ _ _ => pts_nil) (fun _ _ _ _ _ => (pe_cal (CP.mono (by decide)) hr (by rfl) (pa_cons (pv 1) (pa_cons (pv 2) pa_nil))))))))), ?_⟩
  refine ⟨v, rfl, v, d, rfl, hR, hT, hp, fun H1 e1 tb1 => ?_⟩
  dsimp only []
  obtain ⟨ds, hd, h1, h8, hpc, hnm, hsm⟩ := plan_parts hp
  have hR1 := Rp.ex e1 d v hR
  obtain ⟨a, xs, rfl, hA, hso⟩ := hR1.rows hd
  refine ⟨⟨_, rfl⟩, .ref a, rfl, a, xs, rfl, ⟨hso⟩, fun J hJ D hD => ?_⟩
  have lx : xs.length = ds.length := hA.length
  refine lc_seqW (K := K) (a := a) (xs := xs) (fun i H' => Same H1 H' ∧ H' D = some (.lst (((ds.take i).map pieceT).map V.str))) ⟨same_upd hD, upd_same⟩ (fun i H' ⟨x', _⟩ => hJ _ fun o e => x' _ _ e) (fun i x H' hx ⟨x', eD⟩ => ?_) (fun H' ⟨x', eD⟩ => ?_)
  · obtain ⟨dx, hdx, hRd⟩ := hA.get hx
    have hi : i < xs.length := (List.getElem?_eq_some_iff.mp hx).1
    have hin := List.mem_of_getElem? hdx
    obtain ⟨b, vt, vm, t, m, rfl, hS, hRt, hRm, hrow, ht, hm⟩ := piece_at2 (hpc dx hin) (Rp.sm x' hRd)
    obtain ⟨ts, hts, t1, t8, tp⟩ := turns_parts ht
    obtain ⟨c, ys, rfl, hAt, hso2⟩ := hRt.rows hts
    have hsnd : sndD dx = m := by unfold sndD; rw [hrow]
    have htur : turnsD dx = ts := by unfold turnsD; rw [hrow]; show (rowsD t).getD [] = ts; rw [hts]; rfl
    have hmn : NumD m := by rw [← hsnd]; exact hnm dx hin
    refine ⟨b, _, rfl, hS, rfl, .ref c, _, rfl, vm, _, rfl, rfl, ?_⟩
    refine ⟨rfl, yesT ⟨.ref c, rfl, vm, rfl, c, ys, ts, vm, m, rfl, ⟨hso2⟩, hAt, t8, fun z hz => NumD.of (tp z hz), hRm, hmn, fun H2 s2 => ⟨_, s2 _ _ eD, small1000 (by rw [List.length_map, List.length_map, List.length_take]; omega), same_updN (x'.trans s2) hD, ?_⟩⟩⟩
    have hpt : pieceT dx = pieceS ts m := by unfold pieceT; rw [hsnd, htur]
    rw [upd_same, List.take_add_one, hdx, List.map_append, List.map_append, ← hpt]
    rfl
  · rw [lx, List.take_length] at eD
    refine ⟨_, D, _, rfl, rfl, .inl (SqL.of eD), ?_, ?_⟩
    · have hsum : ∀ es : List PyData, (∀ x ∈ es, isPiece x = true) → (∀ x ∈ es, NumD (sndD x)) → ((es.map pieceT).map (·.length)).sum ≤ es.length * 2000 := by
        intro es
        induction es with
        | nil => intro _ _; exact Nat.le_refl _
        | cons e es ih =>
          intro h h'
          obtain ⟨t, m, hrow, ht, hm⟩ := piece_parts (h e List.mem_cons_self)
          obtain ⟨ts, hts, t1, t8, tp⟩ := turns_parts ht
          have htur : turnsD e = ts := by unfold turnsD; rw [hrow]; show (rowsD t).getD [] = ts; rw [hts]; rfl
          have h1 : (pieceT e).length ≤ 2000 := by
            unfold pieceT
            rw [htur]
            exact piece_len t8 (fun z hz => NumD.of (tp z hz)) (h' e List.mem_cons_self)
          have h2 := ih (fun d hd => h d (List.mem_cons_of_mem _ hd)) (fun d hd => h' d (List.mem_cons_of_mem _ hd))
          simp only [List.map_cons, List.sum_cons, List.length_cons]
          omega
      have h2 := hsum ds hpc hnm
      have h3 : (Str.ofString ", ").length = 2 := rfl
      rw [List.length_map, h3]
      omega
    · have hpl : planS d = Txt.join ", " (ds.map pieceT) := by unfold planS; rw [hd]; rfl
      rw [← hpl]
      exact q _ (e1.trans (Ex.of x')) (tb1.same x')
theorem bad_show {f fC B : Addr} {fd fdC : FuncData} (F : Fun K "show_plan" "show_plan" sShow f fd)
    (gC : mg "check_plan" = some (.ref fC)) (kC : PySem.W.keepIn K (.ref fC) = true) (GC : FnOk P w K mg base (L2N.CX P w) 8 fC fdC ["thing"] (badPlan P1 P2 B)) (bC : Binds K fdC ["thing"] []) : FnOk P w K mg base (L2N.CX P w) 9 f fd ["plan"] (badPlan P1 P2 B) := by
  refine okN F scShow (fun vs H Q E ⟨v, d, e, _⟩ => by rw [e]; rfl) (fun cdv A outer s H vs Q E hr h => ?_)
  obtain ⟨v, d, rfl, hR, hT, hp, q⟩ := h
  refine ⟨_, pss_cons (ps_expr (pe_callS GC (hr.mono (by decide)) (by rfl) gC kC bC (fun σ => L2N.passAt (L2N.takes_of rfl rfl rfl rfl) σ) (pa_cons (pv 0) pa_nil))) pss_never, ?_⟩
  exact ⟨v, rfl, v, d, rfl, hR, hT, hp, q⟩
end
end CL
set_option Elab.async false
set_option linter.all false
set_option pp.maxSteps 600
set_option maxRecDepth 100000
set_option maxHeartbeats 4000000
namespace CL
open PySem PySem.Spec PyProof.Rows L2 GE HotX
abbrev sTold : Stmt := topS 48
theorem scTold : FnScope ["plan", "found", "caught"] ["plan"] (defScope sTold) := ⟨rfl, rfl, rfl, by decide +kernel, rfl, by decide +kernel, by decide +kernel⟩
/-- nothing is let out -/
theorem takes0N {X : Cx} : L2N.Takes X (fun _ _ _ _ => False) := fun _ _ x => by
  obtain ⟨_, _, _, _, _, _, _, _, _, _, _, _, _, _, _, _, z⟩ := x
  exact z.elim
/-- the class of refusals and what it says -/
structure Refs (K : PySem.W.Frag) (mg : Str → Option Value) (G : ClsG K mg) (LE : Addr) : Prop where
  le : mg "LineError" = some (.ref LE)
  x : ExcM K mg "NoPlan" G.aNoPlan
  e : PySem.W.exmOne K (.ref G.aNoPlan) (.ref LE) = some true
  w : ClsW K mg G G.aNoPlan "NoPlan"
def toldS (d : PyData) : Str := if isPlan d then "told" else "NoPlan"
def spTold (P1 P2 : Addr) : Sp := fun vs H Q _ => ∃ (v : V) (d : PyData), vs = [v] ∧ Rp H v d ∧ Tb P1 P2 H ∧ ∀ H', Ex H H' → Tb P1 P2 H' → Q (.str (toldS d)) H'
section
variable {P : Program} {w : World} {K : PySem.W.Frag} {mg : Str → Option Value} {base : Heap} {P1 P2 : Addr}
theorem ok_told {f fS LE : Addr} {fd fdS : FuncData} (F : Fun K "_law_told" "_law_told" sTold f fd) (G : ClsG K mg) (R : Refs K mg G LE) (CC : CalP P w K mg base 1 "_law_class" ["caught"] (spClass K mg G))
    (gS : mg "show_plan" = some (.ref fS)) (kS : PySem.W.keepIn K (.ref fS) = true) (GS : FnOk P w K mg base (L2N.CX P w) 9 fS fdS ["plan"] (fun vs H Q E => spShow P1 P2 vs H Q E ∨ badPlan P1 P2 G.aNoPlan vs H Q E)) (bS : Binds K fdS ["plan"] []) :
    FnOk P w K mg base CX0 10 f fd ["plan"] (spTold P1 P2) := by
  refine F.ok scTold (fun vs H Q E ⟨v, d, e, _⟩ => by rw [e]; rfl) (fun cdv A outer s0 H vs Q E hr h => ?_)
  obtain ⟨v, d, rfl, hR, hT, q⟩ := h
  have nd := scTold.nd
  have hrH := L2H.roomH_of hr
  refine ⟨_, (pss_cons (ps_set (i := 1) nd rfl (.inl rfl) pe_str)
    (pss_cons (L2N.ps_try_as (i := 2) (Wout := fun _ _ _ _ => False) (ts := fun a cls d D σ H => ∃ Dc, cls = .ref Dc ∧ d = none ∧ tAsg (fun σ H Q => tCons (tVar 2) tNil σ H fun vs H1 => spClass K mg G a Dc vs H1 Q E0) (gName 1) D σ H) rfl rfl nd rfl rfl ⟨rfl, by decide, .inl R.le⟩ takes0N
      (fun W pn xe tk po => (pss_one (ps_expr (pe_callS GS (hr.mono (by decide)) (by rfl) gS kS bS (fun σ => L2N.passAt tk σ) (pa_cons (pv 0) pa_nil)))))
      (fun a oe cls d pn z fe => ⟨fun pins t σ H D I y => by
        obtain ⟨Dc, rfl, rfl, y⟩ := y
        obtain ⟨fvs, hfv⟩ := fe
        exact (pss_one (ps_set (i := 1) nd rfl (.inl rfl) (pe_calP CC (h := (a, oe)) (D := Dc) ⟨(hrH.mono (j := 1) (by decide)).dp, (hrH.mono (j := 1) (by decide)).un⟩ ⟨rfl, fvs, hfv, z.2.2 fvs hfv⟩ List.mem_cons_self z.zc (by rfl) (pa_cons (pv 2) pa_nil)))).run pins t σ H D I y⟩))
    (pss_one (ps_ret (pv 1))))), ?_⟩
  -- what a refusal comes to
  have held : ∀ {W : Str} {B : Addr} {H1 : Hp} {D : Ends}, PySem.W.exmOne K (.ref B) (.ref LE) = some true → ClsW K mg G B W → (∀ H', Same H1 H' → D.nx [some v, some (.str W), none] H') →
      wAs K (.ref LE) 2 (fun a cls d D σ H => ∃ Dc, cls = .ref Dc ∧ d = none ∧ tAsg (fun σ H Q => tCons (tVar 2) tNil σ H fun vs H1 => spClass K mg G a Dc vs H1 Q E0) (gName 1) D σ H) (fun _ _ _ _ => False) D (.ref B) none [some v, some (.str "told"), none] H1 := fun {W B H1 D} e c q =>
    ⟨true, e, fun _ a ha => ⟨B, rfl, rfl, .ref a, rfl, W, rfl, c, fun H' s' => q H' s'⟩, fun y => nomatch y⟩
  have hq : ∀ W : Str, toldS d = W → ∀ H', Ex H H' → Tb P1 P2 H' → Q (.str W) H' := fun W e H' x t => by rw [← e]; exact q H' x t
  cases hp : isPlan d with
  | false =>
    have e : toldS d = "NoPlan" := by unfold toldS; rw [hp]; rfl
    exact ⟨v, rfl, .inr ⟨v, d, rfl, hR, hT, hp, fun H1 e1 t1 => held R.e R.w fun H2 s2 => ⟨.str "NoPlan", rfl, hq _ e H2 (e1.trans (Ex.of s2)) (t1.same s2)⟩⟩⟩
  | true =>
    have e : toldS d = "told" := by unfold toldS; rw [hp]; rfl
    exact ⟨v, rfl, .inl ⟨v, d, rfl, hR, hT, hp, fun H1 e1 t1 => ⟨.str "told", rfl, hq _ e H1 e1 t1⟩⟩⟩
end
end CL
set_option Elab.async false
set_option linter.all false
set_option pp.maxSteps 600
set_option maxRecDepth 100000
set_option maxHeartbeats 4000000
namespace CL
open PySem PySem.Spec PyProof.Rows L2 GE
abbrev sPatB : Stmt := topS 44
abbrev sPlanB : Stmt := topS 45
abbrev nPat : List Str := ["bag", "most"]
abbrev nPlanB : List Str := ["bag", "most", "wide", "found", "k", "patiences", "spot"]
theorem scPatB : FnScope nPat ["bag", "most"] (defScope sPatB) := ⟨rfl, rfl, rfl, by decide +kernel, rfl, by decide +kernel, by decide +kernel⟩
theorem scPlanB : FnScope nPlanB ["bag", "most", "wide"] (defScope sPlanB) := ⟨rfl, rfl, rfl, by decide +kernel, rfl, by decide +kernel, by decide +kernel⟩
structure Nm5 (mg : Str → Option Value) : Prop where
  range : mg "range" = none
  min : mg "min" = none
  repr : mg "repr" = none
/-! ### plans that are drawn -/
abbrev RowT := List PyData × PyData
def rowD (x : RowT) : PyData := .tuple [.list x.1, x.2]
def planD (L : List RowT) : PyData := .list (L.map rowD)
/-- how many come, drawn -/
def DrM (d : PyData) : Prop := ∃ m : Int, d = .int m ∧ 0 ≤ m ∧ m < 100000000000000000000000000000
structure RowF (x : RowT) : Prop where
  l1 : 1 ≤ x.1.length
  l8 : x.1.length ≤ 8
  pt : ∀ d ∈ x.1, isPatience d = true
structure PlanL (L : List RowT) : Prop where
  l1 : 1 ≤ L.length
  l8 : L.length ≤ 8
  rows : ∀ x ∈ L, RowF x
  many : ∀ i x, L[i]? = some x → DrM x.2 ∨ (i + 1 = L.length ∧ x.2 = .none)
def spPatB (r : Bg) : Sp := fun vs H Q _ => ∃ (most : Int) (n : Nat), vs = [.ref r.a, .int most] ∧ BagAt n H r ∧ n + 4 ≤ M60 ∧ 0 ≤ most ∧ most ≤ GREAT ∧ ∀ v d H', BagAt (n + 4) H' r → Mv r H H' → Rp (fun _ => none) v d → isPatience d = true → Q v H'
def spPlanB (r : Bg) : Sp := fun vs H Q _ => ∃ (most wide : Int) (n : Nat), vs = [.ref r.a, .int most, .int wide] ∧ BagAt n H r ∧ n + 400 ≤ M60 ∧ 1 ≤ most ∧ most ≤ 8 ∧ 0 ≤ wide ∧ wide ≤ GREAT ∧
  ∀ v L H', BagAt (n + 400) H' r → Mv r H H' → Rp (Hw (fun b => b = r.a) H') v (planD L) → PlanL L → Q v H'
/-- data of no parts are so in any heap -/
theorem rp_any {H : Hp} {v : V} {d : PyData} (h : Rp (fun _ => none) v d) : Rp H v d := Rp.sm (fun b o e => by cases e) h
theorem pat_any {H H' : Hp} {v : V} {d : PyData} (h : Rp H v d) (p : isPatience d = true) : Rp H' v d := by
  cases h with
  | non => exact .non
  | int i => exact .int i
  | _ => simp [isPatience] at p
theorem pats_any {H H' : Hp} : ∀ {vs : List V} {ds : List PyData}, RpAll H vs ds → (∀ d ∈ ds, isPatience d = true) → RpAll H' vs ds
  | _, _, .nil, _ => .nil
  | _, _, .cons h t, p => .cons (pat_any h (p _ List.mem_cons_self)) (pats_any t fun d hd => p d (List.mem_cons_of_mem _ hd))
theorem ix_last (n : Nat) : ixN (n + 1) (-1) = some n := by
  unfold ixN
  rw [if_neg (by decide), if_pos (by omega)]
  congr 1
  omega
/-! ### rows that were drawn are a plan -/
theorem DS.mv {n m : Nat} {r : Bg} {D : Addr} {G : Gam} {ds : List PyData} {H H' : Hp} (s : DS n r D G ds H) (b : BagAt m H' r) (mv : Mv r H H') : DS m r D G ds H' := by
  obtain ⟨vs, hD, hv⟩ := s.at_
  exact ⟨s.se.mv b mv, ⟨vs, mv.keep D _ s.off.a hD, RpAll.sm (mv.hw (.inl rfl)) hv⟩, s.off⟩
theorem DS.to {n m : Nat} {r : Bg} {D : Addr} {G : Gam} {ds : List PyData} {H : Hp} (s : DS n r D G ds H) (e : n ≤ m) : DS m r D G ds H := ⟨s.se.to e, s.at_, s.off⟩
theorem seqP {A B : TS} {D : Ends} {σ : L2.St} {H : Hp} (R : L2.St → Hp → Prop) (hB : ∀ σ' H', R σ' H' → B D σ' H') (hA : ∀ nx : L2.St → Hp → Prop, (∀ σ' H', R σ' H' → nx σ' H') → A { D with nx := nx } σ H) : tSeq A B D σ H := hA (B D) hB
theorem RpAll.unsnoc2 {H : Hp} : ∀ {vs : List V} {ds : List PyData} {d : PyData}, RpAll H vs (ds ++ [d]) → ∃ v0 v, vs = v0 ++ [v] ∧ RpAll H v0 ds ∧ Rp H v d
  | _, [], _, .cons h .nil => ⟨[], _, rfl, .nil, h⟩
  | _, e :: es, _, .cons h t => by
    obtain ⟨v0, v, rfl, h0, h1⟩ := RpAll.unsnoc2 (ds := es) t
    exact ⟨_ :: v0, v, rfl, .cons h h0, h1⟩
section
variable {P : Program} {w : World} {K : PySem.W.Frag} {mg : Str → Option Value} {base : Heap}
theorem ok_patB {f : Addr} {r : Bg} {fd : FuncData} (F : Fun K "_law_patience" "_law_patience" sPatB f fd) (CD : Cal P w K mg base 2 "_law_draw" ["bag", "many"] (spDraw r)) : FnOk P w K mg base CX0 3 f fd ["bag", "most"] (spPatB r) := by
  refine F.ok scPatB (fun vs H Q E ⟨most, n, e, _⟩ => by rw [e]; rfl) (fun cdv A outer s H vs Q E hr h => ?_)
  obtain ⟨most, n, rfl, hb, hn, m0, m1, q⟩ := h
  have nd := scPatB.nd
  have t140 : (2 : Int) ^ 140 = 1393796574908163946345982392040522594123776 := by decide +kernel
  have hG : GREAT = 1000000000000000000000000000000 := rfl
  refine ⟨_, (pss_one (ps_ret (pe_ix ix_list (pe_lst (pa_cons (pe_cal (CD.mono (by decide)) hr (by rfl) (pa_cons (pv 0) (pa_cons pe_int pa_nil))) (pa_cons (pe_cal (CD.mono (by decide)) hr (by rfl) (pa_cons (pv 0) (pa_cons pe_int pa_nil))) (pa_cons (pe_cal (CD.mono (by decide)) hr (by rfl) (pa_cons (pv 0) (pa_cons (pe_op op_add (pv 1) pe_int) pa_nil))) (pa_cons pe_non pa_nil))))) (pe_cal (CD.mono (by decide)) hr (by rfl) (pa_cons (pv 0) (pa_cons pe_int pa_nil))) (fun _ _ => rfl)))), ?_⟩
  have hS : Se n r (fun b => b = r.a) [] H := ⟨hb, ⟨rfl, fun b hb' => by rw [hb']; exact hb.some⟩, fun p hp => nomatch hp⟩
  have d3 : Ev 1 r (fun b => b = r.a) [] [some (.ref r.a), some (.int most)] (tCall (spDraw r) [] E0 (tCons (tVar 0) (tCons (tC (.int 3)) tNil))) (fun d => isPatience d = true) := (ev_draw (ev_int (i := 3)) rfl (by decide) (by decide)).ev fun i hi => by
    simp only [isPatience, Bool.and_eq_true, decide_eq_true_eq]; omega
  have dm : Ev 1 r (fun b => b = r.a) [] [some (.ref r.a), some (.int most)] (tCall (spDraw r) [] E0 (tCons (tVar 0) (tCons (tOp (rI0 fun i j => .int (i + j)) (tVar 1) (tC (.int 1))) tNil))) (fun d => isPatience d = true) :=
    (ev_draw (evi_add (ev_varI (i := 1) rfl) (ev_int (i := 1))) rfl (by omega) (by rw [t140]; omega)).ev fun i hi => by
    simp only [isPatience, Bool.and_eq_true, decide_eq_true_eq]; omega
  exact (ev_ix (K := K) (ev_lst (eva_cons d3 (eva_cons d3 (eva_cons dm (eva_cons (ev_non rfl) eva_nil))))) ((ev_draw (ev_int (i := 4)) rfl (by decide) (by decide)).imp fun i hi => ⟨hi.1, by have := hi.2; show i < 4; omega⟩)) n H _ (by omega) hS fun v d H' b' m' rp p => q v d H' b'.to m' (pat_any rp p) p
theorem ok_planB {f : Addr} {r : Bg} {fd : FuncData} (F : Fun K "_law_plan" "_law_plan" sPlanB f fd) (T2 : Nm5 mg) (CD : Cal P w K mg base 2 "_law_draw" ["bag", "many"] (spDraw r)) (CP : Cal P w K mg base 3 "_law_patience" ["bag", "most"] (spPatB r)) : FnOk P w K mg base CX0 4 f fd ["bag", "most", "wide"] (spPlanB r) := by
  refine F.ok scPlanB (fun vs H Q E ⟨most, wide, n, e, _⟩ => by rw [e]; rfl) (fun cdv A outer s H vs Q E hr h => ?_)
  obtain ⟨most, wide, n, rfl, hb, hn, m1, m8, w0, w1, q⟩ := h
  have nd := scPlanB.nd
  have hM : M60 = 1000000000000000000 := rfl
  have hG : GREAT = 1000000000000000000000000000000 := rfl
  have t140 : (2 : Int) ^ 140 = 1393796574908163946345982392040522594123776 := by decide +kernel
  refine ⟨_, (pss_cons (ps_set (i := 3) nd rfl (.inl rfl) (pe_lst pa_nil))
      (pss_cons (ps_for PassesOwn.never rfl (pi_range1 (by rfl) T2.range (pa_cons (pe_op op_add pe_int (pe_cal (CD.mono (by decide)) hr (by rfl) (pa_cons (pv 0) (pa_cons (pv 1) pa_nil)))) pa_nil)) (pg_name (i := 4) nd rfl (.inl rfl)) (pss_cons (ps_setLc (i := 5) (own := [("spot", 6)]) (g := (gName 6)) (tt := tYes) rfl nd rfl rfl (sw_true rfl rfl rfl (by decide +kernel)) (pi_range1 (by rfl) T2.range (pa_cons (pe_op op_add pe_int (pe_cal (CD.mono (by decide)) hr (by rfl) (pa_cons (pv 0) (pa_cons pe_int pa_nil)))) pa_nil)) (blkOk_by (own := [("spot", 6)]) (N := nPlanB) (sc := (defScope sPlanB)) (by decide +kernel)) (fun _ _ _ _ _ => (pg_name (i := 6) nd rfl (.inl rfl))) (fun _ _ _ _ _ => pts_nil) (fun _ _ _ _ _ => (pe_cal (CP.mono (by decide)) hr (by rfl) (pa_cons (pv 0) (pa_cons (pv 2) pa_nil)))))
      (pss_one (ps_expr (pe_bm PySem.F.plainAttrs_list PySem.F.slot_list_append PySem.F.type_list_append mt_append (pv 3) (pa_cons (pe_tup (pa_cons (pv 5) (pa_cons (pe_ix ix_list (pe_lst (pa_cons (pe_cal (CD.mono (by decide)) hr (by rfl) (pa_cons (pv 0) (pa_cons pe_int pa_nil))) (pa_cons (pe_cal (CD.mono (by decide)) hr (by rfl) (pa_cons (pv 0) (pa_cons (pe_op op_pow pe_int pe_int) pa_nil))) pa_nil))) (pe_cal (CD.mono (by decide)) hr (by rfl) (pa_cons (pv 0) (pa_cons pe_int pa_nil))) (fun _ _ => rfl)) pa_nil))) pa_nil))))))
      (pss_cons (ps_if (pt_cmpR op_eq (pe_cal (CD.mono (by decide)) hr (by rfl) (pa_cons (pv 0) (pa_cons pe_int pa_nil))) pe_int (nomark _)) (pss_one (ps_asg (pe_tup (pa_cons (pe_ix ix_tup (pe_ix ix_list (pv 3) (pe_un un_neg pe_int) (fun _ _ => rfl)) pe_int (fun _ _ => rfl)) (pa_cons pe_non pa_nil))) (pg_sub (pv 3) (pe_un un_neg pe_int) set_list))) pss_nil)
      (pss_one (ps_ret (pv 3)))))), ?_⟩
  refine ⟨Nat.zero_le _, fun pf npf => ?_⟩
  have hS : Se n r (fun b => b = r.a) [] H := ⟨hb, ⟨rfl, fun b hb' => by rw [hb']; exact hb.some⟩, fun p hp => nomatch hp⟩
  have D1 : DS n r pf [] (([] : List RowT).map rowD) (upd H pf (.lst [])) := DS.mk' hS npf .nil
  have v1 : Mv r H (upd H pf (.lst [])) := Mv.of (same_upd npf)
  generalize upd H pf (.lst []) = H1 at D1 v1 ⊢
  dsimp only [gName]
  show tSeq _ _ _ [some (.ref r.a), some (.int most), some (.int wide), some (.ref pf), none, none, none] H1
  refine ⟨.ref r.a, rfl, .int most, rfl, most, n, rfl, D1.se.re, by omega, m1, by rw [t140]; omega, fun x H2 b2 v2 x0 x1 => ⟨1, x, rfl, rfl, 1 + x, rfl, by omega, by omega, ?_⟩⟩
  obtain ⟨sz, hsz⟩ : ∃ sz : Nat, 1 + x = (sz : Int) := ⟨(1 + x).toNat, by omega⟩
  rw [hsz]
  have D2 := D1.mv b2 v2
  refine for_range (lo := 0) (n := ((sz : Int)).toNat) (fun i σ H4 => ∃ L y4 y5, σ = [some (.ref r.a), some (.int most), some (.int wide), some (.ref pf), y4, y5, none] ∧ DS (n + 1 + 40 * i) r pf [] (L.map rowD) H4 ∧ Mv r H H4 ∧ L.length = i ∧ (∀ x ∈ L, RowF x) ∧ ∀ x ∈ L, DrM x.2)
    ⟨[], none, none, rfl, D2, v1.trans v2, rfl, fun x hx => (nomatch hx), fun x hx => (nomatch hx)⟩ (fun i σ H4 hi hP => ?_) (fun σ H4 hP => ?_)
  · obtain ⟨L, y4, y5, rfl, D4, v4, hL, hF, hMn⟩ := hP
    have hi8 : i < 8 := by omega
    dsimp only [gName]
    show tSeq _ _ _ [some (.ref r.a), some (.int most), some (.int wide), some (.ref pf), some (.int (0 + (i : Int))), y5, none] H4
    refine ⟨.ref r.a, rfl, 8, _, rfl, D4.se.re, by omega, by decide, by decide, fun y H5 b5 v5 y0 y1 => ⟨1, y, rfl, rfl, 1 + y, rfl, by omega, by omega, fun D hD => ?_⟩⟩
    have Dr := (b5.new hD).a
    have D5 := D4.mv b5 v5
    refine lc_range (lo := 0) (n := (1 + y).toNat) (fun j H6 => ∃ ts vs, BagAt (n + 1 + 40 * i + 1 + 4 * j) H6 r ∧ Mv r H5 H6 ∧ H6 D = some (.lst vs) ∧ RpAll (fun _ => none) vs ts ∧ ts.length = j ∧ ∀ d ∈ ts, isPatience d = true)
      ⟨[], [], b5.store (b5.new hD), (Mv.refl r H5).upd hD, upd_same, .nil, rfl, fun d hd => (nomatch hd)⟩ (fun j H6 hj ⟨ts, vs, b6, m6, eD, hv, lt, hp⟩ => ?_) (fun H6 ⟨ts, vs, b6, m6, eD, hv, lt, hp⟩ => ?_)
    · have hj8 : j < 8 := by omega
      refine ⟨rfl, yesT ⟨.ref r.a, rfl, .int wide, rfl, wide, _, rfl, b6, by omega, w0, w1, fun v d H7 b7 m7 rp p => ⟨vs, m7.keep D _ Dr eD, small1000 (by rw [hv.length]; omega), ts ++ [d], vs ++ [v], (b7.mono (by omega)).store (b5.new hD), (m6.trans m7).upd hD, upd_same, hv.snoc rp, by rw [List.length_append, lt]; rfl, fun e he => ?_⟩⟩⟩
      rcases List.mem_append.mp he with he | he
      · exact hp e he
      · rw [List.mem_singleton.mp he]; exact p
    have hl1 : 1 ≤ ts.length ∧ ts.length ≤ 8 := by omega
    have D6 := (D5.mv b6 m6).to (m := n + 1 + 40 * i + 34) (by omega)
    dsimp only [gName]
    show tDrop _ _ [some (.ref r.a), some (.int most), some (.int wide), some (.ref pf), some (.int (0 + (i : Int))), some (.ref D), none] H6
    obtain ⟨fvs, hpf, _⟩ := D6.at_
    refine ⟨.ref pf, rfl, .inl ⟨rfl, _, SqL.of hpf⟩, .ref D, rfl, ?_⟩
    have em : Ev 3 r (fun b => b = r.a ∨ b = pf) [] [some (.ref r.a), some (.int most), some (.int wide), some (.ref pf), some (.int (0 + (i : Int))), some (.ref D), none]
        (tOp (rIxL K) (tLst (tCons (tCall (spDraw r) [] E0 (tCons (tVar 0) (tCons (tC (.int 30)) tNil))) (tCons (tCall (spDraw r) [] E0 (tCons (tVar 0) (tCons (tOp (rI CPow fun i j => .int (i ^ j.toNat)) (tC (.int 10)) (tC (.int 29))) tNil))) tNil))) (tCall (spDraw r) [] E0 (tCons (tVar 0) (tCons (tC (.int 2)) tNil)))) DrM :=
      ev_ix (ev_lst (eva_cons ((ev_draw (ev_int (i := 30)) rfl (by decide) (by decide)).ev fun i hi => ⟨i, rfl, hi.1, by have := hi.2; omega⟩)
        (eva_cons ((ev_draw (evi_pow ⟨by decide, by decide, by decide⟩) rfl (by decide +kernel) (by decide +kernel)).ev fun i hi => ⟨i, rfl, hi.1, Int.lt_of_lt_of_le hi.2 (by decide +kernel)⟩) eva_nil))) ((ev_draw (ev_int (i := 2)) rfl (by decide) (by decide)).imp fun i hi => ⟨hi.1, by have := hi.2; show i < 2; omega⟩)
    refine em _ H6 _ (by omega) D6.se fun vm dm H7 b7 m7 rpm hdm => ?_
    refine ⟨small_le (by show 2 ≤ 1000; decide), fun u nu => ?_⟩
    have D7 := D6.mv b7 m7
    have eD7 := m7.keep D _ Dr eD
    have s8 := same_upd (o := .tup [.ref D, vm]) nu
    have uW := D7.se.wk.out nu
    have D8 := D7.mv (b7.same s8) (Mv.of s8)
    have eu : (upd H7 u (.tup [.ref D, vm])) u = some (.tup [.ref D, vm]) := upd_same
    have eD8 := s8 _ _ eD7
    have v8 : Mv r H (upd H7 u (.tup [.ref D, vm])) := (v4.trans v5).trans ((m6.trans m7).trans (Mv.of s8))
    generalize upd H7 u (.tup [.ref D, vm]) = H8 at s8 D8 eu eD8 v8 ⊢
    have Dpf : D ≠ pf := fun z => by
      obtain ⟨gv, hg, _⟩ := D5.at_
      rw [z, hg] at hD
      cases hD
    have DW : ¬ (D = r.a ∨ D = pf) := fun z => z.elim Dr Dpf
    obtain ⟨d', rfl, d0, d1⟩ := hdm
    obtain ⟨fv, hfv, lf, D9⟩ := D8.app (D := pf) D8.se.re (Mv.refl r H8) (v := .ref u) (d := rowD (ts, .int d')) (.tup (by rw [Hw.at (W := fun b => b = r.a ∨ b = pf) uW]; exact eu) (.cons (.lst (by rw [Hw.at (W := fun b => b = r.a ∨ b = pf) DW]; exact eD8) (pats_any hv hp)) (.cons (by cases rpm; exact .int d') .nil)))
    refine ⟨pf, fv, .ref u, rfl, rfl, hfv, small1000 (by rw [lf, List.length_map]; omega), L ++ [(ts, .int d')], _, _, rfl, ?_, v8.upd npf, by rw [List.length_append, hL]; rfl, fun x hx => ?_, fun x hx => ?_⟩
    · rw [List.map_append]
      exact D9.to (by omega)
    · rcases List.mem_append.mp hx with hx | hx
      · exact hF x hx
      · rw [List.mem_singleton.mp hx]
        exact ⟨hl1.1, hl1.2, hp⟩
    · rcases List.mem_append.mp hx with hx | hx
      · exact hMn x hx
      · rw [List.mem_singleton.mp hx]
        exact ⟨d', rfl, d0, d1⟩
  · obtain ⟨L, y4, y5, rfl, D4, v4, hL, hF, hMn⟩ := hP
    have hsz8 : 1 ≤ L.length ∧ L.length ≤ 8 := by omega
    have D4 := D4.to (m := n + 399) (by omega)
    dsimp only []
    show tSeq (tIfS _ _ _) _ _ [some (.ref r.a), some (.int most), some (.int wide), some (.ref pf), y4, y5, none] H4
    refine seqP (fun σ' H' => ∃ L, σ' = [some (.ref r.a), some (.int most), some (.int wide), some (.ref pf), y4, y5, none] ∧ DS (n + 400) r pf [] (L.map rowD) H' ∧ Mv r H H' ∧ PlanL L) (fun σ' H' hR => ?_) (fun nx hnx => ?_)
    · obtain ⟨L, rfl, D5, v5, hP⟩ := hR
      exact ⟨.ref pf, rfl, q (.ref pf) L H' D5.se.re v5 (D5.back.ok (.ref pf, .list (L.map rowD)) List.mem_cons_self) hP⟩
    · refine ⟨.ref r.a, rfl, 2, _, rfl, D4.se.re, by omega, by decide, by decide, fun z H5 b5 v5 z0 z1 => ⟨rfl, _, rfl, ite2 (fun c => ?_) (fun c => ?_)⟩⟩
      rotate_left
      · exact hnx _ _ ⟨L, rfl, D4.mv b5 v5, v4.trans v5, hsz8.1, hsz8.2, hF, fun i x hx => .inl (hMn x (List.mem_of_getElem? hx))⟩
      clear c
      have D5 := D4.mv b5 v5
      have v5 := v4.trans v5
      obtain ⟨L0, ⟨ts, mm⟩, rfl⟩ : ∃ L0 x, L = L0 ++ [x] := ⟨L.dropLast, L.getLast (by intro z; rw [z] at hsz8; exact absurd hsz8.1 (by decide)), (List.dropLast_concat_getLast _).symm⟩
      obtain ⟨gvs, hgv, hrp⟩ := D5.at_
      rw [List.map_append, List.map_cons, List.map_nil] at hrp
      obtain ⟨fv0, vl, rfl, hrp0, hrpl⟩ := hrp.unsnoc2
      cases hrpl with
      | @tup b _ _ hb hall =>
      cases hall with
      | cons ht hall =>
      cases hall with
      | cons hm hall =>
      cases hall
      cases ht with
      | @lst t tv _ ht htv =>
      have hb' := Hw.sub _ _ _ _ hb
      have ht' := Hw.sub _ _ _ _ ht
      have tW := Hw.ne ht
      refine ⟨.ref pf, rfl, 1, rfl, pf, _, -1, .ref b, rfl, rfl, SqL.of hgv, atI_last _ _, b, _, 0, .ref t, rfl, rfl, SqT.of hb', rfl, small_le (by show 2 ≤ 1000; decide), fun u nu => ?_⟩
      have s6 := same_upd (o := .tup [.ref t, .non]) nu
      have eu : (upd H5 u (.tup [.ref t, .non])) u = some (.tup [.ref t, .non]) := upd_same
      have uW := D5.se.wk.out nu
      have ht6 := s6 _ _ ht'
      have b6 := b5.same s6
      have v6 := v5.trans (Mv.of s6)
      have hgv6 := s6 _ _ hgv
      have hrp06 := RpAll.sm (Same.hw (W := fun b => b = r.a ∨ b = pf) s6) hrp0
      have htv6 := RpAll.sm (Same.hw (W := fun b => b = r.a ∨ b = pf) s6) htv
      generalize upd H5 u (.tup [.ref t, .non]) = H6 at s6 eu ht6 b6 v6 hgv6 hrp06 htv6 ⊢
      have hixl : ixN (fv0 ++ [V.ref b]).length (-1) = some fv0.length := by
        rw [List.length_append, List.length_singleton]
        exact ix_last _
      refine ⟨.ref pf, rfl, 1, rfl, pf, _, -1, fv0.length, rfl, rfl, hgv6, hixl, ?_⟩
      have eset : (fv0 ++ [V.ref b]).set fv0.length (V.ref u) = fv0 ++ [.ref u] := by rw [List.set_append_right _ _ (Nat.le_refl _), Nat.sub_self]; rfl
      rw [eset]
      have off := D5.off
      have hF0 : RowF (ts, mm) := hF _ (List.mem_append_right _ List.mem_cons_self)
      refine hnx _ _ ⟨L0 ++ [(ts, .none)], rfl, ⟨⟨b6.store off, ⟨.inl rfl, fun c hc => ?_⟩, fun p hp => nomatch hp⟩, ⟨_, upd_same, ?_⟩, off⟩, v6.upd npf, ?_⟩
      · rcases hc with e | e
        · rw [e, upd_ne (Ne.symm off.a)]; exact b6.some
        · rw [e, upd_same]; exact nofun
      · rw [hw_upd (W := fun b => b = r.a ∨ b = pf) (a := pf) (.inr rfl), List.map_append]
        exact hrp06.snoc (.tup (by rw [Hw.at (W := fun b => b = r.a ∨ b = pf) uW]; exact eu) (.cons (.lst (by rw [Hw.at (W := fun b => b = r.a ∨ b = pf) tW]; exact ht6) htv6) (.cons .non .nil)))
      · rw [List.length_append] at hsz8
        refine ⟨by rw [List.length_append]; exact hsz8.1, by rw [List.length_append]; exact hsz8.2, fun x hx => ?_, fun i x hx => ?_⟩
        · rcases List.mem_append.mp hx with hx | hx
          · exact hF x (List.mem_append_left _ hx)
          · rw [List.mem_singleton.mp hx]
            exact ⟨hF0.l1, hF0.l8, hF0.pt⟩
        · by_cases hi : i < L0.length
          · rw [List.getElem?_append_left hi] at hx
            exact .inl (hMn x (List.mem_append_left _ (List.mem_of_getElem? hx)))
          · rw [List.getElem?_append_right (by omega)] at hx
            have h0 : i - L0.length = 0 := by
              have := (List.getElem?_eq_some_iff.mp hx).1
              rw [List.length_singleton] at this
              omega
            rw [h0] at hx
            cases hx
            exact .inr ⟨by rw [List.length_append, List.length_singleton]; omega, rfl⟩
end
end CL
set_option Elab.async false
set_option linter.all false
set_option pp.maxSteps 600
set_option maxRecDepth 100000
set_option maxHeartbeats 4000000
namespace CL
open PySem PySem.Spec PyProof.Rows L2 GE
/-! ### evaluation to what is known in full -/
section
variable {c c1 c2 : Nat} {r : Bg} {W : Addr → Prop} {G : Gam} {σ : L2.St}
def EvL (c : Nat) (r : Bg) (W : Addr → Prop) (G : Gam) (σ : L2.St) (ta : TA) (ds : List PyData) : Prop := ∀ n H Q, n + c ≤ M60 → Se n r W G H → (∀ vs H', BagAt (n + c) H' r → Mv r H H' → RpAll (Hw W H') vs ds → Q vs H') → ta σ H Q
theorem evl_nil : EvL 0 r W G σ tNil [] := fun n H Q l s q => q [] H s.re (Mv.refl r H) .nil
theorem evl_cons {te : TE} {ta : TA} {d : PyData} {ds : List PyData} (e : Ev c1 r W G σ te (· = d)) (a : EvL c2 r W G σ ta ds) : EvL (c1 + c2) r W G σ (tCons te ta) (d :: ds) := fun n H Q l s q =>
  e n H _ (by omega) s fun v d' H1 re1 m1 rp1 p1 => a (n + c1) H1 _ (by omega) (s.mv re1 m1) fun vs H2 re2 m2 rp2 => q (v :: vs) H2 re2.to (m1.trans m2) (.cons (Rp.sm (m2.hw s.wk.bag) (by rw [← p1]; exact rp1)) rp2)
theorem RpAll.len {H : Hp} {vs : List V} {ds : List PyData} (h : RpAll H vs ds) : vs.length = ds.length := h.length
theorem evx_lst {ta : TA} {ds : List PyData} (a : EvL c r W G σ ta ds) (hn : ds.length ≤ 1000 := by decide) : Ev c r W G σ (tLst ta) (· = .list ds) := fun n H Q l s q =>
  a n H _ l s fun vs H1 re1 m1 rp1 => ⟨small_le (by rw [rp1.length]; exact hn), fun p np => q (.ref p) (.list ds) _ (re1.same (same_upd np)) (m1.trans (Mv.of (same_upd np)))
    (.lst (by rw [Hw.at ((s.wk.mv re1 m1).out np)]; exact upd_same) (RpAll.sm (Same.hw (same_upd np)) rp1)) rfl⟩
theorem evx_tup {ta : TA} {ds : List PyData} (a : EvL c r W G σ ta ds) (hn : ds.length ≤ 1000 := by decide) : Ev c r W G σ (tTup ta) (· = .tuple ds) := fun n H Q l s q =>
  a n H _ l s fun vs H1 re1 m1 rp1 => ⟨small_le (by rw [rp1.length]; exact hn), fun p np => q (.ref p) (.tuple ds) _ (re1.same (same_upd np)) (m1.trans (Mv.of (same_upd np)))
    (.tup (by rw [Hw.at ((s.wk.mv re1 m1).out np)]; exact upd_same) (RpAll.sm (Same.hw (same_upd np)) rp1)) rfl⟩
theorem evx_cat {ta tb : TE} {ds es : List PyData} (a : Ev c1 r W G σ ta (· = .list ds)) (b : Ev c2 r W G σ tb (· = .list es)) (hn : ds.length ≤ 1000) (hm : es.length ≤ 1000) : Ev (c1 + c2) r W G σ (tOp rCat ta tb) (· = .list (ds ++ es)) :=
  ev_catG a b fun _ _ e1 e2 => ⟨ds, es, e1, e2, hn, hm, rfl⟩
theorem xi (i : Int) : Ev 0 r W G σ (tC (.int i)) (· = .int i) := (ev_int (i := i)).ev fun j e => by rw [e]
theorem xn : Ev 0 r W G σ (tC .non) (· = .none) := ev_non rfl
theorem xb (b : Bool) : Ev 0 r W G σ (tC (.bl b)) (· = .bool b) := ev_bl rfl
theorem xs (x : Str) : Ev 0 r W G σ (tC (.str x)) (· = .str x) := ev_str rfl
/-- the first ones, the others -/
theorem evx_to {K : PySem.W.Frag} {te ti : TE} {ds : List PyData} {k : Nat} (a : Ev c1 r W G σ te (· = .list ds)) (b : EvI c2 r W G σ ti (· = (k : Int))) : Ev (c1 + 0 + c2) r W G σ (tSl (rSlL K) te tNoPart (tPart ti)) (· = .list (ds.take k)) :=
  ev_slG (K := K) (PL := fun l => l = none) (PH := fun l => ∃ i, l = some i ∧ i = (k : Int)) a part_none (part_some b) fun d l u e1 e2 ⟨i, e3, e4⟩ => ⟨ds, e1, by
    subst e2 e3 e4
    have e0 : HT.sIx ds.length 0 none = 0 := rfl
    have e1 : HT.sIx ds.length ds.length (some (k : Int)) = min k ds.length := by
      show (if (k : Int) < 0 then ((k : Int) + (ds.length : Int)).toNat else min ((k : Int)).toNat ds.length) = _
      rw [if_neg (by omega), Int.toNat_natCast]
    rw [e0, e1, List.drop_zero, Nat.sub_zero, ← List.take_eq_take_min]⟩
theorem evx_from {K : PySem.W.Frag} {te ti : TE} {ds : List PyData} {k : Nat} (a : Ev c1 r W G σ te (· = .list ds)) (b : EvI c2 r W G σ ti (· = (k : Int))) (hk : k ≤ ds.length) : Ev (c1 + c2 + 0) r W G σ (tSl (rSlL K) te (tPart ti) tNoPart) (· = .list (ds.drop k)) :=
  ev_slG (K := K) (PL := fun l => ∃ i, l = some i ∧ i = (k : Int)) (PH := fun l => l = none) a (part_some b) part_none fun d l u e1 ⟨i, e3, e4⟩ e2 => ⟨ds, e1, by
    subst e2 e3 e4
    have e0 : HT.sIx ds.length ds.length none = ds.length := rfl
    have e1 : HT.sIx ds.length 0 (some (k : Int)) = k := by
      show (if (k : Int) < 0 then ((k : Int) + (ds.length : Int)).toNat else min ((k : Int)).toNat ds.length) = _
      rw [if_neg (by omega), Int.toNat_natCast]
      omega
    rw [e0, e1, List.take_of_length_le (by rw [List.length_drop]; exact Nat.le_refl _)]⟩
theorem evl_cons0 {te : TE} {ta : TA} {d : PyData} {ds : List PyData} (e : Ev 0 r W G σ te (· = d)) (a : EvL 0 r W G σ ta ds) : EvL 0 r W G σ (tCons te ta) (d :: ds) := evl_cons e a
theorem evx_cat0 {ta tb : TE} {ds es : List PyData} (a : Ev 0 r W G σ ta (· = .list ds)) (b : Ev 0 r W G σ tb (· = .list es)) (hn : ds.length ≤ 1000) (hm : es.length ≤ 1000) : Ev 0 r W G σ (tOp rCat ta tb) (· = .list (ds ++ es)) := evx_cat a b hn hm
theorem evi_add0 {ta tb : TE} {x y : Int} (a : EvI 0 r W G σ ta (· = x)) (b : EvI 0 r W G σ tb (· = y)) : EvI 0 r W G σ (tOp (rI0 fun i j => .int (i + j)) ta tb) (· = x + y) := evi_add a b
theorem evi_sub0 {ta tb : TE} {x y : Int} (a : EvI 0 r W G σ ta (· = x)) (b : EvI 0 r W G σ tb (· = y)) : EvI 0 r W G σ (tOp (rI0 fun i j => .int (i - j)) ta tb) (· = x - y) := evi_sub a b
theorem evx_rep {ta : TE} {ds : List PyData} {k : Nat} (a : Ev c r W G σ ta (· = .list ds)) (hn : ds.length ≤ 100) (hk : k ≤ 10) : Ev c r W G σ (tOp rRep ta (tC (.int (k : Int)))) (· = .list (List.replicate k ds).flatten) := fun n H Q l s q =>
  a n H _ l s fun v d H1 b1 m1 rp e => by
    subst e
    obtain ⟨p, xs, rfl, hp, hx⟩ := rp_list rp
    have lx := hx.length
    have h1 : xs.length * k ≤ 1000 := Nat.le_trans (Nat.mul_le_mul (lx ▸ hn) hk) (by decide)
    refine ⟨p, k, xs, rfl, rfl, Hw.sub _ _ _ _ hp, by omega, by omega, small_le (by rw [Int.toNat_natCast]; exact h1), fun t nt => q (.ref t) _ _ (b1.same (same_upd nt)) (m1.trans (Mv.of (same_upd nt))) (.lst (by rw [Hw.at ((s.wk.mv b1 m1).out nt)]; exact upd_same) (RpAll.sm (Same.hw (same_upd nt)) ?_)) rfl⟩
    rw [Int.toNat_natCast]
    clear h1 hk nt q lx
    induction k with
    | zero => exact .nil
    | succ k ih =>
      rw [List.replicate_succ, List.replicate_succ, List.flatten_cons, List.flatten_cons]
      exact hx.append ih
theorem evi_mul {ta tb : TE} {x y : Int} (a : EvI c1 r W G σ ta (· = x)) (b : EvI c2 r W G σ tb (· = y)) (h : CMul x y) : EvI (c1 + c2) r W G σ (tOp (rI CMul fun i j => .int (i * j)) ta tb) (· = x * y) := fun n H Q l s q =>
  a n H _ (by omega) s fun i H1 re1 m1 e1 => b (n + c1) H1 _ (by omega) (s.mv re1 m1) fun j H2 re2 m2 e2 => ⟨i, j, rfl, rfl, by rw [e1, e2]; exact h, q _ H2 re2.to (m1.trans m2) (by rw [e1, e2])⟩
theorem evi_mul0 {ta tb : TE} {x y : Int} (a : EvI 0 r W G σ ta (· = x)) (b : EvI 0 r W G σ tb (· = y)) (h : CMul x y) : EvI 0 r W G σ (tOp (rI CMul fun i j => .int (i * j)) ta tb) (· = x * y) := evi_mul a b h
/-- a comprehension over a list that is known, nothing drawn within -/
theorem ev_lcL {K : PySem.W.Frag} {i : Nat} {tl te : TE} {ds : List PyData} {f : PyData → PyData} (hn : ds.length ≤ 999) (e : Ev c r W G σ tl (· = .list ds))
    (he : ∀ (W' : Addr → Prop) (G' : Gam) (v : V) (d : PyData), d ∈ ds → (∀ p ∈ G, p ∈ G') → Ev 0 r W' ((v, d) :: G') ((σ.set i none).set i (some v)) te (· = f d)) : Ev c r W G σ (tLc (iList K tl) (gName i) tYes te [i]) (· = .list (ds.map f)) := fun n H Q l s q =>
  e n H _ l s fun v d H1 b1 m1 rp e1 => by
    subst e1
    obtain ⟨a, xs, rfl, ha, hx⟩ := rp_list rp
    have ha1 := Hw.sub _ _ _ _ ha
    have aW : ¬ W a := Hw.ne ha
    have s1 := s.mv b1 m1
    refine ⟨a, rfl, ⟨xs, SqL.of ha1⟩, fun D nD => ?_⟩
    have off := b1.new nD
    have nW := s1.wk.out nD
    have aD : a ≠ D := fun z => by rw [← z, ha1] at nD; cases nD
    have ar : a ≠ r.a := fun z => aW (by rw [z]; exact s.wk.bag)
    have lx := hx.length
    refine lc_list (K := K) (a := a) (xs := xs) (fun k H3 => ∃ vs, BagAt (n + c) H3 r ∧ Mv r H1 H3 ∧ H3 D = some (.lst vs) ∧ RpAll (Hw (fun b => W b ∨ b = D) H3) vs ((ds.take k).map f))
      ⟨[], b1.same (same_upd nD), Mv.of (same_upd nD), upd_same, .nil⟩ (fun k H3 _ ⟨vs, b3, m3, _⟩ => SqL.of (m3.keep a _ ar ha1)) (fun k x H3 hxk ⟨vs, b3, m3, eD, hv⟩ => ?_) (fun H3 ⟨vs, b3, m3, eD, hv⟩ => ?_)
    · have hk : k < xs.length := (List.getElem?_eq_some_iff.mp hxk).1
      have lv := hv.length
      rw [List.length_map, List.length_take] at lv
      have S3 : Se (n + c) r (fun b => W b ∨ b = D) ((.ref a, .list ds) :: G) H3 := by
        refine ⟨b3, ⟨.inl s.wk.bag, fun b hb => hb.elim (fun z => (s1.wk.mv b3 m3).trk b z) fun z => by rw [z, eD]; exact nofun⟩, fun p hp => Rp.sm (H := Hw W H1) (fun b o e => ?_) ((s1.ok.cons rp) p hp)⟩
        have nb := Hw.ne e
        have e' := Hw.sub W H1 b o e
        rw [Hw.at (W := fun b => W b ∨ b = D) (fun z => z.elim nb fun z => by rw [z, nD] at e'; cases e')]
        exact m3.keep b o (fun z => nb (by rw [z]; exact s.wk.bag)) e'
      obtain ⟨a', ys, ea, ha3, hx3⟩ := rp_list (S3.ok (.ref a, .list ds) List.mem_cons_self)
      cases ea
      have e3 := Hw.sub _ _ _ _ ha3
      rw [m3.keep a _ ar ha1] at e3
      cases e3
      obtain ⟨dx, hdx, hRx⟩ := hx3.get hxk
      refine ⟨?_, yesT (he (fun b => W b ∨ b = D) ((.ref a, .list ds) :: G) x dx (List.mem_of_getElem? hdx) (fun p hp => List.mem_cons_of_mem _ hp) (n + c) H3 _ (by omega) ⟨S3.re, S3.wk, S3.ok.cons hRx⟩ fun v d H4 b4 m4 rp p => ?_)⟩
      · show ((σ.set i none).set i (some x)).set i none = σ.set i none
        rw [List.set_set, List.set_set]
      · subst p
        refine ⟨vs, m4.keep D _ off.a eD, small1000 (by omega), vs ++ [v], (b4.store off).mono (by omega), (m3.trans m4).upd nD, upd_same, ?_⟩
        rw [hw_upd (W := fun b => W b ∨ b = D) (.inr rfl), List.take_add_one, hdx, List.map_append]
        exact (RpAll.sm (m4.hw (W := fun b => W b ∨ b = D) (.inl s.wk.bag)) hv).snoc rp
    · rw [lx, List.take_length] at hv
      exact q (.ref D) (.list (ds.map f)) H3 b3 (m1.trans m3) (.lst (by rw [Hw.at nW]; exact eD) (RpAll.sm (Hw.less fun b hb => .inl hb) hv)) rfl
end
/-! ### what is no piece -/
abbrev sNoP : Stmt := topS 49
abbrev nNoP : List Str := ["found"]
theorem scNoP : FnScope nNoP [] (defScope sNoP) := ⟨rfl, rfl, rfl, by decide +kernel, rfl, by decide +kernel, by decide +kernel⟩
def nP1 : List PyData := [.tuple [.list [], .int 1], .tuple [.list (List.replicate 9 [.int 0]).flatten, .int 1], .tuple [.list [.int (-1)], .int 1], .tuple [.list [.int 1000000000000000000000000000001], .int 1], .tuple [.list [.bool true], .int 1], .tuple [.list [.str "1"], .int 1], .tuple [.list [.list [.int 1]], .int 1], .tuple [.list [.str "never"], .int 1]]
def nP2 : List PyData := [.tuple [.int 3, .int 1], .tuple [.none, .int 1], .tuple [.str "3", .int 1], .tuple [.list [.int 0]], .tuple [.list [.int 0], .int 1, .int 1], .tuple [.list [.int 0], .int (-1)], .tuple [.list [.int 0], .bool true], .tuple [.list [.int 0], .str "1"], .tuple [.list [.int 0], .list [.int 1]]]
def nP3 : List PyData := [.tuple [.list [.int 0], .int 1000000000000000000000000000001], .tuple [], .list [], .none, .int 5, .str "0 x 0", .dict [], .tuple [.int 1, .list [.int 0]], .tuple [.list [.int 0], .str "ever"], .tuple [.dict [], .int 1]]
def nP4 : List PyData := [.list [.list [.int 0], .int 1000000000000000000000000000000000000000]]
def noP : List PyData := ((nP1 ++ nP2) ++ nP3) ++ nP4
theorem noP_len : noP.length = 28 := by decide +kernel
/-- no plan holds it -/
def NoPc (x : PyData) : Prop := isPiece x = false ∨ GREAT < worth (sndD x)
theorem noP_bad : ∀ x ∈ noP, NoPc x := by
  have h : noP.all (fun x => !isPiece x || decide (GREAT < worth (sndD x))) = true := by decide +kernel
  intro x hx
  have := List.all_eq_true.mp h x hx
  simpa [NoPc] using this
theorem noPc_plan {ds : List PyData} {x : PyData} (hx : x ∈ ds) (h : NoPc x) : isPlan (.list ds) = false := by
  cases hp : isPlan (.list ds) with
  | false => rfl
  | true =>
    obtain ⟨ds', e, _, _, h3, _, h5⟩ := plan_parts hp
    cases e
    rcases h with h | h
    · rw [h3 x hx] at h; cases h
    · have := worth_le ds (fun y hy => piece_worth (h3 y hy)) x hx
      omega
def spNoP (r : Bg) : Sp := fun vs H Q _ => ∃ (n : Nat) (W : Addr → Prop), vs = [] ∧ n ≤ M60 ∧ BagAt n H r ∧ Wk W H r ∧ ∀ v H', BagAt n H' r → Mv r H H' → Rp (Hw W H') v (.list noP) → Q v H'
theorem pe_cal0 {X : Cx} {k : Nat} {x : Str} {sp : Sp} {p pos : Pos} (C : Cal X.prog X.w X.K X.mg X.base k x [] sp) (hr : Room k X.A) (hg : Gl X x) (hdb : (x == ("__debug__" : Str)) = false := by decide) : PE X (.Call (.Name x p) [] [] pos) (tCall sp [] E0 tNil) := by
  obtain ⟨f, fd, h1, h2, h3, h4⟩ := C.ex
  exact pe_call0 h4 hr hg h1 h2 h3 .nil pass0 hdb
section
variable {P : Program} {w : World} {K : PySem.W.Frag} {mg : Str → Option Value} {base : Heap}
theorem ok_noP {f : Addr} {r : Bg} {fd : FuncData} (F : Fun K "_law_no_pieces" "_law_no_pieces" sNoP f fd) : FnOk P w K mg base CX0 1 f fd [] (spNoP r) := by
  refine F.ok scNoP (fun vs H Q E ⟨n, W, e, _⟩ => by rw [e]; rfl) (fun cdv A outer s H vs Q E hr h => ?_)
  obtain ⟨n, W, rfl, hn, hb, hW, q⟩ := h
  have nd := scNoP.nd
  refine ⟨_, (pss_cons (ps_set (i := 0) nd rfl (.inl rfl) (pe_lst (pa_cons (pe_tup (pa_cons (pe_lst pa_nil) (pa_cons pe_int pa_nil))) (pa_cons (pe_tup (pa_cons (pe_op op_rep (pe_lst (pa_cons pe_int pa_nil)) pe_int) (pa_cons pe_int pa_nil))) (pa_cons (pe_tup (pa_cons (pe_lst (pa_cons (pe_un un_neg pe_int) pa_nil)) (pa_cons pe_int pa_nil))) (pa_cons (pe_tup (pa_cons (pe_lst (pa_cons (pe_op op_add (pe_op op_pow pe_int pe_int) pe_int) pa_nil)) (pa_cons pe_int pa_nil))) (pa_cons (pe_tup (pa_cons (pe_lst (pa_cons pe_bl pa_nil)) (pa_cons pe_int pa_nil))) (pa_cons (pe_tup (pa_cons (pe_lst (pa_cons pe_str pa_nil)) (pa_cons pe_int pa_nil))) (pa_cons (pe_tup (pa_cons (pe_lst (pa_cons (pe_lst (pa_cons pe_int pa_nil)) pa_nil)) (pa_cons pe_int pa_nil))) (pa_cons (pe_tup (pa_cons (pe_lst (pa_cons pe_str pa_nil)) (pa_cons pe_int pa_nil))) pa_nil))))))))))
      (pss_cons (ps_set (i := 0) nd rfl (.inl rfl) (pe_op op_cat (pv 0) (pe_lst (pa_cons (pe_tup (pa_cons pe_int (pa_cons pe_int pa_nil))) (pa_cons (pe_tup (pa_cons pe_non (pa_cons pe_int pa_nil))) (pa_cons (pe_tup (pa_cons pe_str (pa_cons pe_int pa_nil))) (pa_cons (pe_tup (pa_cons (pe_lst (pa_cons pe_int pa_nil)) pa_nil)) (pa_cons (pe_tup (pa_cons (pe_lst (pa_cons pe_int pa_nil)) (pa_cons pe_int (pa_cons pe_int pa_nil)))) (pa_cons (pe_tup (pa_cons (pe_lst (pa_cons pe_int pa_nil)) (pa_cons (pe_un un_neg pe_int) pa_nil))) (pa_cons (pe_tup (pa_cons (pe_lst (pa_cons pe_int pa_nil)) (pa_cons pe_bl pa_nil))) (pa_cons (pe_tup (pa_cons (pe_lst (pa_cons pe_int pa_nil)) (pa_cons pe_str pa_nil))) (pa_cons (pe_tup (pa_cons (pe_lst (pa_cons pe_int pa_nil)) (pa_cons (pe_lst (pa_cons pe_int pa_nil)) pa_nil))) pa_nil))))))))))))
      (pss_cons (ps_set (i := 0) nd rfl (.inl rfl) (pe_op op_cat (pv 0) (pe_lst (pa_cons (pe_tup (pa_cons (pe_lst (pa_cons pe_int pa_nil)) (pa_cons (pe_op op_add (pe_op op_pow pe_int pe_int) pe_int) pa_nil))) (pa_cons (pe_tup pa_nil) (pa_cons (pe_lst pa_nil) (pa_cons pe_non (pa_cons pe_int (pa_cons pe_str (pa_cons pe_dnewK (pa_cons (pe_tup (pa_cons pe_int (pa_cons (pe_lst (pa_cons pe_int pa_nil)) pa_nil))) (pa_cons (pe_tup (pa_cons (pe_lst (pa_cons pe_int pa_nil)) (pa_cons pe_str pa_nil))) (pa_cons (pe_tup (pa_cons pe_dnewK (pa_cons pe_int pa_nil))) pa_nil)))))))))))))
      (pss_one (ps_ret (pe_op op_cat (pv 0) (pe_lst (pa_cons (pe_lst (pa_cons (pe_lst (pa_cons pe_int pa_nil)) (pa_cons (pe_op op_pow pe_int pe_int) pa_nil))) pa_nil)))))))), ?_⟩
  have hS : Se n r W [] H := ⟨hb, hW, fun p hp => nomatch hp⟩
  refine ev_set (c := 0) (i := 0) (σ := [none]) (P := (· = .list nP1)) (evx_lst (evl_cons0 (evx_tup (evl_cons0 (evx_lst evl_nil (by show 0 ≤ 1000; decide)) (evl_cons0 (xi (1)) evl_nil)) (by show 2 ≤ 1000; decide)) (evl_cons0 (evx_tup (evl_cons0 (evx_rep (k := 9) (evx_lst (evl_cons0 (xi (0)) evl_nil) (by show 1 ≤ 1000; decide)) (by decide) (by decide)) (evl_cons0 (xi (1)) evl_nil)) (by show 2 ≤ 1000; decide)) (evl_cons0 (evx_tup (evl_cons0 (evx_lst (evl_cons0 ((evi_neg (x := 1)).ev fun j e => by rw [e]) evl_nil) (by show 1 ≤ 1000; decide)) (evl_cons0 (xi (1)) evl_nil)) (by show 2 ≤ 1000; decide)) (evl_cons0 (evx_tup (evl_cons0 (evx_lst (evl_cons0 ((evi_add0 (evi_pow (x := 10) (y := 30) ⟨by decide, by decide, by decide⟩) (ev_int (i := 1))).ev fun j e => by rw [e] <;> exact congrArg PyData.int (by decide +kernel)) evl_nil) (by show 1 ≤ 1000; decide)) (evl_cons0 (xi (1)) evl_nil)) (by show 2 ≤ 1000; decide)) (evl_cons0 (evx_tup (evl_cons0 (evx_lst (evl_cons0 (xb true) evl_nil) (by show 1 ≤ 1000; decide)) (evl_cons0 (xi (1)) evl_nil)) (by show 2 ≤ 1000; decide)) (evl_cons0 (evx_tup (evl_cons0 (evx_lst (evl_cons0 (CL.xs "1") evl_nil) (by show 1 ≤ 1000; decide)) (evl_cons0 (xi (1)) evl_nil)) (by show 2 ≤ 1000; decide)) (evl_cons0 (evx_tup (evl_cons0 (evx_lst (evl_cons0 (evx_lst (evl_cons0 (xi (1)) evl_nil) (by show 1 ≤ 1000; decide)) evl_nil) (by show 1 ≤ 1000; decide)) (evl_cons0 (xi (1)) evl_nil)) (by show 2 ≤ 1000; decide)) (evl_cons0 (evx_tup (evl_cons0 (evx_lst (evl_cons0 (CL.xs "never") evl_nil) (by show 1 ≤ 1000; decide)) (evl_cons0 (xi (1)) evl_nil)) (by show 2 ≤ 1000; decide)) evl_nil)))))))) (by show 8 ≤ 1000; decide)) (by omega) hS fun v1 d1 H1 S1 m1 h1 => ?_
  subst h1
  refine ev_set (c := 0) (i := 0) (σ := [some v1]) (P := (· = .list (nP1 ++ nP2))) (evx_cat0 (ev_var (i := 0) rfl List.mem_cons_self rfl) ((evx_lst (evl_cons0 (evx_tup (evl_cons0 (xi (3)) (evl_cons0 (xi (1)) evl_nil)) (by show 2 ≤ 1000; decide)) (evl_cons0 (evx_tup (evl_cons0 xn (evl_cons0 (xi (1)) evl_nil)) (by show 2 ≤ 1000; decide)) (evl_cons0 (evx_tup (evl_cons0 (CL.xs "3") (evl_cons0 (xi (1)) evl_nil)) (by show 2 ≤ 1000; decide)) (evl_cons0 (evx_tup (evl_cons0 (evx_lst (evl_cons0 (xi (0)) evl_nil) (by show 1 ≤ 1000; decide)) evl_nil) (by show 1 ≤ 1000; decide)) (evl_cons0 (evx_tup (evl_cons0 (evx_lst (evl_cons0 (xi (0)) evl_nil) (by show 1 ≤ 1000; decide)) (evl_cons0 (xi (1)) (evl_cons0 (xi (1)) evl_nil))) (by show 3 ≤ 1000; decide)) (evl_cons0 (evx_tup (evl_cons0 (evx_lst (evl_cons0 (xi (0)) evl_nil) (by show 1 ≤ 1000; decide)) (evl_cons0 ((evi_neg (x := 1)).ev fun j e => by rw [e]) evl_nil)) (by show 2 ≤ 1000; decide)) (evl_cons0 (evx_tup (evl_cons0 (evx_lst (evl_cons0 (xi (0)) evl_nil) (by show 1 ≤ 1000; decide)) (evl_cons0 (xb true) evl_nil)) (by show 2 ≤ 1000; decide)) (evl_cons0 (evx_tup (evl_cons0 (evx_lst (evl_cons0 (xi (0)) evl_nil) (by show 1 ≤ 1000; decide)) (evl_cons0 (CL.xs "1") evl_nil)) (by show 2 ≤ 1000; decide)) (evl_cons0 (evx_tup (evl_cons0 (evx_lst (evl_cons0 (xi (0)) evl_nil) (by show 1 ≤ 1000; decide)) (evl_cons0 (evx_lst (evl_cons0 (xi (1)) evl_nil) (by show 1 ≤ 1000; decide)) evl_nil)) (by show 2 ≤ 1000; decide)) evl_nil))))))))) (by show 9 ≤ 1000; decide)) : Ev 0 r W _ _ _ (· = .list nP2)) (by decide +kernel) (by decide +kernel)) (by omega) S1 fun v2 d2 H2 S2 m2 h2 => ?_
  subst h2
  refine ev_set (c := 0) (i := 0) (σ := [some v2]) (P := (· = .list ((nP1 ++ nP2) ++ nP3))) (evx_cat0 (ev_var (i := 0) rfl List.mem_cons_self rfl) ((evx_lst (evl_cons0 (evx_tup (evl_cons0 (evx_lst (evl_cons0 (xi (0)) evl_nil) (by show 1 ≤ 1000; decide)) (evl_cons0 ((evi_add0 (evi_pow (x := 10) (y := 30) ⟨by decide, by decide, by decide⟩) (ev_int (i := 1))).ev fun j e => by rw [e] <;> exact congrArg PyData.int (by decide +kernel)) evl_nil)) (by show 2 ≤ 1000; decide)) (evl_cons0 (evx_tup evl_nil (by show 0 ≤ 1000; decide)) (evl_cons0 (evx_lst evl_nil (by show 0 ≤ 1000; decide)) (evl_cons0 xn (evl_cons0 (xi (5)) (evl_cons0 (CL.xs "0 x 0") (evl_cons0 (ev_dict rfl) (evl_cons0 (evx_tup (evl_cons0 (xi (1)) (evl_cons0 (evx_lst (evl_cons0 (xi (0)) evl_nil) (by show 1 ≤ 1000; decide)) evl_nil)) (by show 2 ≤ 1000; decide)) (evl_cons0 (evx_tup (evl_cons0 (evx_lst (evl_cons0 (xi (0)) evl_nil) (by show 1 ≤ 1000; decide)) (evl_cons0 (CL.xs "ever") evl_nil)) (by show 2 ≤ 1000; decide)) (evl_cons0 (evx_tup (evl_cons0 (ev_dict rfl) (evl_cons0 (xi (1)) evl_nil)) (by show 2 ≤ 1000; decide)) evl_nil)))))))))) (by show 10 ≤ 1000; decide)) : Ev 0 r W _ _ _ (· = .list nP3)) (by decide +kernel) (by decide +kernel)) (by omega) S2 fun v3 d3 H3 S3 m3 h3 => ?_
  subst h3
  have E := evx_cat0 (σ := [some v3]) (W := W) (r := r) (ds := ((nP1 ++ nP2) ++ nP3)) (ev_var (i := 0) (G := (v3, .list ((nP1 ++ nP2) ++ nP3)) :: (v2, .list (nP1 ++ nP2)) :: (v1, .list nP1) :: []) rfl List.mem_cons_self rfl) ((evx_lst (evl_cons0 (evx_lst (evl_cons0 (evx_lst (evl_cons0 (xi (0)) evl_nil) (by show 1 ≤ 1000; decide)) (evl_cons0 ((evi_pow (x := 10) (y := 39) ⟨by decide, by decide, by decide⟩).ev fun j e => by rw [e] <;> exact congrArg PyData.int (by decide +kernel)) evl_nil)) (by show 2 ≤ 1000; decide)) evl_nil) (by show 1 ≤ 1000; decide)) : Ev 0 r W _ _ _ (· = .list nP4)) (by decide +kernel) (by decide +kernel)
  exact E _ H3 _ (by omega) S3 fun v' d' H4 b4 m4 rp p => q v' H4 b4.to ((m1.trans m2).trans (m3.trans m4)) (by rw [p] at rp; exact rp)
end
end CL
set_option Elab.async false
set_option linter.all false
set_option pp.maxSteps 600
set_option maxRecDepth 100000
set_option maxHeartbeats 4000000
namespace CL
open PySem PySem.Spec PyProof.Rows L2 GE
/-! ### what the law hands in -/
def amM : PyData → PyData
  | .none => .int 3
  | d => d
def amD (x : RowT) : PyData := rowD (x.1, amM x.2)
def s1D (A : List PyData) (k : Nat) : List PyData := (noP.map fun odd => .list ((A.take k ++ [odd]) ++ A.drop k)) ++ (noP.map fun odd => .list [odd])
def s2D (A : List PyData) : List PyData := [.list ([.tuple [.list [.int 1], .none]] ++ A), .list ((A.take 1 ++ [.tuple [.list [.int 0, .int 2], .none]]) ++ A.take 1), .list (List.replicate 9 [.tuple [.list [.int 0], .int 1]]).flatten, .list []]
def s3D : List PyData := [.list [.tuple [.list [.int 0], .int 500000000000000000000000000000], .tuple [.list [.int 1], .int 500000000000000000000000000001]], .none, .int 0, .bool true, .str "", .str "0 x 0", .dict [], .tuple [.list [.int 0], .int 1]]
def someD (A : List PyData) (k : Nat) : List PyData := (s1D A k ++ s2D A) ++ s3D
def goodD : List PyData := [.list [.tuple [.list [.int 0], .int 500000000000000000000000000000], .tuple [.list [.int 1], .int 500000000000000000000000000000]], .list [.tuple [.list (List.replicate 8 [.none]).flatten, .none]], .list [.tuple [.list [.int 1000000000000000000000000000000], .int 1000000000000000000000000000000], .tuple [.list [.int 0], .none]]]
def good4D : List PyData := goodD ++ [.tuple [.tuple [.list [.int 0], .int 0]]]
theorem good4_told : ∀ x ∈ good4D, isPlan x = true := by
  have h : good4D.all isPlan = true := by decide +kernel
  exact fun x hx => List.all_eq_true.mp h x hx
theorem row_piece {x : RowT} (h : RowF x) (hm : isMany x.2 = true) : isPiece (rowD x) = true := by
  show isPiece (.tuple [.list x.1, x.2]) = true
  have : isTurns (.list x.1) = true := by
    show (decide (1 ≤ x.1.length) && decide (x.1.length ≤ 8) && x.1.all isPatience) = true
    rw [Bool.and_eq_true, Bool.and_eq_true, decide_eq_true_eq, decide_eq_true_eq, List.all_eq_true]
    exact ⟨⟨h.l1, h.l8⟩, h.pt⟩
  show (isTurns (.list x.1) && isMany x.2) = true
  rw [this, hm]
  rfl
theorem DrM.many {d : PyData} (h : DrM d) : isMany d = true ∧ 0 ≤ worth d ∧ worth d ≤ 100000000000000000000000000000 := by
  obtain ⟨m, rfl, h0, h1⟩ := h
  exact ⟨by simp [isMany]; omega, h0, by show m ≤ _; omega⟩
theorem sum_le {b : Int} : ∀ ds : List PyData, (∀ d ∈ ds, worth (sndD d) ≤ b) → sumSnd ds ≤ ds.length * b
  | [], _ => by simp [sumSnd]
  | d :: ds, h => by
    have e : sumSnd (d :: ds) = worth (sndD d) + sumSnd ds := rfl
    have h1 := h d List.mem_cons_self
    have h2 := sum_le ds fun x hx => h x (List.mem_cons_of_mem _ hx)
    rw [e, List.length_cons]
    have : ((ds.length + 1 : Nat) : Int) * b = (ds.length : Int) * b + b := by push_cast; rw [Int.add_mul, Int.one_mul]
    omega
theorem planL_plan {L : List RowT} (h : PlanL L) : isPlan (planD L) = true := by
  have hmany : ∀ x ∈ L, isMany x.2 = true ∧ 0 ≤ worth x.2 ∧ worth x.2 ≤ 100000000000000000000000000000 := fun x hx => by
    obtain ⟨i, hi⟩ := List.getElem?_of_mem hx
    rcases h.many i x hi with z | ⟨_, z⟩
    · exact z.many
    · rw [z]; exact ⟨rfl, by decide, by decide⟩
  show isPlanL (L.map rowD) = true
  have hl : (L.map rowD).length = L.length := List.length_map ..
  have hs : sumSnd (L.map rowD) ≤ GREAT := by
    have := sum_le (b := 100000000000000000000000000000) (L.map rowD) fun d hd => by
      obtain ⟨x, hx, rfl⟩ := List.mem_map.mp hd
      exact (hmany x hx).2.2
    rw [hl] at this
    have l8 := h.l8
    have hG : GREAT = 1000000000000000000000000000000 := rfl
    omega
  have hn : (((L.map rowD).take ((L.map rowD).length - 1)).any fun d => isNone (sndD d)) = false := by
    cases e : (((L.map rowD).take ((L.map rowD).length - 1)).any fun d => isNone (sndD d)) with
    | false => rfl
    | true =>
      obtain ⟨d, hd, hN⟩ := List.any_eq_true.mp e
      obtain ⟨i, hi⟩ := List.getElem?_of_mem hd
      rw [List.getElem?_take] at hi
      split at hi
      case isFalse => cases hi
      case isTrue hlt =>
        rw [List.getElem?_map] at hi
        obtain ⟨x, hx, rfl⟩ := Option.map_eq_some_iff.mp hi
        rcases h.many i x hx with ⟨m, z, _⟩ | ⟨z, _⟩
        · have : isNone x.2 = true := hN
          rw [z] at this
          cases this
        · omega
  unfold isPlanL
  rw [hn, hl]
  have h1 := h.l1
  have h8 := h.l8
  simp only [Bool.and_eq_true, decide_eq_true_eq, List.all_eq_true, Bool.not_false]
  refine ⟨⟨⟨⟨h1, h8⟩, fun d hd => ?_⟩, trivial⟩, hs⟩
  obtain ⟨x, hx, rfl⟩ := List.mem_map.mp hd
  exact row_piece (h.rows x hx) (hmany x hx).1
/-- a piece without end amid -/
theorem none_amid {ds : List PyData} {i : Nat} {d : PyData} (h : ds[i]? = some d) (hi : i + 1 < ds.length) (hn : sndD d = .none) : isPlan (.list ds) = false := by
  cases hp : isPlan (.list ds) with
  | false => rfl
  | true =>
    have hp : isPlanL ds = true := hp
    simp only [isPlanL, Bool.and_eq_true] at hp
    have h4 := hp.1.2
    rw [Bool.not_eq_true'] at h4
    have : (ds.take (ds.length - 1)).any (fun d => isNone (sndD d)) = true := List.any_eq_true.mpr ⟨d, List.mem_of_getElem? (i := i) (by rw [List.getElem?_take, if_pos (by omega)]; exact h), by rw [hn]; rfl⟩
    rw [this] at h4
    cases h4
theorem someD_bad {A : List PyData} {k : Nat} (hA : A ≠ []) : ∀ x ∈ someD A k, isPlan x = false := by
  intro x hx
  have hA1 : 1 ≤ A.length := List.length_pos_iff.mpr hA
  unfold someD s1D at hx
  simp only [List.mem_append] at hx
  rcases hx with ((hx | hx) | hx) | hx
  · obtain ⟨odd, ho, rfl⟩ := List.mem_map.mp hx
    exact noPc_plan (List.mem_append_left _ (List.mem_append_right _ List.mem_cons_self)) (noP_bad odd ho)
  · obtain ⟨odd, ho, rfl⟩ := List.mem_map.mp hx
    exact noPc_plan List.mem_cons_self (noP_bad odd ho)
  · simp only [s2D, List.mem_cons, List.not_mem_nil, or_false] at hx
    rcases hx with rfl | rfl | rfl | rfl
    · exact none_amid (i := 0) rfl (by rw [List.length_append, List.length_singleton]; omega) rfl
    · obtain ⟨a, B, rfl⟩ : ∃ a B, A = a :: B := by cases A with
        | nil => exact absurd rfl hA
        | cons a B => exact ⟨a, B, rfl⟩
      exact none_amid (i := 1) rfl (by show 1 + 1 < ((a :: B).take 1 ++ _ ++ (a :: B).take 1).length; simp) rfl
    · decide +kernel
    · decide +kernel
  · have h : s3D.all (fun x => !isPlan x) = true := by decide +kernel
    have := List.all_eq_true.mp h x hx
    simpa using this
/-! ### how much there is to show -/
def BB (x : PyData) : Prop := B 3 9000 x
theorem noP_b : ∀ x ∈ noP, B 3 9000 x := by
  have h : noP.all (fun x => decide (x.depth ≤ 3) && decide (wt x ≤ 9000) && x.showable) = true := by decide +kernel
  intro x hx
  have := List.all_eq_true.mp h x hx
  simp only [Bool.and_eq_true, decide_eq_true_eq] at this
  exact ⟨this.1.1, this.1.2, this.2⟩
theorem row_b {x : RowT} (h : RowF x) (hm : DrM x.2) : B 3 9000 (rowD x) := by
  have hp : B 1 3000 (.list x.1) := (B.list (k := 0) (u := 200) (n := 8) (fun d hd => by
    rcases NumD.of (h.pt d hd) with rfl | ⟨i, rfl, h0, h1⟩
    · exact b_none
    · exact b_int (great140 h0 h1)) h.l8).mono (by decide) (by decide)
  refine (B.tuple (k := 2) (u := 3000) (n := 2) (fun d hd => ?_) (by show 2 ≤ 2; decide)).mono (by decide) (by decide)
  simp only [List.mem_cons, List.not_mem_nil, or_false] at hd
  rcases hd with rfl | rfl
  · exact hp.mono (by decide) (by decide)
  · obtain ⟨m, e, h0, h1⟩ := hm
    rw [e]
    exact (b_int (k := 1) (great140 h0 (by show m ≤ 1000000000000000000000000000000; omega))).mono (by decide) (by decide)
theorem someD_b {A : List PyData} {k : Nat} (h8 : A.length ≤ 8) (hA : ∀ x ∈ A, B 3 9000 x) : B 100 10000000 (.list (someD A k)) := by
  have few : ∀ ds : List PyData, ds.length ≤ 9 → (∀ x ∈ ds, B 3 9000 x) → B 4 90000 (.list ds) := fun ds hl h => (B.list (k := 3) (u := 9000) (n := 9) h hl).mono (by decide) (by decide)
  have lk : (A.take k).length + (A.drop k).length = A.length := by rw [← List.length_append, List.take_append_drop]
  have hs2 : ∀ x ∈ s2D [], B 4 90000 x := by
    have h : (s2D []).all (fun x => decide (x.depth ≤ 4) && decide (wt x ≤ 90000) && x.showable) = true := by decide +kernel
    intro x hx
    have := List.all_eq_true.mp h x hx
    simp only [Bool.and_eq_true, decide_eq_true_eq] at this
    exact ⟨this.1.1, this.1.2, this.2⟩
  have hs3 : ∀ x ∈ s3D, B 4 90000 x := by
    have h : s3D.all (fun x => decide (x.depth ≤ 4) && decide (wt x ≤ 90000) && x.showable) = true := by decide +kernel
    intro x hx
    have := List.all_eq_true.mp h x hx
    simp only [Bool.and_eq_true, decide_eq_true_eq] at this
    exact ⟨this.1.1, this.1.2, this.2⟩
  have hn : ∀ x ∈ [PyData.tuple [.list [.int 1], .none], PyData.tuple [.list [.int 0, .int 2], .none]], B 3 9000 x := by
    have h : [PyData.tuple [.list [.int 1], .none], PyData.tuple [.list [.int 0, .int 2], .none]].all (fun x => decide (x.depth ≤ 3) && decide (wt x ≤ 9000) && x.showable) = true := by decide +kernel
    intro x hx
    have := List.all_eq_true.mp h x hx
    simp only [Bool.and_eq_true, decide_eq_true_eq] at this
    exact ⟨this.1.1, this.1.2, this.2⟩
  have t1 : (A.take 1).length ≤ 1 := by rw [List.length_take]; omega
  have inT : ∀ {n : Nat} {x : PyData}, x ∈ A.take n → B 3 9000 x := fun h => hA _ (List.mem_of_mem_take h)
  refine (B.list (k := 4) (u := 90000) (n := 70) (fun x hx => ?_) ?_).mono (by decide) (by decide)
  · unfold someD s1D at hx
    simp only [List.mem_append] at hx
    rcases hx with ((hx | hx) | hx) | hx
    · obtain ⟨odd, ho, rfl⟩ := List.mem_map.mp hx
      refine few _ (by rw [List.length_append, List.length_append, List.length_singleton]; omega) fun y hy => ?_
      simp only [List.mem_append, List.mem_singleton] at hy
      rcases hy with (hy | rfl) | hy
      · exact inT hy
      · exact noP_b y ho
      · exact hA y (List.mem_of_mem_drop hy)
    · obtain ⟨odd, ho, rfl⟩ := List.mem_map.mp hx
      exact few _ (by show 1 ≤ 9; decide) fun y hy => by rw [List.mem_singleton.mp hy]; exact noP_b odd ho
    · simp only [s2D, List.mem_cons, List.not_mem_nil, or_false] at hx
      rcases hx with rfl | rfl | rfl | rfl
      · refine few _ (by rw [List.length_append, List.length_singleton]; omega) fun y hy => ?_
        simp only [List.mem_append, List.mem_singleton] at hy
        rcases hy with rfl | hy
        · exact hn _ List.mem_cons_self
        · exact hA y hy
      · refine few _ (by rw [List.length_append, List.length_append, List.length_singleton]; omega) fun y hy => ?_
        simp only [List.mem_append, List.mem_singleton] at hy
        rcases hy with (hy | rfl) | hy
        · exact inT hy
        · exact hn _ (List.mem_cons_of_mem _ List.mem_cons_self)
        · exact inT hy
      · exact hs2 _ (by simp [s2D])
      · exact hs2 _ (by simp [s2D])
    · exact hs3 x hx
  · unfold someD s1D
    rw [List.length_append, List.length_append, List.length_append, List.length_map, List.length_map, noP_len]
    show 28 + 28 + 4 + 8 ≤ 70
    decide
end CL
set_option Elab.async false
set_option linter.all false
set_option pp.maxSteps 900
set_option maxRecDepth 100000
set_option maxHeartbeats 4000000
namespace CL
open PySem PySem.Spec PyProof.Rows L2 GE
abbrev sLaw : Stmt := topS 50
abbrev nLaw : List Str := ["script", "bag", "turn", "plan", "amid", "at", "some", "kept", "good", "patiences", "many", "odd", "bad"]
theorem scLaw : FnScope nLaw ["script"] (defScope sLaw) := ⟨rfl, rfl, rfl, by decide +kernel, rfl, by decide +kernel, by decide +kernel⟩
section
variable {c c1 c2 : Nat} {r : Bg} {W : Addr → Prop} {G : Gam} {σ : L2.St}
theorem ev_drawE {k : Nat} {tm : TE} {m : Int} (e : EvI c r W G σ tm (· = m)) (h0 : σ[k]? = some (some (.ref r.a))) (h1 : 1 ≤ m) (h2 : m < 2 ^ 140) : EvI (c + 1) r W G σ (tCall (spE spDraw) [] E0 (tCons (tVar k) (tCons tm tNil))) (fun x => 0 ≤ x ∧ x < m) := fun n H Q l s q =>
  ⟨.ref r.a, h0, e n H _ (by omega) s fun i H1 re1 m1 e1 => ⟨r, m, n + c, by rw [e1]; rfl, re1, by omega, h1, h2, fun x H' re' m' x0 x1 => q x H' re'.to (m1.trans m') ⟨x0, x1⟩⟩⟩
theorem ev_noP : Ev 0 r W G σ (tCall (spE spNoP) [] E0 tNil) (· = .list noP) := fun n H Q l s q =>
  ⟨r, n, W, rfl, l, s.re, s.wk, fun v H' b' m' rp => q v _ H' b' m' rp rfl⟩
theorem evx_to0 {K : PySem.W.Frag} {te ti : TE} {ds : List PyData} {k : Nat} (a : Ev 0 r W G σ te (· = .list ds)) (b : EvI 0 r W G σ ti (· = (k : Int))) : Ev 0 r W G σ (tSl (rSlL K) te tNoPart (tPart ti)) (· = .list (ds.take k)) := evx_to a b
theorem evx_from0 {K : PySem.W.Frag} {te ti : TE} {ds : List PyData} {k : Nat} (a : Ev 0 r W G σ te (· = .list ds)) (b : EvI 0 r W G σ ti (· = (k : Int))) (hk : k ≤ ds.length) : Ev 0 r W G σ (tSl (rSlL K) te (tPart ti) tNoPart) (· = .list (ds.drop k)) := evx_from a b hk
end
def rNeE : R2 := fun x y H Q => ∃ (a b : Addr) (xs : List V), x = .ref a ∧ y = .ref b ∧ H a = some (.lst xs) ∧ H b = some (.lst []) ∧ Q (.bl (!xs.isEmpty)) H
theorem op_neE {X : Cx} (hu : X.A.units < cLine) : OpR X (compareOp .NotEq) rNeE := by
  intro pins s σ H x y v u Q I rx ry ⟨a, b, xs, ex, ey, ha, hb, q⟩
  subst ex ey
  obtain ⟨its, rv, p1, _⟩ := I.list (SqL.of ha)
  obtain ⟨jts, rw', p2, _⟩ := I.list (SqL.of hb)
  cases rx
  cases ry
  have l1 := rv.length
  have l2 := rw'.length
  cases xs with
  | nil =>
    have e : its.toArray.size = jts.toArray.size := by rw [List.size_toArray, List.size_toArray, ← l1, ← l2]
    have e0 : its.toArray.size = 0 := by rw [List.size_toArray, ← l1]; rfl
    have z := SeqAt.RcNeAt.lists (A := X.A) (e := fun _ => true) p1.isList p2.isList e hu (fun j h1 => absurd h1 (by rw [e0]; exact Nat.not_lt_zero j))
    refine z X.prog X.w _ _ ⟨.bl _, H, I, ?_, q⟩
    rw [e0]
    rfl
  | cons x xs =>
    have e : (its.toArray.size != jts.toArray.size) = true := by
      rw [List.size_toArray, List.size_toArray, ← l1, ← l2]
      rfl
    exact SeqAt.RcNeAt.lists_lengths (A := X.A) p1.isList p2.isList e hu X.prog X.w _ _ ⟨.bl _, H, I, rfl, q⟩
theorem sl_blk {X : Cx} {s : Shared} {H : Hp} {scope : Scope} {cenv : Env} {fp : List Addr} : L2.SlR (X.blk s H scope cenv fp) (rSlL X.K) := sl_list
theorem Tb.mv {n : Nat} {P1 P2 : Addr} {r : Bg} {H H' : Hp} (h : Tb P1 P2 H) (b : BagAt n H r) (m : Mv r H H') : Tb P1 P2 H' := ⟨tabG_mv h.1 b m, tabG_mv h.2 b m⟩
theorem Tb.upd {P1 P2 p : Addr} {H : Hp} {o : HO} (h : Tb P1 P2 H) (n : ∀ ps, H p ≠ some (.tbl ps)) : Tb P1 P2 (upd H p o) := ⟨tabG_upd h.1 n, tabG_upd h.2 n⟩
theorem ex_updN {H H1 : Hp} {b : Addr} {o : HO} (e : Ex H H1) (n : H b = none) : Ex H (upd H1 b o) := fun c o' h => by
  have ne : c ≠ b := fun z => by rw [z, n] at h; cases h
  rw [upd_ne ne]
  exact e c o' h
abbrev wsV (n : Nat) (x : Str) : List V := List.replicate n (V.str x)
abbrev wsD (n : Nat) (x : Str) : PyData := .list (List.replicate n (PyData.str x))
theorem ws_dp {K : PySem.W.Frag} {H : Hp} (x : Str) : ∀ n, DpAll K H (wsV n x) (List.replicate n (PyData.str x))
  | 0 => .nil
  | n + 1 => .cons (.str x) (ws_dp x n)
theorem eqv_ws (x : Str) : ∀ n, PyData.eqvAll (List.replicate n (PyData.str x)) (List.replicate n (PyData.str x)) = true
  | 0 => by simp [PyData.eqvAll]
  | n + 1 => by
    rw [List.replicate_succ]
    simp [PyData.eqvAll, PyData.eqv, eqv_ws x n]
theorem eqv_wsD (n : Nat) (x : Str) : PyData.eqv (wsD n x) (wsD n x) = true := by
  show PyData.eqv (.list _) (.list _) = true
  simp [PyData.eqv, eqv_ws x n]
theorem se_item {n : Nat} {r : Bg} {W : Addr → Prop} {G : Gam} {H : Hp} (s : Se n r W G H) {D : Addr} {ds : List PyData} {xs : List V} {j : Nat} {x : V} (m : (V.ref D, PyData.list ds) ∈ G) (h : H D = some (.lst xs)) (hx : xs[j]? = some x) : ∃ dx, ds[j]? = some dx ∧ Rp (Hw W H) x dx := by
  obtain ⟨D', ys, e, h2, h3⟩ := rp_list (s.ok _ m)
  cases e
  have h2' := Hw.sub _ H _ _ h2
  rw [h] at h2'
  cases h2'
  exact h3.get hx
def spLaw (K : PySem.W.Frag) (P1 P2 : Addr) : Sp := fun vs H Q _ => ∃ (a : Addr) (ns : List Int), vs = [.ref a] ∧ SqL K H a (ns.map V.int) ∧ ns.length ≤ 63 ∧ GxR.TabG H P1 ∧ GxR.TabG H P2 ∧ ∀ H', Q (.bl true) H'
section
variable {P : Program} {w : World} {K : PySem.W.Frag} {mg : Str → Option Value} {base : Heap}
theorem ok_law {f P1 P2 : Addr} {fd : FuncData} (F : Fun K "law" "law" sLaw f fd) (T : Nm mg) (T2 : Nm5 mg) (hsys : ∃ o, base.get? sysModules = some o)
    (CB : Cal P w K mg base 1 "_law_bag" ["script"] (spBag K)) (CPl : Cal P w K mg base 4 "_law_plan" ["bag", "most", "wide"] (spE spPlanB)) (CD : Cal P w K mg base 2 "_law_draw" ["bag", "many"] (spE spDraw)) (CN : Cal P w K mg base 10 "_law_no_pieces" [] (spE spNoP))
    (CT : Cal P w K mg base 10 "_law_told" ["plan"] (spTold P1 P2)) : FnG P w K mg base 11 f fd ["script"] (spLaw K P1 P2) := by
  refine fng_of F scLaw (fun vs H Q E ⟨a, ns, e, _⟩ => by rw [e]; rfl) (fun cdv A outer s H vs Q E hgd hr h => ?_)
  obtain ⟨a, ns, rfl, hS, h63, hG, hG2, q⟩ := h
  have nd := scLaw.nd
  refine ⟨_, (pss_cons (ps_set (i := 1) nd rfl (.inl rfl) (pe_cal (CB.mono (by decide)) hr (by rfl) (pa_cons (pv 0) pa_nil)))
      (pss_cons (ps_for PassesOwn.never rfl (pi_range1 (by rfl) T2.range (pa_cons (pe_op op_add pe_int (pe_callB (call_min2 rfl) (by rfl) T2.min (by decide +kernel) (pa_cons pe_int (pa_cons (pe_callB call_len_seq (by rfl) T.len PySem.boot_len (pa_cons (pv 0) pa_nil)) pa_nil)))) pa_nil)) (pg_name (i := 2) nd rfl (.inl rfl)) (pss_cons (ps_set (i := 3) nd rfl (.inl rfl) (pe_cal (CPl.mono (by decide)) hr (by rfl) (pa_cons (pv 1) (pa_cons pe_int (pa_cons (pe_ix ix_list (pe_lst (pa_cons pe_int (pa_cons (pe_op op_pow pe_int pe_int) pa_nil))) (pe_cal (CD.mono (by decide)) hr (by rfl) (pa_cons (pv 1) (pa_cons pe_int pa_nil))) (fun _ _ => rfl)) pa_nil)))))
      (pss_cons (ps_if (pt_cmpR op_ne (pe_cal CT hr (by rfl) (pa_cons (pv 3) pa_nil)) pe_str (nomark _)) (pss_one (ps_ret pe_bl)) pss_nil)
      (pss_cons (ps_set (i := 4) nd rfl (.inr rfl) (pe_lc (own := [("patiences", 9), ("many", 10)]) (g := (gTup K 2 (gCons (gName 9) (gCons (gName 10) gNil)))) (tt := tYes) rfl nd (pi_list (pv 3)) (blkOk_by (own := [("patiences", 9), ("many", 10)]) (N := nLaw) (sc := (defScope sLaw)) (by decide +kernel)) (fun _ _ _ _ _ => (pg_tup rfl (pgs_cons (pg_name (i := 9) nd rfl (.inl rfl) (.inr rfl)) (pgs_cons (pg_name (i := 10) nd rfl (.inl rfl) (.inr rfl)) pgs_nil)))) (fun _ _ _ _ _ => pts_nil) (fun _ _ _ _ _ => (pe_tup (pa_cons (pv 9) (pa_cons (pe_ifExp (pt_cmp (pc_isN (pv 10))) pe_int (pv 10)) pa_nil))))))
      (pss_cons (ps_set (i := 5) nd rfl (.inr rfl) (pe_cal (CD.mono (by decide)) hr (by rfl) (pa_cons (pv 1) (pa_cons (pe_op op_add (pe_callB call_len_seq (by rfl) T.len PySem.boot_len (pa_cons (pv 3) pa_nil)) pe_int) pa_nil))))
      (pss_cons (ps_set (i := 6) nd rfl (.inl rfl) (pe_op op_cat (pe_lc (own := [("odd", 11)]) (g := (gName 11)) (tt := tYes) rfl nd (pi_list (pe_cal0 CN hr (by rfl))) (blkOk_by (own := [("odd", 11)]) (N := nLaw) (sc := (defScope sLaw)) (by decide +kernel)) (fun _ _ _ _ _ => (pg_name (i := 11) nd rfl (.inl rfl))) (fun _ _ _ _ _ => pts_nil) (fun _ _ _ _ _ => (pe_op op_cat (pe_op op_cat (pe_slice sl_blk (pv 4) po_none (po_some (pv 5))) (pe_lst (pa_cons (pv 11) pa_nil))) (pe_slice sl_blk (pv 4) (po_some (pv 5)) po_none)))) (pe_lc (own := [("odd", 11)]) (g := (gName 11)) (tt := tYes) rfl nd (pi_list (pe_cal0 CN hr (by rfl))) (blkOk_by (own := [("odd", 11)]) (N := nLaw) (sc := (defScope sLaw)) (by decide +kernel)) (fun _ _ _ _ _ => (pg_name (i := 11) nd rfl (.inl rfl))) (fun _ _ _ _ _ => pts_nil) (fun _ _ _ _ _ => (pe_lst (pa_cons (pv 11) pa_nil))))))
      (pss_cons (ps_set (i := 6) nd rfl (.inl rfl) (pe_op op_cat (pv 6) (pe_lst (pa_cons (pe_op op_cat (pe_lst (pa_cons (pe_tup (pa_cons (pe_lst (pa_cons pe_int pa_nil)) (pa_cons pe_non pa_nil))) pa_nil)) (pv 4)) (pa_cons (pe_op op_cat (pe_op op_cat (pe_slice sl_list (pv 4) po_none (po_some pe_int)) (pe_lst (pa_cons (pe_tup (pa_cons (pe_lst (pa_cons pe_int (pa_cons pe_int pa_nil))) (pa_cons pe_non pa_nil))) pa_nil))) (pe_slice sl_list (pv 4) po_none (po_some pe_int))) (pa_cons (pe_op op_rep (pe_lst (pa_cons (pe_tup (pa_cons (pe_lst (pa_cons pe_int pa_nil)) (pa_cons pe_int pa_nil))) pa_nil)) pe_int) (pa_cons (pe_lst pa_nil) pa_nil)))))))
      (pss_cons (ps_set (i := 6) nd rfl (.inl rfl) (pe_op op_cat (pv 6) (pe_lst (pa_cons (pe_lst (pa_cons (pe_tup (pa_cons (pe_lst (pa_cons pe_int pa_nil)) (pa_cons (pe_op op_mul pe_int (pe_op op_pow pe_int pe_int)) pa_nil))) (pa_cons (pe_tup (pa_cons (pe_lst (pa_cons pe_int pa_nil)) (pa_cons (pe_op op_add (pe_op op_mul pe_int (pe_op op_pow pe_int pe_int)) pe_int) pa_nil))) pa_nil))) (pa_cons pe_non (pa_cons pe_int (pa_cons pe_bl (pa_cons pe_str (pa_cons pe_str (pa_cons pe_dnewK (pa_cons (pe_tup (pa_cons (pe_lst (pa_cons pe_int pa_nil)) (pa_cons pe_int pa_nil))) pa_nil)))))))))))
      (pss_cons (ps_set (i := 7) nd rfl (.inl rfl) (pe_callB (call_reprD hgd hr hsys) (by rfl) T2.repr (by decide +kernel) (pa_cons (pv 6) pa_nil)))
      (pss_one (ps_if (PW.pt (pw_or (pt_cmpR (op_neE hr.units0) (pe_lc (own := [("bad", 12)]) (g := (gName 12)) rfl nd (pi_list (pv 6)) (blkOk_by (own := [("bad", 12)]) (N := nLaw) (sc := (defScope sLaw)) (by decide +kernel)) (fun _ _ _ _ _ => (pg_name (i := 12) nd rfl (.inl rfl))) (fun _ _ _ _ _ => pts_one (pt_cmpR op_ne (pe_cal CT hr (by rfl) (pa_cons (pv 12) pa_nil)) pe_str (nomark _))) (fun _ _ _ _ _ => (pv 12))) (pe_lst pa_nil) (nomark _)) (pw_or1 (pt_cmpR op_ne (pe_callB (call_reprD hgd hr hsys) (by rfl) T2.repr (by decide +kernel) (pa_cons (pv 6) pa_nil)) (pv 7) (nomark _))))) (pss_one (ps_ret pe_bl)) pss_nil)))))))))))
      (pss_cons (ps_set (i := 8) nd rfl (.inl rfl) (pe_lst (pa_cons (pe_lst (pa_cons (pe_tup (pa_cons (pe_lst (pa_cons pe_int pa_nil)) (pa_cons (pe_op op_mul pe_int (pe_op op_pow pe_int pe_int)) pa_nil))) (pa_cons (pe_tup (pa_cons (pe_lst (pa_cons pe_int pa_nil)) (pa_cons (pe_op op_mul pe_int (pe_op op_pow pe_int pe_int)) pa_nil))) pa_nil))) (pa_cons (pe_lst (pa_cons (pe_tup (pa_cons (pe_op op_rep (pe_lst (pa_cons pe_non pa_nil)) pe_int) (pa_cons pe_non pa_nil))) pa_nil)) (pa_cons (pe_lst (pa_cons (pe_tup (pa_cons (pe_lst (pa_cons (pe_op op_pow pe_int pe_int) pa_nil)) (pa_cons (pe_op op_pow pe_int pe_int) pa_nil))) (pa_cons (pe_tup (pa_cons (pe_lst (pa_cons pe_int pa_nil)) (pa_cons pe_non pa_nil))) pa_nil))) pa_nil)))))
      (pss_one (ps_ret (pe_cmpR (op_eqD hr.units) (pe_lc (own := [("plan", 3)]) (g := (gName 3)) (tt := tYes) rfl nd (pi_list (pe_op op_cat (pv 8) (pe_lst (pa_cons (pe_tup (pa_cons (pe_tup (pa_cons (pe_lst (pa_cons pe_int pa_nil)) (pa_cons pe_int pa_nil))) pa_nil)) pa_nil)))) (blkOk_by (own := [("plan", 3)]) (N := nLaw) (sc := (defScope sLaw)) (by decide +kernel)) (fun _ _ _ _ _ => (pg_name (i := 3) nd rfl (.inl rfl))) (fun _ _ _ _ _ => pts_nil) (fun _ _ _ _ _ => (pe_cal CT hr (by rfl) (pa_cons (pv 3) pa_nil)))) (pe_op op_rep (pe_lst (pa_cons pe_str pa_nil)) pe_int) (nomark _))))))), ?_⟩
  have hM : M60 = 1000000000000000000 := rfl
  have hGr : GREAT = 1000000000000000000000000000000 := rfl
  have t140 : (2 : Int) ^ 140 = 1393796574908163946345982392040522594123776 := by decide +kernel
  refine ⟨.ref a, rfl, a, ns, rfl, hS, fun r H1 s1 nr b1 => ?_⟩
  have W0 : Wk (fun b => b = r.a) H1 r := ⟨rfl, fun b hb => by rw [hb]; exact b1.some⟩
  have S1 : Se 0 r (fun b => b = r.a) [] H1 := ⟨b1, W0, fun p hp => nomatch hp⟩
  have tb1 : Tb P1 P2 H1 := ⟨tabG_same s1 hG, tabG_same s1 hG2⟩
  refine ⟨.ref a, rfl, a, ns.map V.int, rfl, .inl (s1.seq hS), 6, ((ns.map V.int).length : Int), rfl, 2, _, rfl, rfl, _, rfl, by split <;> omega, by split <;> omega, ?_⟩
  have lm : (ns.map V.int).length = ns.length := List.length_map ..
  have hn8 : ((2 : Int) + (if ((ns.map V.int).length : Int) < 6 then ((ns.map V.int).length : Int) else 6)).toNat ≤ 8 := by split <;> omega
  refine for_range (lo := 0) (n := ((2 : Int) + (if ((ns.map V.int).length : Int) < 6 then ((ns.map V.int).length : Int) else 6)).toNat) (fun i σ H3 => ∃ y2 y3 y4 y5 y6 y7, σ = [some (.ref a), some (.ref r.a), y2, y3, y4, y5, y6, y7, none, none, none, none, none] ∧ Se (1000 * i) r (fun b => b = r.a) [] H3 ∧ Tb P1 P2 H3)
    ⟨none, none, none, none, none, none, rfl, S1, tb1⟩ (fun i σ H3 hi hP => ?_) (fun σ H3 hP => ?_)
  · obtain ⟨y2, y3, y4, y5, y6, y7, rfl, S3, tb3⟩ := hP
    have hi8 : i < 8 := by omega
    clear hi hn8
    dsimp only [gName]
    show tSeq _ _ _ [some (.ref a), some (.ref r.a), some (.int (0 + (i : Int))), y3, y4, y5, y6, y7, none, none, none, none, none] H3
    have ew : Ev 1 r (fun b => b = r.a) [] [some (.ref a), some (.ref r.a), some (.int (0 + (i : Int))), y3, y4, y5, y6, y7, none, none, none, none, none]
        (tOp (rIxL K) (tLst (tCons (tC (.int 3)) (tCons (tOp (rI CPow fun i j => .int (i ^ j.toNat)) (tC (.int 10)) (tC (.int 30))) tNil))) (tCall (spE spDraw) [] E0 (tCons (tVar 1) (tCons (tC (.int 2)) tNil)))) (fun d => ∃ x, d = .int x ∧ 0 ≤ x ∧ x ≤ GREAT) :=
      ev_ix (ev_lst (eva_cons ((ev_int (i := 3)).ev fun j e => ⟨j, rfl, by omega, by omega⟩) (eva_cons ((evi_pow ⟨by decide, by decide, by decide⟩).ev fun j e => ⟨j, rfl, by rw [e]; decide +kernel, by rw [e]; decide +kernel⟩) eva_nil))) ((ev_drawE (k := 1) (ev_int (i := 2)) rfl (by decide) (by decide)).imp fun i hi => ⟨hi.1, by have := hi.2; show i < 2; omega⟩)
    refine ⟨.ref r.a, rfl, ?_⟩
    refine ew _ H3 _ (by omega) S3 fun vw dw H4 b4 m4 rpw ⟨x, ex, x0, x1⟩ => ?_
    subst ex
    cases rpw
    refine ⟨r, 7, x, _, rfl, b4, by omega, by decide, by decide, x0, x1, fun vP L H5 b5 m5 rpP hL => ?_⟩
    have tb5 := tb3.mv S3.re (m4.trans m5)
    have S5 : Se (1000 * i + 1 + 400) r (fun b => b = r.a) [(vP, planD L)] H5 := ⟨b5, S3.wk.mv b5 (m4.trans m5), GOk.cons (fun p hp => nomatch hp) rpP⟩
    clear m4 m5 b4 b5 ew S3 tb3
    have eT : toldS (planD L) = "told" := by unfold toldS; rw [planL_plan hL]; rfl
    dsimp only [gName]
    show tSeq _ _ _ [some (.ref a), some (.ref r.a), some (.int (0 + (i : Int))), some vP, y4, y5, y6, y7, none, none, none, none, none] H5
    refine ⟨vP, rfl, vP, planD L, rfl, Rp.sm (Hw.sub _ _) rpP, tb5, fun H6 x6 tb6 => ?_⟩
    rw [eT]
    refine ⟨rfl, _, rfl, ite2 (fun y => absurd y (by simp)) (fun _ => ?_)⟩
    have S6 := S5.ex x6
    clear x6 S5 tb5 rpP
    dsimp only [tNext]
    show tSeq _ _ _ [some (.ref a), some (.ref r.a), some (.int (0 + (i : Int))), some vP, y4, y5, y6, y7, none, none, none, none, none] H6
    -- none without end amid
    obtain ⟨p, xs, rfl, hp6, hx6⟩ := rp_list (S6.ok (vP, planD L) List.mem_cons_self)
    have hp6' := Hw.sub _ _ _ _ hp6
    have pr : p ≠ r.a := Hw.ne (W := fun b => b = r.a) hp6
    have lx : xs.length = L.length := by rw [hx6.length, List.length_map]
    refine ⟨.ref p, rfl, p, rfl, ⟨_, SqL.of hp6'⟩, fun D nD => ?_⟩
    have D6 : DS (1000 * i + 1 + 400) r D [(V.ref p, planD L)] (([] : List RowT).map amD) (upd H6 D (.lst [])) := DS.mk' S6 nD .nil
    have offD := S6.re.new nD
    refine lc_list (K := K) (a := p) (xs := xs) (fun k H7 => DS (1000 * i + 1 + 400) r D [(V.ref p, planD L)] ((L.take k).map amD) H7 ∧ Mv r H6 H7) ⟨D6, Mv.of (same_upd nD)⟩ (fun k H7 _ ⟨_, m7⟩ => SqL.of (m7.keep p _ pr hp6')) (fun k x H7 hxk ⟨D7, m7⟩ => ?_) (fun H7 ⟨D7, m7⟩ => ?_)
    · have hk : k < xs.length := (List.getElem?_eq_some_iff.mp hxk).1
      obtain ⟨dx, hdx, hRx⟩ := se_item D7.se (ds := L.map rowD) List.mem_cons_self (m7.keep p _ pr hp6') hxk
      rw [List.getElem?_map] at hdx
      obtain ⟨row, hrow, rfl⟩ := Option.map_eq_some_iff.mp hdx
      cases hRx with
      | @tup b _ _ hb hall =>
      cases hall with
      | cons ht hall =>
      cases hall with
      | @cons vm _ _ _ hm hall =>
      cases hall
      cases ht with
      | @lst t tv _ ht htv =>
      have hb' := Hw.sub _ _ _ _ hb
      have ht' := Hw.sub _ _ _ _ ht
      have tW := Hw.ne ht
      have hmn : DrM row.2 ∨ row.2 = .none := (hL.many k row hrow).imp id And.right
      have ll : (L.take k).length ≤ 8 := by rw [List.length_take]; have := hL.l8; omega
      have fin : ∀ (vm' : V), Rp (fun _ => none) vm' (amM row.2) → ∀ u, H7 u = none → ∃ acc, (upd H7 u (.tup [.ref t, vm'])) D = some (.lst acc) ∧ acc.length < sizeLine ∧ DS (1000 * i + 1 + 400) r D [(V.ref p, planD L)] ((L.take (k + 1)).map amD) (upd (upd H7 u (.tup [.ref t, vm'])) D (.lst (acc ++ [.ref u]))) ∧ Mv r H6 (upd (upd H7 u (.tup [.ref t, vm'])) D (.lst (acc ++ [.ref u]))) := fun vm' hv u nu => by
        have s8 := same_upd (o := .tup [.ref t, vm']) nu
        have uW := D7.se.wk.out nu
        have D8 := D7.mv (D7.se.re.same s8) (Mv.of s8)
        obtain ⟨fv, hfv, lf, D9⟩ := D8.app D8.se.re (Mv.refl r _) (v := .ref u) (d := amD row) (.tup (by rw [Hw.at (W := fun b => b = r.a ∨ b = D) uW]; exact upd_same) (.cons (.lst (by rw [Hw.at (W := fun b => b = r.a ∨ b = D) tW]; exact s8 _ _ ht') (RpAll.sm (Same.hw s8) htv)) (.cons (rp_any hv) .nil)))
        exact ⟨fv, hfv, small1000 (by rw [lf, List.length_map]; omega), by rw [List.take_add_one, hrow, List.map_append]; exact D9, (m7.trans (Mv.of s8)).upd nD⟩
      rcases hmn with ⟨m, e, m0, m1⟩ | e
      · rw [e] at hm fin
        cases hm
        exact ⟨b, _, rfl, SqT.of hb', rfl, .ref t, _, rfl, .int m, _, rfl, rfl, rfl, yesT ⟨.ref t, rfl, .int m, rfl, false, rfl, iteF ⟨.int m, rfl, small_le (by show 2 ≤ 1000; decide), fun u nu => fin (.int m) (.int m) u nu⟩⟩⟩
      · rw [e] at hm fin
        cases hm
        exact ⟨b, _, rfl, SqT.of hb', rfl, .ref t, _, rfl, .non, _, rfl, rfl, rfl, yesT ⟨.ref t, rfl, .non, rfl, true, rfl, iteT ⟨small_le (by show 2 ≤ 1000; decide), fun u nu => fin (.int 3) (.int 3) u nu⟩⟩⟩
    · rw [lx, List.take_length] at D7
      have S7 := D7.back
      have tb7 := tb6.mv S6.re m7
      have pmem : (V.ref p, PyData.list (L.map rowD)) ∈ [(V.ref D, PyData.list (L.map amD)), (V.ref p, planD L)] := List.mem_cons_of_mem _ List.mem_cons_self
      clear D6 D7 offD m7 tb6 S6 hx6 hp6 hp6' pr lx nD
      have hAn : L.map amD ≠ [] := fun z => by
        have := hL.l1
        have e : (L.map amD).length = 0 := by rw [z]; rfl
        rw [List.length_map] at e
        omega
      have lA : (L.map amD).length ≤ 8 := by rw [List.length_map]; exact hL.l8
      have lA2 : (L.map amD).length = (L.map rowD).length := by rw [List.length_map, List.length_map]
      have hAb : ∀ x ∈ L.map amD, B 3 9000 x := fun x hx => by
        obtain ⟨row, hrow, rfl⟩ := List.mem_map.mp hx
        have hr := hL.rows row hrow
        refine row_b (x := (row.1, amM row.2)) ⟨hr.l1, hr.l8, hr.pt⟩ ?_
        obtain ⟨i, hi⟩ := List.getElem?_of_mem hrow
        rcases hL.many i row hi with ⟨m, e, m0, m1⟩ | ⟨_, e⟩
        · rw [e]; exact ⟨m, rfl, m0, m1⟩
        · rw [e]; exact ⟨3, rfl, by decide, by decide⟩
      generalize L.map amD = A at S7 pmem hAn lA lA2 hAb ⊢
      have hl8 : (L.map rowD).length ≤ 8 := by omega
      dsimp only [gName]
      show tSeq _ _ _ [some (.ref a), some (.ref r.a), some (.int (0 + (i : Int))), some (.ref p), some (.ref D), y5, y6, y7, none, none, none, none, none] H7
      refine evi_set (i := 5) (ev_drawE (k := 1) (evi_add (ev_len (K := K) (i := 3) (v := .ref p) (ds := L.map rowD) rfl pmem) (ev_int (i := 1))) rfl (by omega) (by rw [t140]; omega)) (by omega) S7 fun z H8 S8 m8 hz => ?_
      have tb8 := tb7.mv S7.re m8
      clear S7 tb7 m8
      obtain ⟨kk, rfl⟩ : ∃ kk : Nat, z = (kk : Int) := ⟨z.toNat, by omega⟩
      have hkk : kk ≤ A.length := by omega
      clear hz pmem
      show tSeq _ _ _ [some (.ref a), some (.ref r.a), some (.int (0 + (i : Int))), some (.ref p), some (.ref D), some (.int (kk : Int)), y6, y7, none, none, none, none, none] H8
      refine ev_set (c := 0) (i := 6) (P := (· = .list (s1D A kk))) (evx_cat0
        (ev_lcL (f := fun odd => .list ((A.take kk ++ [odd]) ++ A.drop kk)) (by rw [noP_len]; decide) ev_noP fun W' G' v d hd hG => evx_cat0 (evx_cat0 (evx_to0 (ev_var (i := 4) (v := .ref D) (d := .list A) rfl (List.mem_cons_of_mem _ (hG _ List.mem_cons_self)) rfl) (ev_varI (i := 5) rfl)) (evx_lst (evl_cons0 (ev_var (i := 11) rfl List.mem_cons_self rfl) evl_nil) (by show 1 ≤ 1000; decide)) (by rw [List.length_take]; omega) (by show 1 ≤ 1000; decide))
          (evx_from0 (ev_var (i := 4) (v := .ref D) (d := .list A) rfl (List.mem_cons_of_mem _ (hG _ List.mem_cons_self)) rfl) (ev_varI (i := 5) rfl) hkk) (by rw [List.length_append, List.length_take, List.length_singleton]; omega) (by rw [List.length_drop]; omega))
        (ev_lcL (f := fun odd => .list [odd]) (by rw [noP_len]; decide) ev_noP fun W' G' v d hd hG => evx_lst (evl_cons0 (ev_var (i := 11) rfl List.mem_cons_self rfl) evl_nil) (by show 1 ≤ 1000; decide))
        (by rw [List.length_map, noP_len]; decide) (by rw [List.length_map, noP_len]; decide)) (by omega) S8 fun v6 d6 H9 S9 m9 h9 => ?_
      subst h9
      have tb9 := tb8.mv S8.re m9
      clear S8 tb8 m9
      have ls1 : (s1D A kk).length = 56 := by unfold s1D; rw [List.length_append, List.length_map, List.length_map, noP_len]
      show tSeq _ _ _ [some (.ref a), some (.ref r.a), some (.int (0 + (i : Int))), some (.ref p), some (.ref D), some (.int (kk : Int)), some v6, y7, none, none, none, none, none] H9
      have vD : ∀ {W' : Addr → Prop}, Ev 0 r W' [(v6, PyData.list (s1D A kk)), (V.ref D, PyData.list A), (V.ref p, planD L)] [some (.ref a), some (.ref r.a), some (.int (0 + (i : Int))), some (.ref p), some (.ref D), some (.int (kk : Int)), some v6, y7, none, none, none, none, none] (tVar 4) (· = .list A) := ev_var (i := 4) (v := .ref D) (d := .list A) rfl (List.mem_cons_of_mem _ List.mem_cons_self) rfl
      refine ev_set (c := 0) (i := 6) (P := (· = .list (s1D A kk ++ s2D A))) (evx_cat0 (ev_var (i := 6) rfl List.mem_cons_self rfl)
        (evx_lst (evl_cons0 (evx_cat0 (evx_lst (evl_cons0 (evx_tup (evl_cons0 (evx_lst (evl_cons0 (xi (1)) evl_nil) (by show 1 ≤ 1000; decide)) (evl_cons0 xn evl_nil)) (by show 2 ≤ 1000; decide)) evl_nil) (by show 1 ≤ 1000; decide)) vD (by decide) (by omega)) (evl_cons0 (evx_cat0 (evx_cat0 (evx_to0 (k := 1) vD (ev_int (i := 1))) (evx_lst (evl_cons0 (evx_tup (evl_cons0 (evx_lst (evl_cons0 (xi (0)) (evl_cons0 (xi (2)) evl_nil)) (by show 2 ≤ 1000; decide)) (evl_cons0 xn evl_nil)) (by show 2 ≤ 1000; decide)) evl_nil) (by show 1 ≤ 1000; decide)) (by rw [List.length_take]; omega) (by decide)) (evx_to0 (k := 1) vD (ev_int (i := 1))) (by rw [List.length_append, List.length_take, List.length_singleton]; omega) (by rw [List.length_take]; omega)) (evl_cons0 (evx_rep (k := 9) (evx_lst (evl_cons0 (evx_tup (evl_cons0 (evx_lst (evl_cons0 (xi (0)) evl_nil) (by show 1 ≤ 1000; decide)) (evl_cons0 (xi (1)) evl_nil)) (by show 2 ≤ 1000; decide)) evl_nil) (by show 1 ≤ 1000; decide)) (by decide) (by decide)) (evl_cons0 (evx_lst evl_nil (by show 0 ≤ 1000; decide)) evl_nil)))) (by show 4 ≤ 1000; decide)) (by omega) (by show 4 ≤ 1000; decide)) (by omega) S9 fun v7 d7 H10 S10 m10 h10 => ?_
      subst h10
      have tb10 := tb9.mv S9.re m10
      clear S9 tb9 m10 vD
      have ls2 : (s1D A kk ++ s2D A).length = 60 := by rw [List.length_append, ls1]; rfl
      show tSeq _ _ _ [some (.ref a), some (.ref r.a), some (.int (0 + (i : Int))), some (.ref p), some (.ref D), some (.int (kk : Int)), some v7, y7, none, none, none, none, none] H10
      refine ev_set (c := 0) (i := 6) (P := (· = .list (someD A kk))) (evx_cat0 (ev_var (i := 6) rfl List.mem_cons_self rfl) ((evx_lst (evl_cons0 (evx_lst (evl_cons0 (evx_tup (evl_cons0 (evx_lst (evl_cons0 (xi (0)) evl_nil) (by show 1 ≤ 1000; decide)) (evl_cons0 ((evi_mul0 (ev_int (i := 5)) (evi_pow (x := 10) (y := 29) ⟨by decide, by decide, by decide⟩) (.inl ⟨by decide, by decide⟩)).ev fun j e => by rw [e] <;> exact congrArg PyData.int (by decide +kernel)) evl_nil)) (by show 2 ≤ 1000; decide)) (evl_cons0 (evx_tup (evl_cons0 (evx_lst (evl_cons0 (xi (1)) evl_nil) (by show 1 ≤ 1000; decide)) (evl_cons0 ((evi_add0 (evi_mul0 (ev_int (i := 5)) (evi_pow (x := 10) (y := 29) ⟨by decide, by decide, by decide⟩) (.inl ⟨by decide, by decide⟩)) (ev_int (i := 1))).ev fun j e => by rw [e] <;> exact congrArg PyData.int (by decide +kernel)) evl_nil)) (by show 2 ≤ 1000; decide)) evl_nil)) (by show 2 ≤ 1000; decide)) (evl_cons0 xn (evl_cons0 (xi (0)) (evl_cons0 (xb true) (evl_cons0 (CL.xs "") (evl_cons0 (CL.xs "0 x 0") (evl_cons0 (ev_dict rfl) (evl_cons0 (evx_tup (evl_cons0 (evx_lst (evl_cons0 (xi (0)) evl_nil) (by show 1 ≤ 1000; decide)) (evl_cons0 (xi (1)) evl_nil)) (by show 2 ≤ 1000; decide)) evl_nil)))))))) (by show 8 ≤ 1000; decide)) : Ev 0 r _ _ _ _ (· = .list s3D)) (by omega) (by show 8 ≤ 1000; decide)) (by omega) S10 fun v8 d8 H11 S11 m11 h11 => ?_
      subst h11
      have tb11 := tb10.mv S10.re m11
      clear S10 tb10 m11
      obtain ⟨g, gs, rfl, hg, hgs⟩ := rp_list (S11.ok (v8, .list (someD A kk)) List.mem_cons_self)
      have hg' := Hw.sub _ _ _ _ hg
      have gr : g ≠ r.a := Hw.ne (W := fun b => b = r.a) hg
      have lgs : gs.length = (someD A kk).length := hgs.length
      have hbad := someD_bad (k := kk) hAn
      have hBB := someD_b (k := kk) lA hAb
      have gmem : (V.ref g, PyData.list (someD A kk)) ∈ [(V.ref g, PyData.list (someD A kk)), (v7, PyData.list (s1D A kk ++ s2D A)), (v6, PyData.list (s1D A kk)), (V.ref D, PyData.list A), (V.ref p, planD L)] := List.mem_cons_self
      generalize [(V.ref g, PyData.list (someD A kk)), (v7, PyData.list (s1D A kk ++ s2D A)), (v6, PyData.list (s1D A kk)), (V.ref D, PyData.list A), (V.ref p, planD L)] = GG at S11 gmem
      show tSeq _ _ _ [some (.ref a), some (.ref r.a), some (.int (0 + (i : Int))), some (.ref p), some (.ref D), some (.int (kk : Int)), some (.ref g), y7, none, none, none, none, none] H11
      refine ⟨.ref g, rfl, .ref g, .list (someD A kk), g, rfl, rfl, Rp.sm (Hw.sub _ _) (S11.ok _ gmem), hBB, ?_⟩
      generalize hshn : (PyData.list (someD A kk)).shown = shn
      generalize someD A kk = SD at hbad hBB gmem lgs hgs hshn
      dsimp only [gName]
      show tIfS _ _ _ _ [some (.ref a), some (.ref r.a), some (.int (0 + (i : Int))), some (.ref p), some (.ref D), some (.int (kk : Int)), some (.ref g), some (.str shn), none, none, none, none, none] H11
      refine ⟨.ref g, rfl, g, rfl, ⟨_, SqL.of hg'⟩, fun E1 nE => ?_⟩
      refine lc_list (K := K) (a := g) (xs := gs) (fun k H12 => Ex H11 H12 ∧ H12 E1 = some (.lst []) ∧ Tb P1 P2 H12) ⟨Ex.new nE, upd_same, tb11.same (same_upd nE)⟩ (fun k H12 _ ⟨x12, _⟩ => SqL.of (x12.lst hg')) (fun k x H12 hxk ⟨x12, e12, tb12⟩ => ?_) (fun H12 ⟨x12, e12, tb12⟩ => ?_)
      · obtain ⟨dx, hdx, hRx⟩ := se_item (S11.ex x12) gmem (x12.lst hg') hxk
        have eB : toldS dx = "NoPlan" := by unfold toldS; rw [hbad dx (List.mem_of_getElem? hdx)]; rfl
        refine ⟨rfl, x, rfl, x, dx, rfl, Rp.sm (Hw.sub _ _) hRx, tb12, fun H13 x13 tb13 => ?_⟩
        rw [eB]
        exact ⟨rfl, _, rfl, ite2 (fun y => absurd y (by simp)) (fun _ => ⟨x12.trans x13, x13.lst e12, tb13⟩)⟩
      · refine ⟨Nat.zero_le _, fun e1 ne1 => ⟨E1, e1, [], rfl, rfl, same_upd ne1 _ _ e12, upd_same, _, rfl, ite2 (fun y => absurd y (by decide)) (fun _ => ?_)⟩⟩
        have S12 := (S11.ex x12).same (same_upd (o := .lst []) ne1)
        have tb13 := tb12.same (same_upd (o := .lst []) ne1)
        refine ⟨.ref g, rfl, .ref g, .list SD, g, rfl, rfl, Rp.sm (Hw.sub _ _) (S12.ok _ gmem), hBB, .str shn, rfl, rfl, _, rfl, ite2 (fun y => absurd y (by rw [hshn]; simp)) (fun _ => ?_)⟩
        exact ⟨_, _, _, _, _, _, rfl, ⟨S12.re.to, S12.wk, fun p hp => nomatch hp⟩, tb13⟩
  · obtain ⟨y2, y3, y4, y5, y6, y7, rfl, S3, tb3⟩ := hP
    generalize ((2 : Int) + (if ((ns.map V.int).length : Int) < 6 then ((ns.map V.int).length : Int) else 6)).toNat = nn at S3 hn8
    dsimp only []
    show tSeq _ _ _ [some (.ref a), some (.ref r.a), y2, y3, y4, y5, y6, y7, none, none, none, none, none] H3
    refine ev_set (c := 0) (i := 8) (P := (· = .list goodD)) ((evx_lst (evl_cons0 (evx_lst (evl_cons0 (evx_tup (evl_cons0 (evx_lst (evl_cons0 (xi (0)) evl_nil) (by show 1 ≤ 1000; decide)) (evl_cons0 ((evi_mul0 (ev_int (i := 5)) (evi_pow (x := 10) (y := 29) ⟨by decide, by decide, by decide⟩) (.inl ⟨by decide, by decide⟩)).ev fun j e => by rw [e] <;> exact congrArg PyData.int (by decide +kernel)) evl_nil)) (by show 2 ≤ 1000; decide)) (evl_cons0 (evx_tup (evl_cons0 (evx_lst (evl_cons0 (xi (1)) evl_nil) (by show 1 ≤ 1000; decide)) (evl_cons0 ((evi_mul0 (ev_int (i := 5)) (evi_pow (x := 10) (y := 29) ⟨by decide, by decide, by decide⟩) (.inl ⟨by decide, by decide⟩)).ev fun j e => by rw [e] <;> exact congrArg PyData.int (by decide +kernel)) evl_nil)) (by show 2 ≤ 1000; decide)) evl_nil)) (by show 2 ≤ 1000; decide)) (evl_cons0 (evx_lst (evl_cons0 (evx_tup (evl_cons0 (evx_rep (k := 8) (evx_lst (evl_cons0 xn evl_nil) (by show 1 ≤ 1000; decide)) (by decide) (by decide)) (evl_cons0 xn evl_nil)) (by show 2 ≤ 1000; decide)) evl_nil) (by show 1 ≤ 1000; decide)) (evl_cons0 (evx_lst (evl_cons0 (evx_tup (evl_cons0 (evx_lst (evl_cons0 ((evi_pow (x := 10) (y := 30) ⟨by decide, by decide, by decide⟩).ev fun j e => by rw [e] <;> exact congrArg PyData.int (by decide +kernel)) evl_nil) (by show 1 ≤ 1000; decide)) (evl_cons0 ((evi_pow (x := 10) (y := 30) ⟨by decide, by decide, by decide⟩).ev fun j e => by rw [e] <;> exact congrArg PyData.int (by decide +kernel)) evl_nil)) (by show 2 ≤ 1000; decide)) (evl_cons0 (evx_tup (evl_cons0 (evx_lst (evl_cons0 (xi (0)) evl_nil) (by show 1 ≤ 1000; decide)) (evl_cons0 xn evl_nil)) (by show 2 ≤ 1000; decide)) evl_nil)) (by show 2 ≤ 1000; decide)) evl_nil))) (by show 3 ≤ 1000; decide)) : Ev 0 r _ _ _ _ (· = .list goodD)) (by omega) S3 fun v8 d8 H4 S4 m4 h4 => ?_
    subst h4
    have tb4 := tb3.mv S3.re m4
    dsimp only []
    show tRet _ _ [some (.ref a), some (.ref r.a), y2, y3, y4, y5, y6, y7, some v8, none, none, none, none] H4
    refine (evx_cat0 (ev_var (i := 8) rfl List.mem_cons_self rfl) (evx_lst (evl_cons0 (evx_tup (evl_cons0 (evx_tup (evl_cons0 (evx_lst (evl_cons0 (xi (0)) evl_nil) (by show 1 ≤ 1000; decide)) (evl_cons0 (xi (0)) evl_nil)) (by show 2 ≤ 1000; decide)) evl_nil) (by show 1 ≤ 1000; decide)) evl_nil) (by show 1 ≤ 1000; decide)) (by show 3 ≤ 1000; decide) (by show 1 ≤ 1000; decide) : Ev 0 r (fun b => b = r.a) [(v8, PyData.list goodD)] [some (.ref a), some (.ref r.a), y2, y3, y4, y5, y6, y7, some v8, none, none, none, none] _ (· = .list good4D)) _ H4 _ (by omega) S4 fun vg dg H5 b5 m5 rp5 h5 => ?_
    subst h5
    have tb5 := tb4.mv S4.re m5
    obtain ⟨g, gs, rfl, hg, hgs⟩ := rp_list rp5
    have hg' := Hw.sub _ _ _ _ hg
    have lgs : gs.length = 4 := hgs.length
    refine ⟨g, rfl, ⟨_, SqL.of hg'⟩, fun E1 nE => ?_⟩
    refine lc_list (K := K) (a := g) (xs := gs) (fun k H6 => Ex H5 H6 ∧ H6 E1 = some (.lst (wsV k "told")) ∧ Tb P1 P2 H6) ⟨Ex.new nE, upd_same, tb5.same (same_upd nE)⟩ (fun k H6 _ ⟨x6, _⟩ => SqL.of (x6.lst hg')) (fun k x H6 hxk ⟨x6, e6, tb6⟩ => ?_) (fun H6 ⟨x6, e6, tb6⟩ => ?_)
    · have hk4 : k < 4 := by have := (List.getElem?_eq_some_iff.mp hxk).1; omega
      obtain ⟨dx, hdx, hRx⟩ := hgs.get hxk
      have eB : toldS dx = "told" := by unfold toldS; rw [good4_told dx (List.mem_of_getElem? hdx)]; rfl
      refine ⟨rfl, yesT ⟨x, rfl, x, dx, rfl, Rp.ex x6 _ _ (Rp.sm (Hw.sub _ _) hRx), tb6, fun H7 x7 tb7 => ?_⟩⟩
      rw [eB]
      have e7 := x7.lst e6
      refine ⟨_, e7, small1000 (by show (List.replicate k _).length ≤ 1000; rw [List.length_replicate]; omega), ex_updN (x6.trans x7) nE, ?_, tb7.upd fun ps z => by rw [e7] at z; cases z⟩
      rw [upd_same]
      show some (HO.lst (List.replicate k _ ++ [_])) = some (HO.lst (List.replicate (k + 1) _))
      rw [List.replicate_succ']
    · rw [lgs] at e6
      refine ⟨small_le (by show 1 ≤ 1000; decide), fun p1 n1 => ⟨p1, 4, _, rfl, rfl, upd_same, by decide, by decide, by show 1 * 4 ≤ sizeLine; exact small_le (by decide), fun p2 n2 => ?_⟩⟩
      have s7 := (same_upd (o := HO.lst [V.str "told"]) n1).trans (same_upd (o := HO.lst ((List.replicate (Int.toNat 4) [V.str "told"]).flatten)) n2)
      have l7 := s7 _ _ e6
      have e7 : (upd (upd H6 p1 (.lst [.str "told"])) p2 (.lst ((List.replicate (Int.toNat 4) [V.str "told"]).flatten))) p2 = some (.lst (wsV 4 "told")) := upd_same
      refine ⟨wsD 4 "told", wsD 4 "told", .lst (SqL.of l7) (ws_dp _ 4), .lst (SqL.of e7) (ws_dp _ 4), by decide +kernel, by decide +kernel, ?_⟩
      rw [eqv_wsD]
      exact q _
end
end CL
set_option Elab.async false
set_option linter.all false
set_option maxRecDepth 100000
set_option maxHeartbeats 4000000
namespace CL
open PySem PySem.Spec PyProof.Rows L2 GE
/-! ### the end: what is tracked when the law is called, and that the run leaves the heap as it was but for the tables -/
def H0 (ts : List Addr) (K : PySem.W.Frag) (a : Addr) (vs : List Value) (ns : List Int) : Hp := fun b =>
  if b ∈ ts then some (.tbl #[]) else if b = a ∧ (K.lookup a).isNone = true then some (.frz { cls := .type "list", data := .seq vs.toArray } (.lst (ns.map V.int))) else none
section
variable {ts : List Addr} {K : PySem.W.Frag} {a : Addr} {vs : List Value} {ns : List Int} {h : Heap}
theorem H0.tab {b : Addr} (m : b ∈ ts) : H0 ts K a vs ns b = some (.tbl #[]) := if_pos m
theorem H0.cases {b : Addr} {u : HO} (e : H0 ts K a vs ns b = some u) : (b ∈ ts ∧ u = .tbl #[]) ∨ (b = a ∧ K.lookup a = none ∧ u = .frz { cls := .type "list", data := .seq vs.toArray } (.lst (ns.map V.int))) := by
  unfold H0 at e
  split at e
  · rename_i m
    exact .inl ⟨m, (Option.some.inj e).symm⟩
  · split at e
    · rename_i z
      exact .inr ⟨z.1, Option.isNone_iff_eq_none.mp z.2, (Option.some.inj e).symm⟩
    · cases e
/-- an object that is no list and no empty table is not tracked -/
theorem H0.other (hT : ∀ b ∈ ts, h.get? b = some { cls := .none, data := .fields #[] }) (ha : h.get? a = some { cls := .type "list", data := .seq vs.toArray }) {b : Addr} {o : Obj} (e : h.get? b = some o) (h1 : o.data ≠ .seq vs.toArray) (h2 : o.data ≠ .fields #[]) :
    H0 ts K a vs ns b = none := by
  cases q : H0 ts K a vs ns b with
  | none => rfl
  | some u =>
    rcases H0.cases q with ⟨m, _⟩ | ⟨rfl, _, _⟩
    · rw [hT b m] at e
      cases e
      exact absurd rfl h2
    · rw [ha] at e
      cases e
      exact absurd rfl h1
end
theorem end_own {P : Program} {w : World} {K : PySem.W.Frag} {mg mb : Str → Option Value} {q : Program} {loose : List Str} {mean : ExcName → Option Value} {k : Nat} {fa a : Addr} {fd : FuncData} {x : Str} {sp : Sp} {s₁ : Shared} {vs : List Value} {ns : List Int} (ts : List Addr)
    (KX : K.In s₁.heap) (T : Top q loose mean mg mb s₁.heap) (hi0 : importsNone q = true) (hg : s₁.gens = #[])
    (hT : ∀ b ∈ ts, s₁.heap.get? b = some { cls := .none, data := .fields #[] }) (hC : ∀ b ∈ ts, ∃ c, PySem.W.codeHdIn K c b = true) (nT : ∀ b ∈ ts, K.lookup b = none)
    (ha : s₁.heap.get? a = some { cls := .type "list", data := .seq vs.toArray }) (hi : IntsAre vs ns) (hl : ns.length ≤ sizeLine) (hr : Room k callerA)
    (F : ∀ base : Heap, K.In base → base.Ns mainGlobals mg → (∃ o, base.get? sysModules = some o) → (∀ b ∈ ts, base.BuiltinsAt mg b ∧ mainGlobals ≠ b) → FnG P w K mg base k fa fd [x] sp)
    (hbind : ∀ (s : Shared) (u : Value), BindsTo s fd ⟨[u], []⟩ [(x, u)])
    (hsp : ∀ H : Hp, (∀ b ∈ ts, H b = some (.tbl #[])) → SqL K H a (ns.map V.int) → sp [.ref a] H (fun v _ => v = .bl true) fun _ _ _ => False) :
    codeAny (model P w) callerA (.call (.ref fa) ⟨[.ref a], []⟩) (fun r s' => r = .ok (.ret (.bool true)) ∧ OldK s₁.heap s'.heap ∧ s'.os = s₁.os ∧ AllBare s'.gens) s₁ := by
  have rv := vals_ints hi
  have aT : a ∉ ts := fun m => by
    have z := hT a m
    rw [ha] at z
    cases z
  generalize hH : H0 ts K a vs ns = H
  have tabs : ∀ b ∈ ts, H b = some (.tbl #[]) := fun b m => by rw [← hH]; exact H0.tab m
  have cs : ∀ {b : Addr} {u : HO}, H b = some u → (b ∈ ts ∧ u = .tbl #[]) ∨ (b = a ∧ K.lookup a = none ∧ u = .frz { cls := .type "list", data := .seq vs.toArray } (.lst (ns.map V.int))) := fun e => by
    rw [← hH] at e
    exact H0.cases e
  have oth : ∀ {b : Addr} {o : Obj}, s₁.heap.get? b = some o → o.data ≠ .seq vs.toArray → o.data ≠ .fields #[] → H b = none := fun e h1 h2 => by
    rw [← hH]
    exact H0.other hT ha e h1 h2
  have inB : ∀ {b : Addr} {o : Obj}, s₁.heap.get? b = some o → H b = none → (hidT s₁.heap H).get? b = some o := fun e n => hidT_get e n
  have nsB : ∀ {b : Addr} {m : Str → Option Value}, s₁.heap.Ns b m → (hidT s₁.heap H).Ns b m := fun ⟨o, es, ep, e, d, r⟩ => ⟨o, es, ep, inB e (oth e (by rw [d]; exact nofun) (by rw [d]; exact nofun)), d, r⟩
  have hok : HOk P w H s₁.heap := fun b u e => by
    rcases cs e with ⟨m, rfl⟩ | ⟨rfl, _, rfl⟩
    · exact hT b m
    · exact ⟨ha, by rw [List.length_map]; exact hl, vs, _, rv, ha⟩
  have hS : SqL K H a (ns.map V.int) := by
    cases hk : K.lookup a with
    | some o =>
      have e := KX a o hk
      rw [ha] at e
      cases e
      exact .inr ⟨_, vs.toArray, _, hk, rfl, rfl, rfl, by rw [List.size_toArray, hi.length]; exact hl, by simpa using rv⟩
    | none =>
      have e : H a = some (.frz { cls := .type "list", data := .seq vs.toArray } (.lst (ns.map V.int))) := by
        rw [← hH]
        unfold H0
        rw [if_neg aT, if_pos ⟨rfl, by rw [hk]; rfl⟩]
      exact .inl (.inr ⟨_, e⟩)
  have KB : K.In (hidT s₁.heap H) := fun b o e => inB (KX b o e) (by
    cases z : H b with
    | none => rfl
    | some u =>
      rcases cs z with ⟨m, _⟩ | ⟨rfl, n, _⟩
      · rw [nT b m] at e; cases e
      · rw [n] at e; cases e)
  have hM : L2.Mod K mg (hidT s₁.heap H) := ⟨KB, nsB T.g, ⟨mb, nsB T.b, T.builtins⟩, let ⟨mc, h1, h2⟩ := T.nolimit; ⟨mc, nsB h1, h2⟩⟩
  have sysB : ∃ o, (hidT s₁.heap H).get? sysModules = some o := by
    obtain ⟨mm, ⟨o, es, ep, e, d, _⟩, _⟩ := (T.seer hi0).mods
    exact ⟨o, inB e (oth e (by rw [d]; exact nofun) (by rw [d]; exact nofun))⟩
  have gB : ∀ b ∈ ts, mainGlobals ≠ b := fun b m z => by
    obtain ⟨o, es, ep, e, d, _⟩ := T.g
    rw [z, hT b m] at e
    cases e
    cases d
  have bB : ∀ b ∈ ts, (hidT s₁.heap H).BuiltinsAt mg b := fun b m => by
    obtain ⟨bm, ob, b1, b2, b3, b4, b5, b6⟩ := T.bmain
    refine ⟨bm, ob, b1, b2, fun z => ?_, fun z => ?_, inB b3 (oth b3 (by rw [b6]; exact nofun) (by rw [b6]; exact nofun)), b4, b5, b6⟩
    · obtain ⟨o, es, ep, e, d, _⟩ := T.g
      rw [z, e] at b3
      cases b3
      rw [d] at b6
      cases b6
    · rw [z, hT b m] at b3
      cases b3
      cases b6
  have e0 : Env0 P w K mg (hidT s₁.heap H) callerA [] s₁ H := ⟨rfl, hM, fun b o e => of_hidT e, Nat.le_of_eq (hidT_size _ _), trivial, fun b hb => absurd (show b ∈ ([] : List Addr) from hb) (by simp), hok, .of_eq hg⟩
  have G := F _ KB (nsB T.g) sysB fun b m => ⟨bB b m, gB b m⟩
  refine codeAny_mono (G.run callerA [] s₁ H ⟨[.ref a], []⟩ [.ref a] [.ref a] _ _ rfl hr e0 (hbind s₁ (.ref a)) (.cons rfl .nil) (hsp H tabs hS)) fun r s' z => ?_
  cases r with
  | error e => exact False.elim z
  | ok fl =>
    cases fl with
    | next => exact False.elim z
    | brk => exact False.elim z
    | cont => exact False.elim z
    | ret u =>
      obtain ⟨v, H', os, bare, un, hok', r', e'⟩ := z
      obtain rfl : v = .bl true := e'
      obtain rfl : u = Value.bool true := r'
      have stays : ∀ b o, b ∉ ts → s₁.heap.get? b = some o → s'.heap.get? b = some o := fun b o nb e => by
        cases z : H b with
        | none => exact un.keep b o e z (fun y => absurd (show b ∈ ([] : List Addr) from y) (by simp)) (by simp)
        | some u =>
          rcases cs z with ⟨m, _⟩ | ⟨rfl, _, rfl⟩
          · exact absurd m nb
          · rw [ha] at e
            cases e
            exact (hok' _ _ (un.frzs _ _ _ z)).1
      have grow : ∀ b ∈ ts, ∃ more : Array Value, s'.heap.get? b = some { cls := .none, data := .fields more } := fun b m => by
        obtain ⟨more, e⟩ := un.tbls b #[] (tabs b m)
        exact ⟨_, hok' b _ e⟩
      refine ⟨rfl, ⟨fun b o e => ?_, fun b o e => ?_⟩, os, bare⟩
      · by_cases m : b ∈ ts
        · obtain ⟨c, hc⟩ := hC b m
          obtain ⟨more, hm⟩ := grow b m
          rw [hT b m] at e
          cases e
          exact .inr (.inl ⟨((PySem.W.codeHd_of_K KX hc).tab (hT b m)).isCodeTable, rfl, #[], more, rfl, by rw [Array.empty_append]; exact hm⟩)
        · exact .inl (stays b o m e)
      · by_cases m : b ∈ ts
        · obtain ⟨more, hm⟩ := grow b m
          exact ⟨_, hm⟩
        · exact ⟨o, stays b o m e⟩
end CL
set_option Elab.async false
set_option pp.maxSteps 300
set_option linter.all false
set_option maxRecDepth 100000
set_option maxHeartbeats 4000000
namespace CL
open PySem PySem.Spec PyProof.Rows L2 GE
theorem fnE {P : Program} {w : World} {K : PySem.W.Frag} {mg : Str → Option Value} {base : Heap} {k : Nat} {f : Addr} {fd : FuncData} {ps : List Str} {sp : Bg → Sp} (F : ∀ r, FnOk P w K mg base CX0 k f fd ps (sp r)) : FnOk P w K mg base CX0 k f fd ps (spE sp) :=
  ⟨fun vs H Q E ⟨r, h⟩ => (F r).len vs H Q E h, fun A outer s H args us vs Q E hr e0 hb rv ⟨r, h⟩ => (F r).run A outer s H args us vs Q E hr e0 hb rv h⟩
/-- the table of a def of the program is empty when the law is called -/
theorem tab_of {q : Program} {loose : List Str} {mean : ExcName → Option Value} {mg mb : Str → Option Value} {h : Heap} {K : PySem.W.Frag} {n : Str} {f c P : Addr} {o : Obj} {fd : FuncData} (T : Top q loose mean mg mb h) (KX : K.In h) (hr : ((recsOf q).any fun e => e.name == n) = true)
    (hm : mg n = some (.ref f)) (k1 : K.lookup f = some o) (k2 : o.data = .func fd) (k3 : fd.code = .ref c) (hh : PySem.W.codeHdIn K c P = true) : h.get? P = some { cls := .none, data := .fields #[] } := by
  obtain ⟨d, hd, e⟩ := List.any_eq_true.mp hr
  have e' : d.name = n := beq_iff_eq.mp e
  obtain ⟨a', o', fd', c', P', t1, t2, t3, t4, t5, t6⟩ := T.tab d hd
  rw [e', hm] at t1
  cases t1
  rw [KX _ _ k1] at t2
  cases t2
  rw [k2] at t3
  cases t3
  rw [k3] at t4
  cases t4
  obtain ⟨⟨oc, vc, g1, _, g3, g4⟩, g5⟩ := t6
  obtain ⟨oh, uh, _, _, _, _, _, _, _, i1, _, i2, i3, _⟩ := PySem.W.codeHd_of_K KX hh
  rw [g1] at i1
  cases i1
  rw [g3] at i2
  cases i2
  rw [g4] at i3
  cases i3
  exact g5
/-- what the head must know of the law's def -/
def AtLaw (l : PySem.W.OpenLaw) (w : World) (K : PySem.W.Frag) (mg : Str → Option Value) (fa : Addr) (h : Heap) : Prop :=
  ∃ (fd : FuncData) (Q1 Q2 : Addr), (∀ b ∈ ([Q1, Q2] : List Addr), h.get? b = some { cls := .none, data := .fields #[] }) ∧ (∀ b ∈ ([Q1, Q2] : List Addr), ∃ c, PySem.W.codeHdIn K c b = true) ∧ (∀ b ∈ ([Q1, Q2] : List Addr), K.lookup b = none) ∧ (∀ (s : Shared) (u : Value), BindsTo s fd ⟨[u], []⟩ [("script", u)]) ∧
    ∀ base : Heap, K.In base → base.Ns mainGlobals mg → (∃ o, base.get? sysModules = some o) → (∀ b ∈ ([Q1, Q2] : List Addr), base.BuiltinsAt mg b ∧ mainGlobals ≠ b) → FnG l.prog w K mg base 11 fa fd ["script"] (spLaw K Q1 Q2)
theorem walk {l : PySem.W.OpenLaw} {q : Program} {loose : List Str} {XP : (Str → Option Value) → Heap → Prop} {YP : World → Heap → Prop} {d : DefRec} {K : Params → PySem.W.Frag} (hn : l.most = some 63) (hdf : d.params.defaults = []) (hi0 : importsNone q = true)
    (hY : ∀ (w : World) (h : Heap), YP w h → (K w.params).In h)
    (F : ∀ (w : World) (mg mb : Str → Option Value) (mean : ExcName → Option Value) (lo : List Str) (fa : Addr) (h : Heap), (K w.params).In h → Top q lo mean mg mb h → mg d.name = some (.ref fa) → AtLaw l w (K w.params) mg fa h) :
    PySem.W.WalkO q loose XP YP l.row.toRowW d [] (fun f vs => PySem.call f vs) := by
  refine Att.attach_callB hn hdf fun w s₀ s₁ mg mb fa o pm cd doc a vs ns G Y ho hd hcd hmg hobj hints hlen _ hg => ?_
  obtain ⟨fd, Q1, Q2, h1, h2, h3, h4, h5⟩ := F w mg mb _ _ fa s₁.heap (hY w _ Y) G.T hmg
  exact end_own [Q1, Q2] (hY w _ Y) G.T hi0 hg h1 h2 h3 hobj hints (Nat.le_trans hlen (by decide)) ⟨rfl, by decide, by decide⟩ h5 h4 fun H t hS => ⟨a, ns, rfl, hS, hlen, ⟨#[], t Q1 (by simp), trivial⟩, ⟨#[], t Q2 (by simp), trivial⟩, fun _ => rfl⟩
theorem all_mk {l : PySem.W.OpenLaw} {w : World} {K : PySem.W.Frag} {q : Program} {lo : List Str} {mean : ExcName → Option Value} {h : Heap} {mg mb : Str → Option Value} {fa fW fR fA fT fI fL fCK fFI fFO fPC fSH fBG fSR fDR fPA fPN fCL fTO fNO fZ cT cL PT PL  X0 XE Y_NoPerson Y_NoMoment Y_TooMany Y_NoOther Y_NoPlace Y_NoEnd Y_NoOrder Y_NoNumber Y_NoPatience Y_Nobody Y_Nothing Y_NoHistory Y_NoText Y_NoForm Y_NoneYet : Addr} (X : K.In h) (G : Top q lo mean mg mb h) (hfa : mg "law" = some (.ref fa))
    {odW anW : Option Addr} {slW : Array (Option Value)} {ocW kVW dcW pmW cdW ctW : Value}
    {odR anR : Option Addr} {slR : Array (Option Value)} {ocR kVR dcR pmR cdR ctR : Value}
    {odA anA : Option Addr} {slA : Array (Option Value)} {ocA kVA dcA pmA cdA ctA : Value}
    {odT anT : Option Addr} {slT : Array (Option Value)} {ocT kVT dcT pmT ctT : Value}
    {odI anI : Option Addr} {slI : Array (Option Value)} {ocI kVI dcI pmI cdI ctI : Value}
    {odL anL : Option Addr} {slL : Array (Option Value)} {ocL kVL dcL pmL ctL : Value}
    {odCK anCK : Option Addr} {slCK : Array (Option Value)} {ocCK kVCK dcCK pmCK cdCK ctCK : Value}
    {odFI anFI : Option Addr} {slFI : Array (Option Value)} {ocFI kVFI dcFI pmFI cdFI ctFI : Value}
    {odFO anFO : Option Addr} {slFO : Array (Option Value)} {ocFO kVFO dcFO pmFO cdFO ctFO : Value}
    {odPC anPC : Option Addr} {slPC : Array (Option Value)} {ocPC kVPC dcPC pmPC cdPC ctPC : Value}
    {odSH anSH : Option Addr} {slSH : Array (Option Value)} {ocSH kVSH dcSH pmSH cdSH ctSH : Value}
    {odBG anBG : Option Addr} {slBG : Array (Option Value)} {ocBG kVBG dcBG pmBG cdBG ctBG : Value}
    {odSR anSR : Option Addr} {slSR : Array (Option Value)} {ocSR kVSR dcSR pmSR cdSR ctSR : Value}
    {odDR anDR : Option Addr} {slDR : Array (Option Value)} {ocDR kVDR dcDR pmDR cdDR ctDR : Value}
    {odPA anPA : Option Addr} {slPA : Array (Option Value)} {ocPA kVPA dcPA pmPA cdPA ctPA : Value}
    {odPN anPN : Option Addr} {slPN : Array (Option Value)} {ocPN kVPN dcPN pmPN cdPN ctPN : Value}
    {odCL anCL : Option Addr} {slCL : Array (Option Value)} {ocCL kVCL dcCL pmCL cdCL ctCL : Value}
    {odTO anTO : Option Addr} {slTO : Array (Option Value)} {ocTO kVTO dcTO pmTO cdTO ctTO : Value}
    {odNO anNO : Option Addr} {slNO : Array (Option Value)} {ocNO kVNO dcNO pmNO cdNO ctNO : Value}
    {odZ anZ : Option Addr} {slZ : Array (Option Value)} {ocZ kVZ dcZ pmZ cdZ ctZ : Value} {eT : Value} {dT : Option Addr} {usT : Array Value} {wT : Array (Option Value)} {eL : Value} {dL : Option Addr} {usL : Array Value} {wL : Array (Option Value)} {tgM : Tok} {tgLo : Tok} {tgPL : Tok} {tgPW : Tok} {tgNV : Tok} {tgEV : Tok}
    (aW : PySem.W.nsIn K mainGlobals "is_whole" = some (some (.ref fW))) (lW : K.lookup fW = some ⟨ocW, odW, .func (PySem.W.fnOf "is_whole" "is_whole" (defArgs sWhole) (defBody sWhole) (defScope sWhole) .none kVW dcW pmW anW cdW ctW), slW⟩) (Wc : PySem.W.codeIn K cdW "is_whole" = true) (kW : PySem.W.keepIn K (.ref fW) = true)
    (aR : PySem.W.nsIn K mainGlobals "is_row" = some (some (.ref fR))) (lR : K.lookup fR = some ⟨ocR, odR, .func (PySem.W.fnOf "is_row" "is_row" (defArgs sRow) (defBody sRow) (defScope sRow) .none kVR dcR pmR anR cdR ctR), slR⟩) (Rc : PySem.W.codeIn K cdR "is_row" = true) (kR : PySem.W.keepIn K (.ref fR) = true)
    (aA : PySem.W.nsIn K mainGlobals "is_patience" = some (some (.ref fA))) (lA : K.lookup fA = some ⟨ocA, odA, .func (PySem.W.fnOf "is_patience" "is_patience" (defArgs sPat) (defBody sPat) (defScope sPat) .none kVA dcA pmA anA cdA ctA), slA⟩) (Ac : PySem.W.codeIn K cdA "is_patience" = true) (kA : PySem.W.keepIn K (.ref fA) = true)
    (aT : PySem.W.nsIn K mainGlobals "is_turns" = some (some (.ref fT))) (lT : K.lookup fT = some ⟨ocT, odT, .func (PySem.W.fnOf "is_turns" "is_turns" (defArgs sTurns) (defBody sTurns) (defScope sTurns) .none kVT dcT pmT anT (.ref cT) ctT), slT⟩) (Tc : PySem.W.codeIn K (.ref cT) "is_turns" = true) (kT : PySem.W.keepIn K (.ref fT) = true)
    (aI : PySem.W.nsIn K mainGlobals "is_piece" = some (some (.ref fI))) (lI : K.lookup fI = some ⟨ocI, odI, .func (PySem.W.fnOf "is_piece" "is_piece" (defArgs sPiece) (defBody sPiece) (defScope sPiece) .none kVI dcI pmI anI cdI ctI), slI⟩) (Ic : PySem.W.codeIn K cdI "is_piece" = true) (kI : PySem.W.keepIn K (.ref fI) = true)
    (aL : PySem.W.nsIn K mainGlobals "is_plan" = some (some (.ref fL))) (lL : K.lookup fL = some ⟨ocL, odL, .func (PySem.W.fnOf "is_plan" "is_plan" (defArgs sPlan) (defBody sPlan) (defScope sPlan) .none kVL dcL pmL anL (.ref cL) ctL), slL⟩) (Lc : PySem.W.codeIn K (.ref cL) "is_plan" = true) (kL : PySem.W.keepIn K (.ref fL) = true)
    (aCK : PySem.W.nsIn K mainGlobals "check_plan" = some (some (.ref fCK))) (lCK : K.lookup fCK = some ⟨ocCK, odCK, .func (PySem.W.fnOf "check_plan" "check_plan" (defArgs sCheck) (defBody sCheck) (defScope sCheck) .none kVCK dcCK pmCK anCK cdCK ctCK), slCK⟩) (CKc : PySem.W.codeIn K cdCK "check_plan" = true) (kCK : PySem.W.keepIn K (.ref fCK) = true)
    (aFI : PySem.W.nsIn K mainGlobals "figures_of" = some (some (.ref fFI))) (lFI : K.lookup fFI = some ⟨ocFI, odFI, .func (PySem.W.fnOf "figures_of" "figures_of" (defArgs sFig) (defBody sFig) (defScope sFig) .none kVFI dcFI pmFI anFI cdFI ctFI), slFI⟩) (FIc : PySem.W.codeIn K cdFI "figures_of" = true) (kFI : PySem.W.keepIn K (.ref fFI) = true)
    (aFO : PySem.W.nsIn K mainGlobals "figures_or" = some (some (.ref fFO))) (lFO : K.lookup fFO = some ⟨ocFO, odFO, .func (PySem.W.fnOf "figures_or" "figures_or" (defArgs sFor) (defBody sFor) (defScope sFor) .none kVFO dcFO pmFO anFO cdFO ctFO), slFO⟩) (FOc : PySem.W.codeIn K cdFO "figures_or" = true) (kFO : PySem.W.keepIn K (.ref fFO) = true)
    (aPC : PySem.W.nsIn K mainGlobals "show_piece" = some (some (.ref fPC))) (lPC : K.lookup fPC = some ⟨ocPC, odPC, .func (PySem.W.fnOf "show_piece" "show_piece" (defArgs sPc) (defBody sPc) (defScope sPc) .none kVPC dcPC pmPC anPC cdPC ctPC), slPC⟩) (PCc : PySem.W.codeIn K cdPC "show_piece" = true) (kPC : PySem.W.keepIn K (.ref fPC) = true)
    (aSH : PySem.W.nsIn K mainGlobals "show_plan" = some (some (.ref fSH))) (lSH : K.lookup fSH = some ⟨ocSH, odSH, .func (PySem.W.fnOf "show_plan" "show_plan" (defArgs sShow) (defBody sShow) (defScope sShow) .none kVSH dcSH pmSH anSH cdSH ctSH), slSH⟩) (SHc : PySem.W.codeIn K cdSH "show_plan" = true) (kSH : PySem.W.keepIn K (.ref fSH) = true)
    (aBG : PySem.W.nsIn K mainGlobals "_law_bag" = some (some (.ref fBG))) (lBG : K.lookup fBG = some ⟨ocBG, odBG, .func (PySem.W.fnOf "_law_bag" "_law_bag" (defArgs sBag) (defBody sBag) (defScope sBag) .none kVBG dcBG pmBG anBG cdBG ctBG), slBG⟩) (BGc : PySem.W.codeIn K cdBG "_law_bag" = true) (kBG : PySem.W.keepIn K (.ref fBG) = true)
    (aSR : PySem.W.nsIn K mainGlobals "_law_stir" = some (some (.ref fSR))) (lSR : K.lookup fSR = some ⟨ocSR, odSR, .func (PySem.W.fnOf "_law_stir" "_law_stir" (defArgs sStir) (defBody sStir) (defScope sStir) .none kVSR dcSR pmSR anSR cdSR ctSR), slSR⟩) (SRc : PySem.W.codeIn K cdSR "_law_stir" = true) (kSR : PySem.W.keepIn K (.ref fSR) = true)
    (aDR : PySem.W.nsIn K mainGlobals "_law_draw" = some (some (.ref fDR))) (lDR : K.lookup fDR = some ⟨ocDR, odDR, .func (PySem.W.fnOf "_law_draw" "_law_draw" (defArgs sDraw) (defBody sDraw) (defScope sDraw) .none kVDR dcDR pmDR anDR cdDR ctDR), slDR⟩) (DRc : PySem.W.codeIn K cdDR "_law_draw" = true) (kDR : PySem.W.keepIn K (.ref fDR) = true)
    (aPA : PySem.W.nsIn K mainGlobals "_law_patience" = some (some (.ref fPA))) (lPA : K.lookup fPA = some ⟨ocPA, odPA, .func (PySem.W.fnOf "_law_patience" "_law_patience" (defArgs sPatB) (defBody sPatB) (defScope sPatB) .none kVPA dcPA pmPA anPA cdPA ctPA), slPA⟩) (PAc : PySem.W.codeIn K cdPA "_law_patience" = true) (kPA : PySem.W.keepIn K (.ref fPA) = true)
    (aPN : PySem.W.nsIn K mainGlobals "_law_plan" = some (some (.ref fPN))) (lPN : K.lookup fPN = some ⟨ocPN, odPN, .func (PySem.W.fnOf "_law_plan" "_law_plan" (defArgs sPlanB) (defBody sPlanB) (defScope sPlanB) .none kVPN dcPN pmPN anPN cdPN ctPN), slPN⟩) (PNc : PySem.W.codeIn K cdPN "_law_plan" = true) (kPN : PySem.W.keepIn K (.ref fPN) = true)
    (aCL : PySem.W.nsIn K mainGlobals "_law_class" = some (some (.ref fCL))) (lCL : K.lookup fCL = some ⟨ocCL, odCL, .func (PySem.W.fnOf "_law_class" "_law_class" (defArgs sClass) (defBody sClass) (defScope sClass) .none kVCL dcCL pmCL anCL cdCL ctCL), slCL⟩) (CLc : PySem.W.codeIn K cdCL "_law_class" = true) (kCL : PySem.W.keepIn K (.ref fCL) = true)
    (aTO : PySem.W.nsIn K mainGlobals "_law_told" = some (some (.ref fTO))) (lTO : K.lookup fTO = some ⟨ocTO, odTO, .func (PySem.W.fnOf "_law_told" "_law_told" (defArgs sTold) (defBody sTold) (defScope sTold) .none kVTO dcTO pmTO anTO cdTO ctTO), slTO⟩) (TOc : PySem.W.codeIn K cdTO "_law_told" = true) (kTO : PySem.W.keepIn K (.ref fTO) = true)
    (aNO : PySem.W.nsIn K mainGlobals "_law_no_pieces" = some (some (.ref fNO))) (lNO : K.lookup fNO = some ⟨ocNO, odNO, .func (PySem.W.fnOf "_law_no_pieces" "_law_no_pieces" (defArgs sNoP) (defBody sNoP) (defScope sNoP) .none kVNO dcNO pmNO anNO cdNO ctNO), slNO⟩) (NOc : PySem.W.codeIn K cdNO "_law_no_pieces" = true) (kNO : PySem.W.keepIn K (.ref fNO) = true)
    (aZ : PySem.W.nsIn K mainGlobals "law" = some (some (.ref fZ))) (lZ : K.lookup fZ = some ⟨ocZ, odZ, .func (PySem.W.fnOf "law" "law" (defArgs sLaw) (defBody sLaw) (defScope sLaw) .none kVZ dcZ pmZ anZ cdZ ctZ), slZ⟩) (Zc : PySem.W.codeIn K cdZ "law" = true) (kZ : PySem.W.keepIn K (.ref fZ) = true)
    (z_isinstance : PySem.W.nsIn K mainGlobals "isinstance" = some none) (z_len : PySem.W.nsIn K mainGlobals "len" = some none) (z_all : PySem.W.nsIn K mainGlobals "all" = some none) (z_any : PySem.W.nsIn K mainGlobals "any" = some none) (z_sum : PySem.W.nsIn K mainGlobals "sum" = some none) (z_int : PySem.W.nsIn K mainGlobals "int" = some none) (z_bool : PySem.W.nsIn K mainGlobals "bool" = some none) (z_list : PySem.W.nsIn K mainGlobals "list" = some none) (z_tuple : PySem.W.nsIn K mainGlobals "tuple" = some none) (z_str : PySem.W.nsIn K mainGlobals "str" = some none) (z_divmod : PySem.W.nsIn K mainGlobals "divmod" = some none) (z_reversed : PySem.W.nsIn K mainGlobals "reversed" = some none) (z_range : PySem.W.nsIn K mainGlobals "range" = some none) (z_min : PySem.W.nsIn K mainGlobals "min" = some none) (z_repr : PySem.W.nsIn K mainGlobals "repr" = some none) (z_ValueError : PySem.W.nsIn K mainGlobals "ValueError" = some none)
    (mT : K.lookup cT = some ⟨eT, dT, .fields usT, wT⟩) (pT : usT[11]? = some (.ref PT)) (qT : PySem.W.codeHdIn K cT PT = true) (nT : (K.lookup PT).isNone = true) (rT : ((recsOf q).any fun e => e.name == "is_turns") = true)
    (mL : K.lookup cL = some ⟨eL, dL, .fields usL, wL⟩) (pL : usL[11]? = some (.ref PL)) (qL : PySem.W.codeHdIn K cL PL = true) (nL : (K.lookup PL).isNone = true) (rL : ((recsOf q).any fun e => e.name == "is_plan") = true)
    (xg0 : PySem.W.nsIn K mainGlobals "NoPlan" = some (some (.ref X0)))
    (xx0 : PySem.W.excIn K X0 [.type "ValueError", .type "Exception", .type "BaseException", .type "object"] "ValueError.__new__" = true)
    (xk0 : PySem.W.keepIn K (.ref X0) = true)
    (xb0 : PySem.W.subIn K (.ref X0) (.type "BaseException") = some true)
    (xt0 : PySem.W.typeIn K (.ref X0) = some (.type "type"))
    (ea0 : PySem.W.findIn K (.ref X0) "__getattribute__" = some (some (.builtin "BaseException.__getattribute__")))
    (eb0 : PySem.W.findIn K (.ref X0) "__getattr__" = some none)
    (ed0 : PySem.W.hasDictIn K X0 = true)
    (ec0 : PySem.W.findIn K (.ref X0) "__class__" = some (some (.builtin "object.__class__")))
    (em0 : PySem.W.mroIn K X0 (.type "object") = some true)
    (t0_0 : PySem.W.kitOne K (.ref X0) (.ref X0) = some true)
    (u0_0 : PySem.W.kitAny K (.ref X0) [.ref Y_NoPerson, .ref Y_NoMoment, .ref Y_TooMany, .ref Y_NoOther, .ref Y_NoPlace, .ref Y_NoEnd] = some false)
    (u1_0 : PySem.W.kitAny K (.ref X0) [.ref Y_NoOrder, .ref Y_NoNumber, .ref Y_NoPatience, .ref Y_Nobody, .ref Y_Nothing, .ref Y_NoHistory] = some false)
    (u2_0 : PySem.W.kitAny K (.ref X0) [.ref Y_NoText, .ref Y_NoForm, .ref Y_NoneYet] = some false)
    (v70 : PySem.W.kitOne K (.ref X0) (.type "ValueError") = some true)
    (v80 : PySem.W.exmOne K (.ref X0) (.ref XE) = some true)
    (ogNoPerson : PySem.W.nsIn K mainGlobals "NoPerson" = some (some (.ref Y_NoPerson)))
    (ogNoMoment : PySem.W.nsIn K mainGlobals "NoMoment" = some (some (.ref Y_NoMoment)))
    (ogTooMany : PySem.W.nsIn K mainGlobals "TooMany" = some (some (.ref Y_TooMany)))
    (ogNoOther : PySem.W.nsIn K mainGlobals "NoOther" = some (some (.ref Y_NoOther)))
    (ogNoPlace : PySem.W.nsIn K mainGlobals "NoPlace" = some (some (.ref Y_NoPlace)))
    (ogNoEnd : PySem.W.nsIn K mainGlobals "NoEnd" = some (some (.ref Y_NoEnd)))
    (ogNoOrder : PySem.W.nsIn K mainGlobals "NoOrder" = some (some (.ref Y_NoOrder)))
    (ogNoNumber : PySem.W.nsIn K mainGlobals "NoNumber" = some (some (.ref Y_NoNumber)))
    (ogNoPatience : PySem.W.nsIn K mainGlobals "NoPatience" = some (some (.ref Y_NoPatience)))
    (ogNobody : PySem.W.nsIn K mainGlobals "Nobody" = some (some (.ref Y_Nobody)))
    (ogNothing : PySem.W.nsIn K mainGlobals "Nothing" = some (some (.ref Y_Nothing)))
    (ogNoHistory : PySem.W.nsIn K mainGlobals "NoHistory" = some (some (.ref Y_NoHistory)))
    (ogNoText : PySem.W.nsIn K mainGlobals "NoText" = some (some (.ref Y_NoText)))
    (ogNoForm : PySem.W.nsIn K mainGlobals "NoForm" = some (some (.ref Y_NoForm)))
    (ogNoneYet : PySem.W.nsIn K mainGlobals "NoneYet" = some (some (.ref Y_NoneYet)))
    (gE : PySem.W.nsIn K mainGlobals "LineError" = some (some (.ref XE)))
    (hn : PySem.W.specialIn K (.builtin "object.__class__") "__get__" = some (some (.builtin "getset_descriptor.__get__"))) (ht : PySem.W.takesIn K (.builtin "object.__class__") = some true)
    
    (gM : PySem.W.nsIn K mainGlobals "GREATEST" = some (some (.int GREAT tgM))) (gLo : PySem.W.nsIn K mainGlobals "LONGEST" = some (some (.int 8 tgLo))) (gPL : PySem.W.nsIn K mainGlobals "PART_LENGTH" = some (some (.int 50 tgPL))) (gPW : PySem.W.nsIn K mainGlobals "PART_WORTH" = some (some (.int FIFTY tgPW))) (gNV : PySem.W.nsIn K mainGlobals "NEVER" = some (some (.str "never" tgNV))) (gEV : PySem.W.nsIn K mainGlobals "EVER" = some (some (.str "ever" tgEV))) : AtLaw l w K mg fa h := by
  have e := hfa.symm.trans (PySem.W.mg_of X G.g aZ)
  cases e
  have FW := fun_mk (st := sWhole) lW Wc kW
  have FR := fun_mk (st := sRow) lR Rc kR
  have FA := fun_mk (st := sPat) lA Ac kA
  have FT := fun_mk (st := sTurns) lT Tc kT
  have FI := fun_mk (st := sPiece) lI Ic kI
  have FL := fun_mk (st := sPlan) lL Lc kL
  have FCK := fun_mk (st := sCheck) lCK CKc kCK
  have FFI := fun_mk (st := sFig) lFI FIc kFI
  have FFO := fun_mk (st := sFor) lFO FOc kFO
  have FPC := fun_mk (st := sPc) lPC PCc kPC
  have FSH := fun_mk (st := sShow) lSH SHc kSH
  have FBG := fun_mk (st := sBag) lBG BGc kBG
  have FSR := fun_mk (st := sStir) lSR SRc kSR
  have FDR := fun_mk (st := sDraw) lDR DRc kDR
  have FPA := fun_mk (st := sPatB) lPA PAc kPA
  have FPN := fun_mk (st := sPlanB) lPN PNc kPN
  have FCL := fun_mk (st := sClass) lCL CLc kCL
  have FTO := fun_mk (st := sTold) lTO TOc kTO
  have FNO := fun_mk (st := sNoP) lNO NOc kNO
  have FZ := fun_mk (st := sLaw) lZ Zc kZ
  have bW := FW.binds (ps := ["thing"]) fun _ _ _ _ _ _ us hl => match us, hl with | [_], _ => rfl
  have bR := FR.binds (ps := ["thing"]) fun _ _ _ _ _ _ us hl => match us, hl with | [_], _ => rfl
  have bA := FA.binds (ps := ["thing"]) fun _ _ _ _ _ _ us hl => match us, hl with | [_], _ => rfl
  have bT := FT.binds (ps := ["thing"]) fun _ _ _ _ _ _ us hl => match us, hl with | [_], _ => rfl
  have bI := FI.binds (ps := ["thing"]) fun _ _ _ _ _ _ us hl => match us, hl with | [_], _ => rfl
  have bL := FL.binds (ps := ["thing"]) fun _ _ _ _ _ _ us hl => match us, hl with | [_], _ => rfl
  have bCK := FCK.binds (ps := ["thing"]) fun _ _ _ _ _ _ us hl => match us, hl with | [_], _ => rfl
  have bFI := FFI.binds (ps := ["number"]) fun _ _ _ _ _ _ us hl => match us, hl with | [_], _ => rfl
  have bFO := FFO.binds (ps := ["number", "none"]) fun _ _ _ _ _ _ us hl => match us, hl with | [_, _], _ => rfl
  have bPC := FPC.binds (ps := ["turns", "many"]) fun _ _ _ _ _ _ us hl => match us, hl with | [_, _], _ => rfl
  have bSH := FSH.binds (ps := ["plan"]) fun _ _ _ _ _ _ us hl => match us, hl with | [_], _ => rfl
  have bBG := FBG.binds (ps := ["script"]) fun _ _ _ _ _ _ us hl => match us, hl with | [_], _ => rfl
  have bSR := FSR.binds (ps := ["number", "place"]) fun _ _ _ _ _ _ us hl => match us, hl with | [_, _], _ => rfl
  have bDR := FDR.binds (ps := ["bag", "many"]) fun _ _ _ _ _ _ us hl => match us, hl with | [_, _], _ => rfl
  have bPA := FPA.binds (ps := ["bag", "most"]) fun _ _ _ _ _ _ us hl => match us, hl with | [_, _], _ => rfl
  have bPN := FPN.binds (ps := ["bag", "most", "wide"]) fun _ _ _ _ _ _ us hl => match us, hl with | [_, _, _], _ => rfl
  have bCL := FCL.binds (ps := ["caught"]) fun _ _ _ _ _ _ us hl => match us, hl with | [_], _ => rfl
  have bTO := FTO.binds (ps := ["plan"]) fun _ _ _ _ _ _ us hl => match us, hl with | [_], _ => rfl
  have bNO := FNO.binds (ps := []) fun _ _ _ _ _ _ us hl => match us, hl with | [], _ => rfl
  have bZ := FZ.binds (ps := ["script"]) fun _ _ _ _ _ _ us hl => match us, hl with | [_], _ => rfl
  have CT : FunC K "is_turns" "is_turns" sTurns fT _ cT := ⟨⟨ocT, odT, kVT, dcT, pmT, anT, ctT, slT, rfl, lT, Tc⟩, kT⟩
  have CL : FunC K "is_plan" "is_plan" sPlan fL _ cL := ⟨⟨ocL, odL, kVL, dcL, pmL, anL, ctL, slL, rfl, lL, Lc⟩, kL⟩
  have m := fun {n : Str} (e : PySem.W.nsIn K mainGlobals n = some none) => PySem.W.mg_none_of X G.g e
  have g := fun {n : Str} {v : Value} (e : PySem.W.nsIn K mainGlobals n = some (some v)) => PySem.W.mg_of X G.g e
  have T : Nm mg := ⟨m z_isinstance, m z_len, m z_all, m z_any, m z_sum, m z_int, m z_bool, m z_list, m z_tuple, ⟨_, g gM⟩, ⟨_, g gLo⟩⟩
  let GCl : ClsG K mg := ⟨X0, g xg0, Y_NoPerson, g ogNoPerson, Y_NoMoment, g ogNoMoment, Y_TooMany, g ogTooMany, Y_NoOther, g ogNoOther, Y_NoPlace, g ogNoPlace, Y_NoEnd, g ogNoEnd, Y_NoOrder, g ogNoOrder, Y_NoNumber, g ogNoNumber, Y_NoPatience, g ogNoPatience, Y_Nobody, g ogNobody, Y_Nothing, g ogNothing, Y_NoHistory, g ogNoHistory, Y_NoText, g ogNoText, Y_NoForm, g ogNoForm, Y_NoneYet, g ogNoneYet, m z_ValueError⟩
  have XMNoPlan : ExcM K mg "NoPlan" GCl.aNoPlan := ⟨g xg0, xx0, xk0, xb0, xt0⟩
  have XWNoPlan : ClsW K mg GCl GCl.aNoPlan "NoPlan" := ⟨true, ⟨⟨ea0, eb0, xb0, ed0, ec0, hn, ht, em0⟩, v70, u0_0, u1_0, u2_0, t0_0⟩, by decide +kernel⟩
  have RF : Refs K mg GCl XE := ⟨g gE, XMNoPlan, v80, XWNoPlan⟩
  have N4 : Nm4 mg := ⟨m z_str, m z_divmod, m z_reversed, ⟨_, g gPL⟩, ⟨_, g gPW⟩, ⟨_, g gNV⟩, ⟨_, g gEV⟩⟩
  have N5 : Nm5 mg := ⟨m z_range, m z_min, m z_repr⟩
  refine ⟨PySem.W.fnOf "law" "law" (defArgs sLaw) (defBody sLaw) (defScope sLaw) .none kVZ dcZ pmZ anZ cdZ ctZ, PT, PL, fun b hb => ?_, fun b hb => ?_, fun b hb => ?_, fun s v => .of_eq rfl, fun base _ _ hsys hB => ?_⟩
  · simp only [List.mem_cons, List.not_mem_nil, or_false] at hb
    rcases hb with rfl | rfl
    · exact tab_of G X rT (PySem.W.mg_of X G.g aT) lT rfl rfl qT
    · exact tab_of G X rL (PySem.W.mg_of X G.g aL) lL rfl rfl qL
  · simp only [List.mem_cons, List.not_mem_nil, or_false] at hb
    rcases hb with rfl | rfl
    · exact ⟨_, qT⟩
    · exact ⟨_, qL⟩
  · simp only [List.mem_cons, List.not_mem_nil, or_false] at hb
    rcases hb with rfl | rfl
    · exact Option.isNone_iff_eq_none.mp nT
    · exact Option.isNone_iff_eq_none.mp nL
  · have XB : K.In base := ‹K.In base›
    have TBT : GxR.TabB base mg cT PT := ⟨PySem.W.codeHd_of_K XB qT, (hB PT (by simp)).1, (hB PT (by simp)).2⟩
    have TBL : GxR.TabB base mg cL PL := ⟨PySem.W.codeHd_of_K XB qL, (hB PL (by simp)).1, (hB PL (by simp)).2⟩
    have KW : Cal l.prog w K mg base 1 "is_whole" ["thing"] (spOne isWhole) := ⟨fW, _, g aW, kW, bW, ok_whole FW T⟩
    have KR : Cal l.prog w K mg base 1 "is_row" ["thing"] (spOne isRow) := ⟨fR, _, g aR, kR, bR, ok_row FR T⟩
    have KA : Cal l.prog w K mg base 2 "is_patience" ["thing"] (spOne isPatience) := ⟨fA, _, g aA, kA, bA, ok_pat FA T KW⟩
    have KT : Cal l.prog w K mg base 4 "is_turns" ["thing"] (spTab PT PL isTurns) := ⟨fT, _, g aT, kT, bT, ok_turns CT T TBT KR KA⟩
    have KI : Cal l.prog w K mg base 5 "is_piece" ["thing"] (spTab PT PL isPiece) := ⟨fI, _, g aI, kI, bI, ok_piece FI T KW KR KT⟩
    have KP : Cal l.prog w K mg base 7 "is_plan" ["thing"] (spTab PT PL isPlan) := ⟨fL, _, g aL, kL, bL, ok_plan CL T TBL KR KI⟩
    have KCK : Cal l.prog w K mg base 8 "check_plan" ["thing"] (spChk PT PL) := ⟨fCK, _, g aCK, kCK, bCK, ok_chk FCK KP⟩
    have KFI : Cal l.prog w K mg base 1 "figures_of" ["number"] (spFig) := ⟨fFI, _, g aFI, kFI, bFI, ok_fig FFI N4⟩
    have KFO : Cal l.prog w K mg base 2 "figures_or" ["number", "none"] (spFor) := ⟨fFO, _, g aFO, kFO, bFO, ok_for FFO KFI⟩
    have KPC : Cal l.prog w K mg base 3 "show_piece" ["turns", "many"] (spPc) := ⟨fPC, _, g aPC, kPC, bPC, ok_pc FPC N4 KFO⟩
    have BCK := bad_chk (P := l.prog) (w := w) (base := base) FCK XMNoPlan KP
    have BSH := FnOk.both (ok_show (P := l.prog) (w := w) (base := base) FSH KCK KPC) (bad_show (P := l.prog) (w := w) (base := base) FSH (g aCK) kCK BCK bCK)
    have KBG : Cal l.prog w K mg base 1 "_law_bag" ["script"] (spBag K) := ⟨fBG, _, g aBG, kBG, bBG, ok_bag FBG T.list⟩
    have KSR : Cal l.prog w K mg base 1 "_law_stir" ["number", "place"] (spStir) := ⟨fSR, _, g aSR, kSR, bSR, ok_stir FSR⟩
    have KDR : ∀ r, Cal l.prog w K mg base 2 "_law_draw" ["bag", "many"] (spDraw r) := fun r => ⟨fDR, _, g aDR, kDR, bDR, ok_draw FDR T.len KSR⟩
    have KDE : Cal l.prog w K mg base 2 "_law_draw" ["bag", "many"] (spE spDraw) := ⟨fDR, _, g aDR, kDR, bDR, fnE fun r => ok_draw FDR T.len KSR⟩
    have KPA : ∀ r, Cal l.prog w K mg base 3 "_law_patience" ["bag", "most"] (spPatB r) := fun r => ⟨fPA, _, g aPA, kPA, bPA, ok_patB FPA (KDR r)⟩
    have KPN : Cal l.prog w K mg base 4 "_law_plan" ["bag", "most", "wide"] (spE spPlanB) := ⟨fPN, _, g aPN, kPN, bPN, fnE fun r => ok_planB FPN N5 (KDR r) (KPA r)⟩
    have KCL : CalP l.prog w K mg base 1 "_law_class" ["caught"] (spClass K mg GCl) := ⟨fCL, _, g aCL, kCL, bCL, ok_class FCL T GCl⟩
    have KTO : Cal l.prog w K mg base 10 "_law_told" ["plan"] (spTold PT PL) := ⟨fTO, _, g aTO, kTO, bTO, ok_told FTO GCl RF KCL (g aSH) kSH BSH bSH⟩
    have KNO : Cal l.prog w K mg base 1 "_law_no_pieces" [] (spE spNoP) := ⟨fNO, _, g aNO, kNO, bNO, fnE fun r => ok_noP FNO⟩
    exact ok_law FZ T N5 hsys KBG KPN KDE (KNO.mono (by decide)) KTO
end CL
open PySem PySem.W PyProof.Rows
set_option maxRecDepth 100000 in
set_option maxHeartbeats 0 in
theorem PySem.Challenge.cw_comersline_k47_what_is_not_written_holds : PySem.Challenge.rw_comersline_k47_what_is_not_written.Holds := by
  w_on; o_law; k_head; (case hw => w_witness2)
  k_fill
  refine CL.walk (l := PySem.Challenge.rw_comersline_k47_what_is_not_written) rfl rfl (by decide +kernel) (fun w h Y => PySem.W.kIn_of Y) ?F
  case F =>
    intro w mg mb mean lo fa h KX G hmg
    refine' CL.all_mk KX G hmg ?aW ?lW ?Wc ?kW ?aR ?lR ?Rc ?kR ?aA ?lA ?Ac ?kA ?aT ?lT ?Tc ?kT ?aI ?lI ?Ic ?kI ?aL ?lL ?Lc ?kL ?aCK ?lCK ?CKc ?kCK ?aFI ?lFI ?FIc ?kFI ?aFO ?lFO ?FOc ?kFO ?aPC ?lPC ?PCc ?kPC ?aSH ?lSH ?SHc ?kSH ?aBG ?lBG ?BGc ?kBG ?aSR ?lSR ?SRc ?kSR ?aDR ?lDR ?DRc ?kDR ?aPA ?lPA ?PAc ?kPA ?aPN ?lPN ?PNc ?kPN ?aCL ?lCL ?CLc ?kCL ?aTO ?lTO ?TOc ?kTO ?aNO ?lNO ?NOc ?kNO ?aZ ?lZ ?Zc ?kZ ?z_isinstance ?z_len ?z_all ?z_any ?z_sum ?z_int ?z_bool ?z_list ?z_tuple ?z_str ?z_divmod ?z_reversed ?z_range ?z_min ?z_repr ?z_ValueError ?mT ?pT ?qT ?nT ?rT ?mL ?pL ?qL ?nL ?rL ?xg0 ?xx0 ?xk0 ?xb0 ?xt0 ?ea0 ?eb0 ?ed0 ?ec0 ?em0 ?t0_0 ?u0_0 ?u1_0 ?u2_0 ?v70 ?v80 ?ogNoPerson ?ogNoMoment ?ogTooMany ?ogNoOther ?ogNoPlace ?ogNoEnd ?ogNoOrder ?ogNoNumber ?ogNoPatience ?ogNobody ?ogNothing ?ogNoHistory ?ogNoText ?ogNoForm ?ogNoneYet ?gE ?hn ?ht ?gM ?gLo ?gPL ?gPW ?gNV ?gEV
    (case xg0 => k_is)
    (case ogNoPerson => k_is)
    (case ogNoMoment => k_is)
    (case ogTooMany => k_is)
    (case ogNoOther => k_is)
    (case ogNoPlace => k_is)
    (case ogNoEnd => k_is)
    (case ogNoOrder => k_is)
    (case ogNoNumber => k_is)
    (case ogNoPatience => k_is)
    (case ogNobody => k_is)
    (case ogNothing => k_is)
    (case ogNoHistory => k_is)
    (case ogNoText => k_is)
    (case ogNoForm => k_is)
    (case ogNoneYet => k_is)
    (case gE => k_is)
    (case aW => k_is)
    (case lW => k_is)
    (case Wc => k_is)
    (case kW => k_is)
    (case aR => k_is)
    (case lR => k_is)
    (case Rc => k_is)
    (case kR => k_is)
    (case aA => k_is)
    (case lA => k_is)
    (case Ac => k_is)
    (case kA => k_is)
    (case aT => k_is)
    (case lT => k_is)
    (case Tc => k_is)
    (case kT => k_is)
    (case aI => k_is)
    (case lI => k_is)
    (case Ic => k_is)
    (case kI => k_is)
    (case aL => k_is)
    (case lL => k_is)
    (case Lc => k_is)
    (case kL => k_is)
    (case aCK => k_is)
    (case lCK => k_is)
    (case CKc => k_is)
    (case kCK => k_is)
    (case aFI => k_is)
    (case lFI => k_is)
    (case FIc => k_is)
    (case kFI => k_is)
    (case aFO => k_is)
    (case lFO => k_is)
    (case FOc => k_is)
    (case kFO => k_is)
    (case aPC => k_is)
    (case lPC => k_is)
    (case PCc => k_is)
    (case kPC => k_is)
    (case aSH => k_is)
    (case lSH => k_is)
    (case SHc => k_is)
    (case kSH => k_is)
    (case aBG => k_is)
    (case lBG => k_is)
    (case BGc => k_is)
    (case kBG => k_is)
    (case aSR => k_is)
    (case lSR => k_is)
    (case SRc => k_is)
    (case kSR => k_is)
    (case aDR => k_is)
    (case lDR => k_is)
    (case DRc => k_is)
    (case kDR => k_is)
    (case aPA => k_is)
    (case lPA => k_is)
    (case PAc => k_is)
    (case kPA => k_is)
    (case aPN => k_is)
    (case lPN => k_is)
    (case PNc => k_is)
    (case kPN => k_is)
    (case aCL => k_is)
    (case lCL => k_is)
    (case CLc => k_is)
    (case kCL => k_is)
    (case aTO => k_is)
    (case lTO => k_is)
    (case TOc => k_is)
    (case kTO => k_is)
    (case aNO => k_is)
    (case lNO => k_is)
    (case NOc => k_is)
    (case kNO => k_is)
    (case aZ => k_is)
    (case lZ => k_is)
    (case Zc => k_is)
    (case kZ => k_is)
    (case z_isinstance => k_is)
    (case z_len => k_is)
    (case z_all => k_is)
    (case z_any => k_is)
    (case z_sum => k_is)
    (case z_int => k_is)
    (case z_bool => k_is)
    (case z_list => k_is)
    (case z_tuple => k_is)
    (case z_str => k_is)
    (case z_divmod => k_is)
    (case z_reversed => k_is)
    (case z_range => k_is)
    (case z_min => k_is)
    (case z_repr => k_is)
    (case z_ValueError => k_is)
    (case mT => k_is)
    (case pT => rfl)
    (case qT => kernel_rfl)
    (case nT => kernel_rfl)
    (case rT => kernel_rfl)
    (case mL => k_is)
    (case pL => rfl)
    (case qL => kernel_rfl)
    (case nL => kernel_rfl)
    (case rL => kernel_rfl)
    (case xx0 => k_exc)
    (case xk0 => k_is)
    (case xb0 => k_is)
    (case xt0 => k_is)
    (case ea0 => k_is)
    (case eb0 => k_is)
    (case ed0 => k_is)
    (case ec0 => k_is)
    (case em0 => k_is)
    (case t0_0 => first | rfl | kernel_rfl)
    (case u0_0 => kernel_rfl)
    (case u1_0 => kernel_rfl)
    (case u2_0 => kernel_rfl)
    (case v70 => kernel_rfl)
    (case v80 => kernel_rfl)
    (case hn => k_is)
    (case ht => k_is)
    (case gM => k_is)
    (case gLo => k_is)
    (case gPL => k_is)
    (case gPW => k_is)
    (case gNV => k_is)
    (case gEV => k_is)
