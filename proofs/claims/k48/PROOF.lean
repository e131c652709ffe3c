import PyProof.Rows.All
import Wide.All
import OpenK.AllK
import Wide.FinOn
import HandS.ForMost
import HandS.ForExc
import HandS.AnyAll
import HandS.GenBody
import HandS.IsInst
import HandS.TupAny
import HandS.Wide
import HandS.Codes
import HandS.Rev
import HandS.RevTup
import HandS.MapJoin
import HandS.Star
import HandS.StrMore
import HandS.Text
import HandS.WideBits
import HandS.ExcValue
import HandS.ExcCtx
import HandS.HotCalls
import HandS.Walk
import HandS.ExcInit
import HandS.ExcOwn
import HandS.Words
import HandS.TryOnly
import HandS.More
import HandS.EndTab
import HandS.NestedK
import PySem.Challenge.RW_comersline_k48_whole_one_writing
set_option Elab.async false
set_option linter.all false
set_option maxRecDepth 100000
set_option maxHeartbeats 1000000
namespace GE
open PySem PySem.Spec PyProof.Rows L2 GenW
open Sem (wp)

/-- what a consumer holds between two turns of a generator -/
structure Con (α : Type) where
  fp : List Addr
  at_ : α → Heap → Prop
structure ConOk {α : Type} (C : Con α) : Prop where
  obj : ∀ a h, C.at_ a h → ∀ b ∈ C.fp, ∃ o, h.get? b = some o ∧ ∀ v, o.data ≠ .cell v
  keep : ∀ a h h', C.at_ a h → (∀ b ∈ C.fp, ∀ o, h.get? b = some o → h'.get? b = some o) → C.at_ a h'
  inj : ∀ a b h, C.at_ a h → C.at_ b h → a = b
def conU : Con Unit := ⟨[], fun _ _ => True⟩
theorem conU_ok : ConOk conU := ⟨(fun _ _ _ b hb => nomatch hb), (fun _ _ _ _ _ => trivial), (fun _ _ _ _ _ => rfl)⟩

abbrev nones (n : Nat) : L2.St := List.replicate n none
theorem nones_some {n i : Nat} {v : V} (h : (nones n)[i]? = some (some v)) : False := by
  rw [List.getElem?_replicate] at h
  split at h <;> cases h

section
variable {α : Type}
def GI (Y : Cx) (C : Con α) (fpI : List Addr) (tn : Nat → Heap → Prop) (a : α) (i : Nat) (H : Hp) (s : Shared) : Prop :=
  Inv Y (pinsAt C.fp s.heap) (nones Y.N.length) H s ∧ C.at_ a s.heap ∧ tn i s.heap ∧ ∀ b ∈ fpI, H b = none
def GP (Y : Cx) (C : Con α) (fpI : List Addr) (tn : Nat → Heap → Prop) (Out : α → V → Hp → (α → Hp → Prop) → Prop) : Protocol := fun _ s₀ v s kap =>
  ∃ a i H y Nx, RelV y v ∧ GI Y C fpI tn a i H s ∧ Out a y H Nx ∧ (∀ b ∈ C.fp, ∀ o, s₀.heap.get? b = some o → s.heap.get? b = some o) ∧ ∀ a' s'', GI Y C fpI tn a' i H s'' → Nx a' H → kap (.send .none) s''
def GF (Y : Cx) (C : Con α) (Fin : α → Hp → Prop) : Nat → Shared → Shared → Prop := fun _ s₀ s₁ =>
  ∃ a H, Inv Y (pinsAt C.fp s₁.heap) (nones Y.N.length) H s₁ ∧ C.at_ a s₁.heap ∧ (∀ b ∈ C.fp, ∀ o, s₀.heap.get? b = some o → s₁.heap.get? b = some o) ∧ Fin a H
abbrev GRr (Y : Cx) (C : Con α) (Fin : α → Hp → Prop) : GenEnd := fun n s₀ r s₁ => r = .ok .next ∧ GF Y C Fin n s₀ s₁
def TurnOf (J : It) (n0 : Nat) (g : TG) (tt : TT) (te : TE) (Out : α → V → Hp → (α → Hp → Prop) → Prop) (Fin : α → Hp → Prop) (W : α → Nat → Nat → Hp → Prop) : Prop :=
  ∀ a i m H, W a i m H → (J.stop i H ∧ Fin a H) ∨ (J.go i H ∧ ∃ Nx : α → Hp → Prop, (∀ a' H', Nx a' H' → ∃ m', m' < m ∧ W a' (i + 1) m' H') ∧
    ∀ x H', J.yld i H x H' → g x (nones n0) H' fun σ2 H2 => tt σ2 H2 fun b H3 => if b = true then te σ2 H3 fun y H4 => Out a y H4 Nx else Nx a H3)

def GoOn (M : Model) (A : Around) (R : GenEnd) (P : Protocol) (gi : α → Shared → Prop) (nx : α → Prop) (gs1 : GenState) : Nat → Prop
  | 0 => ∀ a' s'', gi a' s'' → nx a' → False
  | n1 + 1 => ∀ a' s'', gi a' s'' → nx a' → gs1.Goes M A R P n1 (.send .none) s''
theorem over_loopG {A : Around} {elt tg iter : Expr} {ifs : List Expr} {scope : Scope} {pos : Pos} {it acc : Value} {env : Env} :
    A.over (.compLoop (.GeneratorExp elt [⟨tg, iter, ifs, 0⟩] scope pos) 0 it acc env) [] = A.deeper env := by
  first
    | rfl
    | (obtain ⟨hd, d, fr, gs, u⟩ := A; simp [Around.over, Around.deeper, marksOver, frameCount, unitsOf, envsOf, guardsOf, pushEnvs, pushGuards, Code.envs, Code.env?, Code.isFrame, Code.guards, Code.isGuard, Code.weight, Code.frames, Code.isCreation, Code.isCaller, Code.cUnits])
theorem over_startG {A : Around} {elt tg iter : Expr} {ifs : List Expr} {scope : Scope} {pos : Pos} {it acc : Value} {env : Env} :
    A.over (.compStart (.GeneratorExp elt [⟨tg, iter, ifs, 0⟩] scope pos) 0 it acc env) [] = A.deeper env := by
  first
    | rfl
    | (obtain ⟨hd, d, fr, gs, u⟩ := A; simp [Around.over, Around.deeper, marksOver, frameCount, unitsOf, envsOf, guardsOf, pushEnvs, pushGuards, Code.envs, Code.env?, Code.isFrame, Code.guards, Code.isGuard, Code.weight, Code.frames, Code.isCreation, Code.isCaller, Code.cUnits])

theorem Inv.gensG {X : Cx} {pins : List (Addr × Obj)} {σ : L2.St} {H : Hp} {s : Shared} (I : Inv X pins σ H s) {G : Array GenState} (h : AllBare G) : Inv X pins σ H { s with gens := G } :=
  ⟨I.ok, I.os, h, I.base, I.loc, I.cell, I.free, I.freeC, I.pin, I.hok, I.len⟩
theorem bare_setGen {s : Shared} {g : Nat} {x : GenState} (h : AllBare s.gens) (hx : x.bare = true) : AllBare (s.setGen g x).gens := by
  intro y hy
  show y.bare = true
  have hy : y ∈ s.gens.setIfInBounds g x := hy
  rcases Array.mem_or_eq_of_mem_setIfInBounds hy with h1 | h1
  · exact h y h1
  · rw [h1]; exact hx

section
variable {Y : Cx} {C : Con α} {tg elt iter : Expr} {ifs : List Expr} {scope : Scope} {pos : Pos} {J : It} {fpI : List Addr} {it : Addr} {tn : Nat → Heap → Prop} {g : TG} {tt : TT} {te : TE}
  {Out : α → V → Hp → (α → Hp → Prop) → Prop} {Fin : α → Hp → Prop} {W : α → Nat → Nat → Hp → Prop} {A : Around}
/-- the loop of a generator expression -/
theorem seg_loop (CO : ConOk C) (hcalm : Y.calm = true) (T : Turn Y.prog Y.w Y.K tg J fpI it tn) (hg : PG Y tg g) (ht : PTs Y ifs tt) (he : PE Y elt te) (hA : A.deeper Y.env = Y.A)
    (hex : ∀ b ∈ fpI, b ∈ Y.ex) (hdis : ∀ b ∈ C.fp, b ∉ fpI) (hpn : ∀ p ∈ Y.pn, p.1 ∉ fpI) (hxe : Y.xe = fun _ _ => False) (hco : Y.env.scope.isCoroutine = false) (turn : TurnOf J Y.N.length g tt te Out Fin W) :
    ∀ (m : Nat) (a : α) (i n : Nat) (H : Hp) (s₀ s : Shared), m < n → W a i m H → GI Y C fpI tn a i H s → (∀ b ∈ C.fp, ∀ o, s₀.heap.get? b = some o → s.heap.get? b = some o) →
      Seg (model Y.prog Y.w) A (GRr Y C Fin) (GP Y C fpI tn Out) n s₀ (.compLoop (.GeneratorExp elt [⟨tg, iter, ifs, 0⟩] scope pos) 0 (.ref it) .none Y.env)
        ((model Y.prog Y.w).den (.compLoop (.GeneratorExp elt [⟨tg, iter, ifs, 0⟩] scope pos) 0 (.ref it) .none Y.env)) [] s := by
  have ov : A.over (.compLoop (.GeneratorExp elt [⟨tg, iter, ifs, 0⟩] scope pos) 0 (.ref it) .none Y.env) [] = Y.A := over_loopG.trans hA
  have stat : ∀ {pins : List (Addr × Obj)} {σ' : L2.St} {H' : Hp} {s' : Shared}, Inv Y pins σ' H' s' → (∀ p ∈ pins, p.1 ∉ fpI) → (∀ b ∈ fpI, H' b = none) → ∀ b ∈ fpI, FpOk Y pins H' b := fun {pins σ' H' s'} I' hp hn b hb =>
    ⟨hn b hb, (I'.ok.exf b (hex b hb)).1, I'.ok.exfs b (hex b hb), .inl (hex b hb), fun x c e => (I'.ok.exf b (hex b hb)).2 x c e, fun p hp' z => (List.mem_append.mp hp').elim (fun q => hpn p q (z ▸ hb)) fun q => hp p q (z ▸ hb)⟩
  have pinN : ∀ h : Heap, ∀ p ∈ pinsAt C.fp h, p.1 ∉ fpI := fun h p hp => hdis p.1 (of_pinsAt hp).1
  intro m
  induction m using Nat.strongRecOn with
  | ind m ih =>
    intro a i n H s₀ s hmn hw hGI since
    obtain ⟨I, hat, st, hn0⟩ := hGI
    show Seg _ A _ _ n s₀ _ ((compTurn (.GeneratorExp elt [⟨tg, iter, ifs, 0⟩] scope pos) 0 (.ref it) .none Y.env).onRaise (leaving Y.env)) [] s
    rw [compTurn_gen, Sem.onRaise_eq_wrap]
    refine seg_bind_wrap (wpAny_standAt ?_)
    have sf := stat I (pinN s.heap) hn0
    rcases turn a i m H hw with ⟨stop, fin⟩ | ⟨go, Nx, hNx, step⟩
    · refine seg_bind_wrap ?_
      rw [ov]
      refine thnF (T.done Y rfl rfl rfl hcalm i _ s _ H (fun _ _ => False) I sf st stop) fun r s1 ⟨hr, I1⟩ => ?_
      subst hr
      have hk : ∀ b ∈ C.fp, ∀ o, s.heap.get? b = some o → s1.heap.get? b = some o := fun b hb o e => (I1.pin (b, o) (List.mem_append_right _ (mem_pinsAt hb e))).1
      refine seg_end (.ok .next) ⟨rfl, a, H, I1.pins_of fun p hp => ?_, CO.keep _ _ _ hat hk, fun b hb o e => hk b hb o (since b hb o e), fin⟩
      obtain ⟨hb, e⟩ := of_pinsAt hp
      obtain ⟨o, e2, _⟩ := CO.obj _ _ hat p.1 hb
      have e3 := hk p.1 hb o e2
      rw [e] at e3
      cases e3
      exact I1.pin (p.1, p.2) (List.mem_append_right _ (mem_pinsAt hb e2))
    · refine seg_bind_wrap ?_
      rw [ov]
      refine thnF (T.item Y rfl rfl rfl hcalm i _ s _ H (fun _ _ => False) I sf st go) fun r s1 ⟨u, hr, h1⟩ => ?_
      subst hr
      refine seg_bind_wrap ?_
      rw [ov]
      refine thnF h1 fun _ s2 ⟨x, H2, I2, r2, y2, st2, n2⟩ => ?_
      have I2' := I2.pinned (stat I2 (pinN s.heap) n2) (T.obj _ _ st2)
      refine seg_bind_wrap ?_
      rw [ov]
      have xf : ∀ {β : Type} {t : Sem β} {P P' : β → Shared → Prop} {E' : Value → Shared → Prop} {z : Shared}, wpAny (model Y.prog Y.w) Y.A t P Y.xe z → (∀ a s, P a s → P' a s) → wpAny (model Y.prog Y.w) Y.A t P' E' z := fun {β t P P' E' z} q hq => by
        rw [hxe] at q
        exact thnF q hq
      refine xf (hg.run _ s2 _ H2 x u _ I2' r2 (step x H2 y2)) fun _ s3 ⟨σ3, H3, I3, q3⟩ => ?_
      refine seg_bind_wrap ?_
      rw [ov]
      refine xf (ht.run _ s3 σ3 H3 _ I3 q3) fun ok s4 ⟨H4, I4, q4⟩ => ?_
      -- what stands at a turn's end
      have fin : ∀ {s' : Shared} {H' : Hp} {σ' : L2.St}, Inv Y (pinsAt C.fp s.heap ++ pinsAt fpI s2.heap) σ' H' s' →
          GI Y C fpI tn a (i + 1) H' s' ∧ ∀ b ∈ C.fp, ∀ o, s₀.heap.get? b = some o → s'.heap.get? b = some o := fun {s' H' σ'} I' => by
        have hk : ∀ b ∈ C.fp, ∀ o, s.heap.get? b = some o → s'.heap.get? b = some o := fun b hb o e => (I'.pin (b, o) (List.mem_append_right _ (List.mem_append_left _ (mem_pinsAt hb e)))).1
        have pin' : ∀ b ∈ fpI, ∀ o, s2.heap.get? b = some o → s'.heap.get? b = some o ∧ H' b = none := fun b hb o e =>
          let z := I'.pin (b, o) (List.mem_append_right _ (List.mem_append_right _ (mem_pinsAt hb e)))
          ⟨z.1, z.2.1⟩
        have I1 : Inv Y (pinsAt C.fp s'.heap) σ' H' s' := I'.pins_of fun p hp => by
          obtain ⟨hb, e⟩ := of_pinsAt hp
          obtain ⟨o, e2, _⟩ := CO.obj _ _ hat p.1 hb
          have e3 := hk p.1 hb o e2
          rw [e] at e3
          cases e3
          exact I'.pin (p.1, p.2) (List.mem_append_right _ (List.mem_append_left _ (mem_pinsAt hb e2)))
        refine ⟨⟨I1.weak (by rw [I1.len, List.length_replicate]) fun j v e => (nones_some e).elim, CO.keep _ _ _ hat hk, T.keep _ _ _ st2 fun b hb o e => (pin' b hb o e).1, fun b hb => ?_⟩, fun b hb o e => hk b hb o (since b hb o e)⟩
        obtain ⟨o, e, _⟩ := T.obj _ _ st2 b hb
        exact (pin' b hb o e).2
      cases ok with
      | false =>
        simp only [Bool.false_eq_true, if_false] at q4 ⊢
        obtain ⟨f1, f2⟩ := fin I4
        obtain ⟨m', hm', w'⟩ := hNx a H4 q4
        exact seg_again rfl (ih m' hm' a (i + 1) n H4 s₀ s4 (by omega) w' f1 f2)
      | true =>
        simp only [if_true] at q4 ⊢
        obtain ⟨n', rfl⟩ : ∃ n', n = n' + 1 := ⟨n - 1, by omega⟩
        have hy : ∀ v, yieldOut Y.env v = yieldValue v := fun v => by simp only [yieldOut, hco, Bool.false_eq_true, if_false]
        simp only [hy]
        rw [Sem.bind_eq_wrap', Sem.bind_eq_wrap', Sem.wrap_wrap, Sem.wrap_wrap]
        refine seg_wrap ?_
        rw [ov]
        refine xf (he.run _ s4 σ3 H4 _ I4 q4) fun y s5 ⟨yv, H5, I5, r5, o5⟩ => ?_
        obtain ⟨f1, f2⟩ := fin I5
        refine seg_at (seg_yield rfl rfl rfl ⟨a, i + 1, H5, yv, Nx, r5, f1, o5, f2, fun a' s'' hGI' hN' => ?_⟩)
        obtain ⟨m', hm', w'⟩ := hNx a' H5 hN'
        exact seg_again rfl (ih m' hm' a' (i + 1) n' H5 s'' s'' (by omega) w' hGI' fun _ _ _ e => e)

/-- .. and its start -/
theorem seg_start (CO : ConOk C) (hcalm : Y.calm = true) (T : Turn Y.prog Y.w Y.K tg J fpI it tn) (hg : PG Y tg g) (ht : PTs Y ifs tt) (he : PE Y elt te) (hA : A.deeper Y.env = Y.A)
    (hex : ∀ b ∈ fpI, b ∈ Y.ex) (hdis : ∀ b ∈ C.fp, b ∉ fpI) (hpn : ∀ p ∈ Y.pn, p.1 ∉ fpI) (hxe : Y.xe = fun _ _ => False) (hco : Y.env.scope.isCoroutine = false) (turn : TurnOf J Y.N.length g tt te Out Fin W)
    (m : Nat) (a : α) (n : Nat) (H : Hp) (s : Shared) (hm : m < n) (hw : W a 0 m H) (hGI : GI Y C fpI tn a 0 H s) :
      Seg (model Y.prog Y.w) A (GRr Y C Fin) (GP Y C fpI tn Out) n s (.compStart (.GeneratorExp elt [⟨tg, iter, ifs, 0⟩] scope pos) 0 (.ref it) .none Y.env)
        ((model Y.prog Y.w).den (.compStart (.GeneratorExp elt [⟨tg, iter, ifs, 0⟩] scope pos) 0 (.ref it) .none Y.env)) [] s := by
  have loop := seg_loop (iter := iter) (scope := scope) (pos := pos) CO hcalm T hg ht he hA hex hdis hpn hxe hco turn m a 0 n H s s hm hw hGI fun _ _ _ e => e
  show Seg _ A _ _ _ s _ ((compStart (.GeneratorExp elt [⟨tg, iter, ifs, 0⟩] scope pos) 0 (.ref it) .none Y.env).onRaise (leaving Y.env)) [] s
  unfold compStart
  rw [Sem.onRaise_eq_wrap]
  show Seg _ A _ _ _ s _ ((ask >>= _).wrap _ _ _ _) [] s
  refine seg_bind_wrap (wpAny_askSetting ?_)
  split
  · exact seg_again rfl loop
  · first
      | exact seg_bind_wrap (wpAny_rule (seg_bind_wrap (wpAny_standAt (seg_bind_wrap (T.self _ 0 s _ _ hGI.2.2.1 (seg_again rfl loop))))))
      | (refine seg_bind_wrap (wpAny_rule ?_); show Seg _ A _ _ _ s _ ((standAt iter.pos >>= _).wrap _ _ _ _) [] s; exact seg_bind_wrap (wpAny_standAt (seg_bind_wrap (T.self _ 0 s _ _ hGI.2.2.1 (seg_again rfl loop)))))

theorem repin {a : α} {h : Heap} {σ : L2.St} {H : Hp} {s' : Shared} (CO : ConOk C) (hat : C.at_ a h) (I : Inv Y (pinsAt C.fp h) σ H s') (hk : ∀ b ∈ C.fp, ∀ o, h.get? b = some o → s'.heap.get? b = some o) :
    Inv Y (pinsAt C.fp s'.heap) σ H s' := I.pins_of fun p hp => by
  obtain ⟨hb, e⟩ := of_pinsAt hp
  obtain ⟨o, e2, _⟩ := CO.obj _ _ hat p.1 hb
  have e3 := hk p.1 hb o e2
  rw [e] at e3
  cases e3
  exact I.pin (p.1, p.2) (List.mem_append_right _ (mem_pinsAt hb e2))

/-- one item of such a generator -/
theorem next_ge {A : Around} {ga : Addr} {go : Obj} {g i n : Nat} {gs : GenState} {a : α} {H : Hp} {Nx : α → Hp → Prop} {s : Shared} {Q : Option Value → Shared → Prop} {E : Value → Shared → Prop}
    (CO : ConOk C) (hh : A.handled = none) (hd : A.depth < recursionLimit) (hpn : (ga, go) ∈ Y.pn) (hgo : ∀ h : Heap, h.get? ga = some go → h.IsGen ga g) (hgs : s.gens[g]? = some gs)
    (gi : GI Y C fpI tn a i H s) (hN : Nx a H)
    (goes : ∀ a' s'', GI Y C fpI tn a' i H s'' → Nx a' H → gs.Goes (model Y.prog Y.w) A.in1 (GRr Y C Fin) (GP Y C fpI tn Out) n (.send .none) s'')
    (hsome : ∀ i1 H1 y v Nx1 s1 gs1, RelV y v → GI Y C fpI tn a i1 H1 s1 → Out a y H1 Nx1 → s1.gens[g]? = some gs1 →
      GoOn (model Y.prog Y.w) A.in1 (GRr Y C Fin) (GP Y C fpI tn Out) (fun a' s'' => GI Y C fpI tn a' i1 H1 s'') (fun a' => Nx1 a' H1) gs1 n → Q (some v) s1)
    (hnone : ∀ H1 s1, Inv Y (pinsAt C.fp s1.heap) (nones Y.N.length) H1 s1 → C.at_ a s1.heap → Fin a H1 → Q none s1) :
    wpAny (model Y.prog Y.w) A (pyNext (.ref ga)) Q E s := by
  obtain ⟨I, hat, st, hn0⟩ := id gi
  have hlt : g < s.gens.size := by
    rcases Nat.lt_or_ge g s.gens.size with h' | h'
    · exact h'
    · rw [Array.getElem?_eq_none h'] at hgs; cases hgs
  refine wpAny_gsz (n := g + 1) hlt ?_
  have gi' : GI Y C fpI tn a i H (s.setGen g .running) := ⟨Inv.gensG I (bare_setGen I.bare rfl), hat, st, hn0⟩
  have hig : s.heap.IsGen ga g := hgo _ (I.pin (ga, go) (List.mem_append_left _ hpn)).1
  refine wpAny_pyNext_genexpQ (P := GF Y C Fin) (Y := GP Y C fpI tn Out) hh I.nolimit hd hig hgs (goes a _ gi' hN) (fun v s1 gs1 hb hv => ?_) (fun s1 hp h' hk => ?_)
  · obtain ⟨a1, i1, H1, y, Nx1, rv, gi1, o1, since, kap⟩ := hv
    have hat1 : C.at_ a s1.heap := CO.keep _ _ _ hat since
    have ea : a1 = a := CO.inj _ _ _ gi1.2.1 hat1
    subst ea
    intro hsz
    have hlt1 : g < s1.gens.size := by
      rw [setGen_size] at hsz
      exact hsz
    have gi2 : GI Y C fpI tn a1 i1 H1 (s1.setGen g gs1) := ⟨Inv.gensG gi1.1 (bare_setGen gi1.1.bare hb), gi1.2.1, gi1.2.2.1, gi1.2.2.2⟩
    refine hsome i1 H1 y v Nx1 _ gs1 rv gi2 o1 (by simp [Shared.setGen, hlt1]) ?_
    cases n with
    | zero => exact fun a' s'' q1 q2 => kap a' s'' q1 q2
    | succ n1 => exact fun a' s'' q1 q2 => kap a' s'' q1 q2
  · obtain ⟨a1, H1, I1, hat1, since, fin⟩ := hp
    have ea : a1 = a := CO.inj _ _ _ hat1 (CO.keep _ _ _ hat since)
    subst ea
    intro _
    have I2 : Inv Y (pinsAt C.fp s1.heap) (nones Y.N.length) H1 { s1.setGen g .finished with heap := h' } := (Inv.gensG I1 (bare_setGen (x := .finished) (g := g) I1.bare rfl)).kept (t' := s1.toks) hk
    exact hnone H1 _ (repin CO hat1 I2 fun b _ o e => hk b o e) (CO.keep _ _ _ hat1 fun b _ o e => hk b o e) fin
end
end

section
variable {Y : Cx} {fpI : List Addr} {tn : Nat → Heap → Prop}
def outAll (QB : Bool → Hp → Prop) : Unit → V → Hp → (Unit → Hp → Prop) → Prop := fun _ y H Nx => ∃ c, y = .bl c ∧ if c = true then Nx () H else QB false H
def outAny (QB : Bool → Hp → Prop) : Unit → V → Hp → (Unit → Hp → Prop) → Prop := fun _ y H Nx => ∃ c, y = .bl c ∧ if c = true then QB true H else Nx () H
theorem all_loop {A : Around} {ga : Addr} {go : Obj} {g : Nat} {QB : Bool → Hp → Prop} {R : Result → Shared → Prop} (hh : A.handled = none) (hd : A.depth < recursionLimit) (hpn : (ga, go) ∈ Y.pn) (hgo : ∀ h : Heap, h.get? ga = some go → h.IsGen ga g)
    (hR : ∀ b s' H', Inv Y [] (nones Y.N.length) H' s' → QB b H' → R (.ok (.ret (.bool b))) s') :
    ∀ (n i : Nat) (H : Hp) (Nx : Unit → Hp → Prop) (s : Shared) (gs : GenState), s.gens[g]? = some gs → GI Y conU fpI tn () i H s → Nx () H →
      (∀ a' s'', GI Y conU fpI tn a' i H s'' → Nx a' H → gs.Goes (model Y.prog Y.w) A.in1.in1 (GRr Y conU fun _ H => QB true H) (GP Y conU fpI tn (outAll QB)) n (.send .none) s'') →
      codeAny (model Y.prog Y.w) A (.builtin "all.loop" ⟨[.ref ga], []⟩) R s := by
  intro n
  induction n with
  | zero =>
    intro i H Nx s gs hgs gi hN goes
    refine codeAny_builtin F.entry_all_loop ?_
    rw [Around.under_plainId F.plain_all_loop _]
    show wpAny _ A.in1 (pyNext (.ref ga) >>= _) _ _ s
    refine wpAny_bind (next_ge (A := A.in1) conU_ok hh hd hpn hgo hgs gi hN goes (fun i1 H1 y v Nx1 s1 gs1 rv gi1 o1 hg1 go1 => ?_) (fun H1 s1 I1 _ fin => ?_))
    · obtain ⟨c, rfl, hc⟩ := o1
      cases (show v = Value.bool c from rv)
      refine wpAny_bind (wpAny_holding (wpAny_truthy_bool ?_))
      refine wpAny_bind (wpAny_letGo ?_)
      cases c with
      | true => exact (go1 () s1 gi1 hc).elim
      | false =>
        simp only [Bool.false_eq_true, if_false]
        exact wpAny_bind (wpAny_rule (wpAny_pure (hR false s1 H1 gi1.1 hc)))
    · exact wpAny_bind (wpAny_rule (wpAny_pure (hR true s1 H1 I1 fin)))
  | succ n ih =>
    intro i H Nx s gs hgs gi hN goes
    refine codeAny_builtin F.entry_all_loop ?_
    rw [Around.under_plainId F.plain_all_loop _]
    show wpAny _ A.in1 (pyNext (.ref ga) >>= _) _ _ s
    refine wpAny_bind (next_ge (A := A.in1) conU_ok hh hd hpn hgo hgs gi hN goes (fun i1 H1 y v Nx1 s1 gs1 rv gi1 o1 hg1 go1 => ?_) (fun H1 s1 I1 _ fin => ?_))
    · obtain ⟨c, rfl, hc⟩ := o1
      cases (show v = Value.bool c from rv)
      refine wpAny_bind (wpAny_holding (wpAny_truthy_bool ?_))
      refine wpAny_bind (wpAny_letGo ?_)
      cases c with
      | true =>
        simp only [if_true]
        exact wpAny_pure ⟨plainId_quiet F.plain_all_loop _, ih i1 H1 Nx1 s1 gs1 hg1 gi1 hc go1⟩
      | false =>
        simp only [Bool.false_eq_true, if_false]
        exact wpAny_bind (wpAny_rule (wpAny_pure (hR false s1 H1 gi1.1 hc)))
    · exact wpAny_bind (wpAny_rule (wpAny_pure (hR true s1 H1 I1 fin)))
theorem any_loop {A : Around} {ga : Addr} {go : Obj} {g : Nat} {QB : Bool → Hp → Prop} {R : Result → Shared → Prop} (hh : A.handled = none) (hd : A.depth < recursionLimit) (hpn : (ga, go) ∈ Y.pn) (hgo : ∀ h : Heap, h.get? ga = some go → h.IsGen ga g)
    (hR : ∀ b s' H', Inv Y [] (nones Y.N.length) H' s' → QB b H' → R (.ok (.ret (.bool b))) s') :
    ∀ (n i : Nat) (H : Hp) (Nx : Unit → Hp → Prop) (s : Shared) (gs : GenState), s.gens[g]? = some gs → GI Y conU fpI tn () i H s → Nx () H →
      (∀ a' s'', GI Y conU fpI tn a' i H s'' → Nx a' H → gs.Goes (model Y.prog Y.w) A.in1.in1 (GRr Y conU fun _ H => QB false H) (GP Y conU fpI tn (outAny QB)) n (.send .none) s'') →
      codeAny (model Y.prog Y.w) A (.builtin "any.loop" ⟨[.ref ga], []⟩) R s := by
  intro n
  induction n with
  | zero =>
    intro i H Nx s gs hgs gi hN goes
    refine codeAny_builtin F.entry_any_loop ?_
    rw [Around.under_plainId F.plain_any_loop _]
    show wpAny _ A.in1 (pyNext (.ref ga) >>= _) _ _ s
    refine wpAny_bind (next_ge (A := A.in1) conU_ok hh hd hpn hgo hgs gi hN goes (fun i1 H1 y v Nx1 s1 gs1 rv gi1 o1 hg1 go1 => ?_) (fun H1 s1 I1 _ fin => ?_))
    · obtain ⟨c, rfl, hc⟩ := o1
      cases (show v = Value.bool c from rv)
      refine wpAny_bind (wpAny_holding (wpAny_truthy_bool ?_))
      refine wpAny_bind (wpAny_letGo ?_)
      cases c with
      | false => exact (go1 () s1 gi1 hc).elim
      | true =>
        simp only [if_true]
        exact wpAny_bind (wpAny_rule (wpAny_pure (hR true s1 H1 gi1.1 hc)))
    · exact wpAny_bind (wpAny_rule (wpAny_pure (hR false s1 H1 I1 fin)))
  | succ n ih =>
    intro i H Nx s gs hgs gi hN goes
    refine codeAny_builtin F.entry_any_loop ?_
    rw [Around.under_plainId F.plain_any_loop _]
    show wpAny _ A.in1 (pyNext (.ref ga) >>= _) _ _ s
    refine wpAny_bind (next_ge (A := A.in1) conU_ok hh hd hpn hgo hgs gi hN goes (fun i1 H1 y v Nx1 s1 gs1 rv gi1 o1 hg1 go1 => ?_) (fun H1 s1 I1 _ fin => ?_))
    · obtain ⟨c, rfl, hc⟩ := o1
      cases (show v = Value.bool c from rv)
      refine wpAny_bind (wpAny_holding (wpAny_truthy_bool ?_))
      refine wpAny_bind (wpAny_letGo ?_)
      cases c with
      | false =>
        simp only [Bool.false_eq_true, if_false]
        exact wpAny_pure ⟨plainId_quiet F.plain_any_loop _, ih i1 H1 Nx1 s1 gs1 hg1 gi1 hc go1⟩
      | true =>
        simp only [if_true]
        exact wpAny_bind (wpAny_rule (wpAny_pure (hR true s1 H1 gi1.1 hc)))
    · exact wpAny_bind (wpAny_rule (wpAny_pure (hR false s1 H1 I1 fin)))
end

/-! ### a generator expression is made -/
abbrev ce (X : Cx) (scope : Scope) (C : Addr) (code : Value) : Env := genEnv scope [] C code builtinsNs X.env
abbrev gx (X : Cx) (A : Around) (N : List Str) (s : Shared) (H : Hp) (cenv : Env) (fp : List Addr) (pn : List (Addr × Obj)) : Cx :=
  { X with A := A.deeper cenv, N := N, s_0 := s, H_0 := H, env := cenv, outer := X.stack, stack := cenv :: X.stack, ex := fp, fn := fun _ => false, calm := true, pn := pn, xe := fun _ _ => False }
structure GSc (scope : Scope) : Prop where
  kind : scope.kind = .function
  co : scope.isCoroutine = false
  own : ∀ y ∈ scope.names, y.2 ≠ .cell ∧ y.2 ≠ .free
  dot : scope.names.lookup (".0" : Str) = some NameKind.local
theorem cloFrom_nil {cells : List (Str × Addr)} : ∀ {names : List (Str × NameKind)} {acc : List (Str × Addr)}, (∀ y ∈ names, y.2 ≠ .free) → cloFrom cells names acc = acc
  | [], _, _ => rfl
  | (n, k) :: r, acc, h => by
    unfold cloFrom
    rw [if_neg (by simpa using h (n, k) List.mem_cons_self)]
    exact cloFrom_nil fun y hy => h y (List.mem_cons_of_mem _ hy)
theorem GSc.nocell {scope : Scope} (S : GSc scope) {x : Str} (h : scope.names.lookup x = some .cell ∨ scope.names.lookup x = some .free) : False := by
  rcases h with h | h
  · exact (S.own _ (PySem.mem_of_lookup h)).1 rfl
  · exact (S.own _ (PySem.mem_of_lookup h)).2 rfl
section
variable {X : Cx} {pins : List (Addr × Obj)} {σ : L2.St} {H : Hp} {s : Shared}
theorem ge_start {A : Around} {N : List Str} {scope : Scope} {code : Value} {fp : List Addr} {go : Obj} {G : Array GenState} {tk : Nat} {h5 : Heap} {m0 : Str → Option Value} (I : Inv X pins σ H s) (S : GSc scope) (hA : A.handled = none) (hf : A.frames = some X.stack)
    (hfp : ∀ b ∈ fp, FpOk X pins H b ∧ b < s.heap.objs.size) (hG : AllBare G) (hns : h5.Ns s.heap.objs.size m0) (hk : ∀ b o, s.heap.get? b = some o → h5.get? b = some o) (hgo : h5.get? (s.heap.objs.size + 1) = some go) (hgd : ∀ v, go.data ≠ .cell v) :
    Inv (gx X A N s H (ce X scope s.heap.objs.size code) fp [(s.heap.objs.size + 1, go)]) [] (nones N.length) H { s with gens := G, toks := tk, heap := h5 } := by
  have noc : ∀ x c, (ce X scope s.heap.objs.size code).cells.lookup x = some c → False := fun x c e => by simp [genEnv] at e
  have stkne : ∀ b, s.heap.objs.size ≤ b → b ∉ frs X.stack := fun b hb z => by
    rcases List.mem_cons.mp (I.stkSub b z) with e | e
    · exact absurd (Nat.lt_of_lt_of_le I.lt (by rw [← e]; exact hb)) (Nat.lt_irrefl _)
    · exact I.nofs hb e
  refine ⟨⟨I.ok.mod, S.kind, I.ok.glob, rfl, Nat.le_refl _, fun x y c h1 _ => (noc x c h1).elim, fun x hx => (S.nocell hx).elim, fun x c h _ => (by cases h), fun _ => hA, Around.frames_deeper hf, .inr ⟨rfl, rfl⟩, fun b hb => ⟨Nat.ne_of_lt (hfp b hb).2, fun x c e => (noc x c e).elim⟩,
    I.bs, Nat.le_trans I.ok.bsz I.sz, fun b o e hb => ?_, fun b hb z => ?_, I.stack, I.stkFree⟩, rfl, hG, Un.kept hk, ⟨m0, hns, fun i x v _ h2 _ => (nones_some h2).elim⟩, fun x c e => (noc x c e).elim, I.hok.fresh (Nat.le_refl _), fun x c e => (noc x c e).elim, fun p hp => ?_, I.hok.kept hk, List.length_replicate⟩
  · rcases (hfp b hb).1.2.2.2.1 with z | z
    · exact I.ok.noex b o e z
    · exact absurd (Nat.lt_of_lt_of_le (Heap.lt_size e) (Nat.le_trans I.ok.bsz z)) (Nat.lt_irrefl _)
  · rcases List.mem_cons.mp (I.stkSub b z) with e | e
    · exact (hfp b hb).1.2.1 e
    · exact (hfp b hb).1.2.2.1 e
  · have hp' : p ∈ [(s.heap.objs.size + 1, go)] := by simpa using hp
    rw [List.mem_singleton.mp hp']
    exact ⟨hgo, I.hok.fresh (Nat.le_succ _), Nat.succ_ne_self _, stkne _ (Nat.le_succ _), hgd⟩
/-- back in the def that asked -/
theorem ge_back {A : Around} {N : List Str} {cenv : Env} {fp : List Addr} {pn pins' : List (Addr × Obj)} {σ' : L2.St} {H' : Hp} {s' : Shared} (I : Inv X pins σ H s) (hfp : ∀ b ∈ fp, FpOk X pins H b ∧ b < s.heap.objs.size)
    (J : Inv (gx X A N s H cenv fp pn) pins' σ' H' s') : Inv X pins σ H' s' :=
  I.call' (ch := fp) J.os J.base J.hok J.bare fun b hb => ⟨(hfp b hb).1.2.2.2.1, (hfp b hb).1.2.1, (hfp b hb).1.2.2.2.2.1, (hfp b hb).1.2.2.2.2.2⟩
theorem room3 {k : Nat} {A : Around} (r : Room (k + 1) A) (env : Env) : Room k (A.in1.in1.deeper env) :=
  ⟨r.hd, by have := r.dp; show A.depth + 1 + 3 * k + 5 < _; omega, by have := r.un; show A.units + 1 + 1 + 3 + 16 * k + 200 < _; omega⟩

theorem gen_make {c P : Addr} {elt tg iter : Expr} {ifs : List Expr} {gpos : Pos} {scope : Scope} {wi : TI} {k : Nat} {Q' : Value → Shared → Prop} {R : It → Hp → Prop}
    (hr : Room k X.A) (TB : GxR.TabB X.base X.mg c P) (hcode : X.env.code = .ref c) (S : GSc scope) (hi : PI X tg iter wi) (hs : ∀ v, genFold iter X.env v = pure v) (I : Inv X pins σ H s) (h : wi σ H fun J H1 => GxR.TabG H1 P ∧ R J H1)
    (hQ : ∀ J H1 H2 s4 s5 code fp it tn go g, R J H1 → GxR.Tabbed P H1 H2 → Inv X pins σ H2 s4 → (∀ b ∈ fp, FpOk X pins H2 b ∧ b < s4.heap.objs.size) → Turn X.prog X.w X.K tg J fp it tn → tn 0 s5.heap →
      (∀ A N, A.handled = none → A.frames = some X.stack → Inv (gx X A N s4 H2 (ce X scope s4.heap.objs.size code) fp [(s4.heap.objs.size + 1, go)]) [] (nones N.length) H2 s5) →
      (∀ h : Heap, h.get? (s4.heap.objs.size + 1) = some go → h.IsGen (s4.heap.objs.size + 1) g) →
      s5.gens[g]? = some (.fresh (.compStart (.GeneratorExp elt [⟨tg, iter, ifs, 0⟩] scope gpos) 0 (.ref it) .none (ce X scope s4.heap.objs.size code))) → Q' (.ref (s4.heap.objs.size + 1)) s5) :
    wpAny (model X.prog X.w) X.A (eval (.GeneratorExp elt [⟨tg, iter, ifs, 0⟩] scope gpos) X.env) Q' X.xe s := by
  have hcl : closureFor scope X.env = pure [] := by
    rw [closure_ok fun y hy e => absurd e (S.own y hy).2, cloFrom_nil fun y hy => (S.own y hy).2]
  refine wpAny_GeneratorExp_make S.co hcl (fun y hy => (S.own y hy).1) S.dot S.kind (by have := hr.dp; omega) (thn (hi.run pins s σ H _ I h) fun xv s1 hx => thn hx fun itv s2 h2 => ?_) hs
  obtain ⟨it, fp, tn, J, H1, e, I2, T, st2, f2, ⟨ps, hP, ht⟩, q1⟩ := h2
  subst e
  have hPs : s2.heap.get? P = some { cls := .none, data := .fields ps } := I2.hok P _ hP
  have cd : PySem.W.CodeHd s2.heap c P := TB.code.keeps fun b u e => I2.bk b u e
  have nfp : ∀ b ∈ fp, b ≠ P := fun b hb z => by
    have := (f2 b hb).1
    rw [z, hP] at this
    cases this
  have szf : ∀ b ∈ fp, b < s2.heap.objs.size := fun b hb => by
    obtain ⟨o, e, _⟩ := T.obj _ _ st2 b hb
    exact Heap.lt_size e
  have cont : ∀ (code : Value) (h3 : Heap) (tk : Nat) (ps' : Array Value), Heap.ExtBut P s2.heap h3 → s2.heap.objs.size ≤ h3.objs.size → h3.get? P = some { cls := .none, data := .fields ps' } → (∃ more, ps' = ps ++ more) → TriplesOk ps'.toList →
      wpAny (model X.prog X.w) X.A (builtinsFor X.env.globals X.env.builtins) (fun bi s4 =>
        ∀ h', h'.Ns s4.heap.objs.size (fun y => if y = ".0" then some (.ref it) else none) → Heap.SameBut s4.heap.objs.size (s4.heap.push { cls := .type "frame", data := .dict #[] }) h' →
          Q' (.ref h'.objs.size) { s4 with
            gens := s4.gens.push (.fresh (.compStart (.GeneratorExp elt [⟨tg, iter, ifs, 0⟩] scope gpos) 0 (.ref it) .none (genEnv scope [] s4.heap.objs.size code bi X.env))),
            toks := s4.toks + 1 + 1 + 1,
            heap := h'.push { cls := .type "generator", data := .fields #[.int s4.gens.size 0, .str "<genexpr>" (s4.toks + 1), .str (X.env.qual ++ "<genexpr>") (s4.toks + 1 + 1)] } }) X.xe { s2 with heap := h3, toks := tk } := by
    intro code h3 tk ps' hx hsz hP3 hmore ht3
    obtain ⟨bm, ob, e1, e2, e3, e4, e5, e6, e7, e8⟩ := TB.bm
    obtain ⟨more, rfl⟩ := hmore
    have I3 : Inv X pins σ (upd H1 P (.tbl (ps ++ more))) { s2 with heap := h3, toks := tk } := GxR.inv_tab (more := more) (g' := s2.gens) (d' := s2.drawn) I2 hP (fun b u hb e => hx b u hb e) hP3 I2.bare
    have tab : GxR.Tabbed P H1 (upd H1 P (.tbl (ps ++ more))) := ⟨⟨_, upd_same, ht3⟩, fun b hb => upd_ne hb⟩
    have st3 : tn 0 h3 := T.keep _ _ _ st2 fun b hb o e => hx b o (nfp b hb) e
    have f3 : ∀ b ∈ fp, FpOk X pins (upd H1 P (.tbl (ps ++ more))) b ∧ b < h3.objs.size := fun b hb =>
      ⟨⟨by rw [upd_ne (nfp b hb)]; exact (f2 b hb).1, (f2 b hb).2⟩, Nat.lt_of_lt_of_le (szf b hb) hsz⟩
    refine wpAny_builtinsFor (m := X.mg) (by rw [I3.ok.glob]; exact I3.mod.glob.keeps I3.bk) e1 e2 (I3.bk _ _ e5) e6 e7 e8 ?_
    intro h' hns hsb
    have hsz' : h'.objs.size = h3.objs.size + 1 := by rw [hsb.1, Heap.size_push]
    have keep' : ∀ b o, h3.get? b = some o → h'.get? b = some o := fun b o e => hsb.extBut b o (Nat.ne_of_lt (Heap.lt_size e)) (Heap.get?_push_of_some _ e)
    have main : ∀ (go : Obj), go.cls = .type "generator" → (∃ nm qn, go.data = .fields #[.int s2.gens.size 0, nm, qn]) → go.slots = #[] → (∀ h : Heap, (h.push go).get? h.objs.size = some go) → ∀ t',
        Q' (.ref h'.objs.size) { s2 with heap := h'.push go, toks := t', gens := s2.gens.push (.fresh (.compStart (.GeneratorExp elt [⟨tg, iter, ifs, 0⟩] scope gpos) 0 (.ref it) .none (genEnv scope [] h3.objs.size code builtinsNs X.env))) } := by
      intro go gc ⟨nm, qn, gd⟩ gsl gp t'
      have hgp := gp h'
      rw [hsz'] at hgp ⊢
      have keep5 : ∀ b o, h3.get? b = some o → (h'.push go).get? b = some o := fun b o e => Heap.get?_push_of_some _ (keep' b o e)
      refine hQ J H1 (upd H1 P (.tbl (ps ++ more))) { s2 with heap := h3, toks := tk } _ code fp it tn go s2.gens.size q1 tab I3 f3 T (T.keep _ _ _ st3 fun b _ o e => keep5 b o e) (fun A N hA hf => ?_) (fun h e => ⟨go, nm, qn, e, gc, gd, gsl⟩) (Array.getElem?_push_size ..)
      exact ge_start (s := { s2 with heap := h3, toks := tk }) I3 S hA hf f3 (I2.bare.push rfl) (hns.push _) keep5 hgp (fun v z => by rw [gd] at z; cases z)
    exact main _ rfl ⟨_, _, rfl⟩ rfl (fun h => Heap.get?_push_size _ rfl) _
  refine ⟨I2.nolimit, ?_⟩
  cases hf : codeAmong gpos ps.toList with
  | none =>
    refine wpAny_genexprCodeX hcode (cd.code hPs ht) (cd.tab hPs) hf fun c' h' tk hx hge hlt hco' _ htab' _ => ?_
    obtain ⟨o1, vs, f1, tf, fl, tg', inF, tx, tt, op, _, _, _, _, _, _, _, _, _, htr, _⟩ := hco'
    exact cont _ h' tk _ hx (Nat.le_trans hge (Nat.le_of_lt hlt)) htab'.2 ⟨_, rfl⟩ htr
  | some cv =>
    refine wpAny_genexprCode_hit hcode (cd.code hPs ht) hf ?_
    exact cont cv s2.heap s2.toks ps (Heap.ExtBut.refl _ _) (Nat.le_refl _) hPs ⟨#[], by simp⟩ ht

/-! ### all and any of one -/
def tGen (P : Addr) (n0 : Nat) (wi : TI) (g : TG) (tt : TT) (te : TE) (Out : (Bool → Hp → Prop) → Unit → V → Hp → (Unit → Hp → Prop) → Prop) (fin : Bool) : TE := fun σ H Q => wi σ H fun J H1 => GxR.TabG H1 P ∧ ∀ H2, GxR.Tabbed P H1 H2 →
  ∃ W : Unit → Nat → Nat → Hp → Prop, (∃ m, W () 0 m H2) ∧ TurnOf J n0 g tt te (Out fun b H => Q (.bl b) H) (fun _ H => Q (.bl fin) H) W
theorem pe_allG {N : List Str} {c P : Addr} {elt tg iter : Expr} {ifs : List Expr} {p pos gpos : Pos} {scope : Scope} {wi : TI} {g : TG} {tt : TT} {te : TE} {k : Nat}
    (hr : Room (k + 1) X.A) (hgl : Gl X "all") (hm : X.mg "all" = none) (TB : GxR.TabB X.base X.mg c P) (hcode : X.env.code = .ref c) (S : GSc scope) (hi : PI X tg iter wi)
    (hg : ∀ (A : Around) (s : Shared) (H : Hp) (C : Addr) (code : Value) (fp : List Addr) (pn : List (Addr × Obj)), Room k (A.deeper (ce X scope C code)) → PG (gx X A N s H (ce X scope C code) fp pn) tg g)
    (ht : ∀ (A : Around) (s : Shared) (H : Hp) (C : Addr) (code : Value) (fp : List Addr) (pn : List (Addr × Obj)), Room k (A.deeper (ce X scope C code)) → PTs (gx X A N s H (ce X scope C code) fp pn) ifs tt)
    (he : ∀ (A : Around) (s : Shared) (H : Hp) (C : Addr) (code : Value) (fp : List Addr) (pn : List (Addr × Obj)), Room k (A.deeper (ce X scope C code)) → PE (gx X A N s H (ce X scope C code) fp pn) elt te)
    (hs : ∀ v, genFold iter X.env v = pure v := by intro _; rfl)
    (hb : bootBuiltins "all" = some (.builtin "all") := by decide +kernel)
    (hst : starEach [.GeneratorExp elt [⟨tg, iter, ifs, 0⟩] scope gpos] X.env = (false, eval (.GeneratorExp elt [⟨tg, iter, ifs, 0⟩] scope gpos) X.env) :: starEach [] X.env := by rfl) :
    PE X (.Call (.Name "all" p) [.GeneratorExp elt [⟨tg, iter, ifs, 0⟩] scope gpos] [] pos) (tGen P N.length wi g tt te outAll true) := by
  refine ⟨fun pins s σ H Q I h => ?_⟩
  refine wpAny_Call_Name_kw (ld_blt I hgl hm hb ?_)
  refine PyProof.Rows.callWith_builtin1 ?_ hst (by rfl)
  rw [hst]
  show wpAny _ _ (spliced ((false, eval (.GeneratorExp elt [⟨tg, iter, ifs, 0⟩] scope gpos) X.env) :: backTo pos (starEach [] X.env))) _ _ s
  refine Calls.spliced_cons (gen_make hr TB hcode S hi hs I h fun J H1 H2 s4 s5 code fp it tn go gn hR tab I4 f4 T st5 mk hgo hgs => ?_)
  refine Calls.spliced_nil ?_
  obtain ⟨W, ⟨m0, w0⟩, turn⟩ := hR H2 tab
  have rY := room3 hr (ce X scope s4.heap.objs.size code)
  have I5 := mk X.A.in1.in1 N hr.hd I.ok.frames
  generalize hpn : [(s4.heap.objs.size + 1, go)] = pn at I5
  have hpm : (s4.heap.objs.size + 1, go) ∈ pn := by rw [← hpn]; exact List.mem_singleton.mpr rfl
  have hpf : ∀ p ∈ pn, p.1 ∉ fp := fun p hp z => by
    rw [← hpn] at hp
    rw [List.mem_singleton.mp hp] at z
    exact absurd (f4 _ z).2 (Nat.not_lt.mpr (Nat.le_succ _))
  have gi0 : GI (gx X X.A.in1.in1 N s4 H2 (ce X scope s4.heap.objs.size code) fp pn) conU fp tn () 0 H2 s5 := ⟨I5, trivial, st5, fun b hb => (f4 b hb).1.1⟩
  have isg := hgo _ (I5.pin _ (List.mem_append_left _ hpm)).1
  refine call_function_tree F.kind_all F.plain_all F.entry_all (F.args_all1 _) ?_
  unfold Builtin.«all»
  refine wpAny_bind (m := oneArg "all" _) (wpAny_pure ?_)
  refine wpAny_bind (wpAny_pyIter_gen isg ?_)
  refine wpAny_pure ⟨plainId_quiet F.plain_all_loop _, ?_⟩
  refine all_loop (Y := gx X X.A.in1.in1 N s4 H2 (ce X scope s4.heap.objs.size code) fp pn) (A := X.A) (g := gn) (QB := fun b H => Q (.bl b) H) hr.hd hr.depth hpm hgo (fun b s' H' I' q => ?_) (m0 + 1) 0 H2 (fun a H => W a 0 m0 H) s5 _ hgs gi0 w0 (fun a' s'' gi' w' => ?_)
  · exact ⟨.bl b, H', ge_back I4 f4 I', rfl, q⟩
  · exact ⟨rfl, seg_start (Y := gx X X.A.in1.in1 N s4 H2 (ce X scope s4.heap.objs.size code) fp pn) conU_ok rfl T (hg _ _ _ _ _ _ _ rY) (ht _ _ _ _ _ _ _ rY) (he _ _ _ _ _ _ _ rY) rfl (fun b hb => hb) (fun b hb => nomatch hb) hpf rfl S.co turn m0 a' (m0 + 1) H2 s'' (Nat.lt_succ_self _) w' gi'⟩
theorem pe_anyG {N : List Str} {c P : Addr} {elt tg iter : Expr} {ifs : List Expr} {p pos gpos : Pos} {scope : Scope} {wi : TI} {g : TG} {tt : TT} {te : TE} {k : Nat}
    (hr : Room (k + 1) X.A) (hgl : Gl X "any") (hm : X.mg "any" = none) (TB : GxR.TabB X.base X.mg c P) (hcode : X.env.code = .ref c) (S : GSc scope) (hi : PI X tg iter wi)
    (hg : ∀ (A : Around) (s : Shared) (H : Hp) (C : Addr) (code : Value) (fp : List Addr) (pn : List (Addr × Obj)), Room k (A.deeper (ce X scope C code)) → PG (gx X A N s H (ce X scope C code) fp pn) tg g)
    (ht : ∀ (A : Around) (s : Shared) (H : Hp) (C : Addr) (code : Value) (fp : List Addr) (pn : List (Addr × Obj)), Room k (A.deeper (ce X scope C code)) → PTs (gx X A N s H (ce X scope C code) fp pn) ifs tt)
    (he : ∀ (A : Around) (s : Shared) (H : Hp) (C : Addr) (code : Value) (fp : List Addr) (pn : List (Addr × Obj)), Room k (A.deeper (ce X scope C code)) → PE (gx X A N s H (ce X scope C code) fp pn) elt te)
    (hs : ∀ v, genFold iter X.env v = pure v := by intro _; rfl)
    (hst : starEach [.GeneratorExp elt [⟨tg, iter, ifs, 0⟩] scope gpos] X.env = (false, eval (.GeneratorExp elt [⟨tg, iter, ifs, 0⟩] scope gpos) X.env) :: starEach [] X.env := by rfl) :
    PE X (.Call (.Name "any" p) [.GeneratorExp elt [⟨tg, iter, ifs, 0⟩] scope gpos] [] pos) (tGen P N.length wi g tt te outAny false) := by
  refine ⟨fun pins s σ H Q I h => ?_⟩
  refine wpAny_Call_Name_kw (ld_blt I hgl hm boot_any ?_)
  refine PyProof.Rows.callWith_builtin1 ?_ hst (by rfl)
  rw [hst]
  show wpAny _ _ (spliced ((false, eval (.GeneratorExp elt [⟨tg, iter, ifs, 0⟩] scope gpos) X.env) :: backTo pos (starEach [] X.env))) _ _ s
  refine Calls.spliced_cons (gen_make hr TB hcode S hi hs I h fun J H1 H2 s4 s5 code fp it tn go gn hR tab I4 f4 T st5 mk hgo hgs => ?_)
  refine Calls.spliced_nil ?_
  obtain ⟨W, ⟨m0, w0⟩, turn⟩ := hR H2 tab
  have rY := room3 hr (ce X scope s4.heap.objs.size code)
  have I5 := mk X.A.in1.in1 N hr.hd I.ok.frames
  generalize hpn : [(s4.heap.objs.size + 1, go)] = pn at I5
  have hpm : (s4.heap.objs.size + 1, go) ∈ pn := by rw [← hpn]; exact List.mem_singleton.mpr rfl
  have hpf : ∀ p ∈ pn, p.1 ∉ fp := fun p hp z => by
    rw [← hpn] at hp
    rw [List.mem_singleton.mp hp] at z
    exact absurd (f4 _ z).2 (Nat.not_lt.mpr (Nat.le_succ _))
  have gi0 : GI (gx X X.A.in1.in1 N s4 H2 (ce X scope s4.heap.objs.size code) fp pn) conU fp tn () 0 H2 s5 := ⟨I5, trivial, st5, fun b hb => (f4 b hb).1.1⟩
  have isg := hgo _ (I5.pin _ (List.mem_append_left _ hpm)).1
  refine call_function_tree F.kind_any F.plain_any F.entry_any (F.args_any1 _) ?_
  unfold Builtin.«any»
  refine wpAny_bind (m := oneArg "any" _) (wpAny_pure ?_)
  refine wpAny_bind (wpAny_pyIter_gen isg ?_)
  refine wpAny_pure ⟨plainId_quiet F.plain_any_loop _, ?_⟩
  refine any_loop (Y := gx X X.A.in1.in1 N s4 H2 (ce X scope s4.heap.objs.size code) fp pn) (A := X.A) (g := gn) (QB := fun b H => Q (.bl b) H) hr.hd hr.depth hpm hgo (fun b s' H' I' q => ?_) (m0 + 1) 0 H2 (fun a H => W a 0 m0 H) s5 _ hgs gi0 w0 (fun a' s'' gi' w' => ?_)
  · exact ⟨.bl b, H', ge_back I4 f4 I', rfl, q⟩
  · exact ⟨rfl, seg_start (Y := gx X X.A.in1.in1 N s4 H2 (ce X scope s4.heap.objs.size code) fp pn) conU_ok rfl T (hg _ _ _ _ _ _ _ rY) (ht _ _ _ _ _ _ _ rY) (he _ _ _ _ _ _ _ rY) rfl (fun b hb => hb) (fun b hb => nomatch hb) hpf rfl S.co turn m0 a' (m0 + 1) H2 s'' (Nat.lt_succ_self _) w' gi'⟩

/-! ### sum of one -/
def sumObj (a : Int) (t : Tok) (c : Nat) : Obj := { cls := .type "list", dict := none, data := .seq #[.int a t] c, slots := #[] }
def conS (S : Addr) : Con Int := ⟨[S], fun a h => ∃ t c, h.get? S = some (sumObj a t c)⟩
theorem conS_ok (S : Addr) : ConOk (conS S) :=
  ⟨(fun a h ⟨t, c, e⟩ b hb => by
      rw [List.mem_singleton.mp hb]
      exact ⟨_, e, fun v z => by cases z⟩),
   (fun a h h' ⟨t, c, e⟩ k => ⟨t, c, k S (List.mem_singleton.mpr rfl) _ e⟩),
   (fun a b h ⟨t, c, e⟩ ⟨t', c', e'⟩ => by
      rw [e] at e'
      have z : Data.seq #[Value.int a t] c = Data.seq #[Value.int b t'] c' := congrArg Obj.data (Option.some.inj e')
      injection z with z1 _
      have z2 : [Value.int a t] = [Value.int b t'] := congrArg Array.toList z1
      injection z2 with z3 _
      injection z3)⟩
def outSum : Int → V → Hp → (Int → Hp → Prop) → Prop := fun a y H Nx => ∃ v, y = .int v ∧ Nx (a + v) H
structure ApS (Y : Cx) (S : Addr) : Prop where
  young : Y.s_0.heap.objs.size ≤ S
  loc : S ≠ Y.env.locals
  cell : ∀ x c, Y.env.cells.lookup x = some c → c ≠ S
  pn : ∀ p ∈ Y.pn, p.1 ≠ S
theorem gi_upd {Y : Cx} {fpI : List Addr} {tn : Nat → Heap → Prop} {S : Addr} {a v : Int} {i : Nat} {H : Hp} {s : Shared} {tk : Nat} {h' : Heap} {t : Tok} {c : Nat} (hSf : S ∉ fpI) (ap : ApS Y S) (keepT : ∀ i h h', tn i h → (∀ b ∈ fpI, ∀ o, h.get? b = some o → h'.get? b = some o) → tn i h')
    (gi : GI Y (conS S) fpI tn a i H s) (hk : ∀ b o, b ≠ S → s.heap.get? b = some o → h'.get? b = some o) (hS : h'.get? S = some (sumObj v t c)) : GI Y (conS S) fpI tn v i H { s with heap := h', toks := tk } := by
  obtain ⟨I, ⟨t0, c0, e0⟩, st, hn⟩ := gi
  obtain ⟨_, p2, p3, p4, _⟩ := I.pin (S, sumObj a t0 c0) (List.mem_append_right _ (mem_pinsAt (List.mem_singleton.mpr rfl) e0))
  have I0 : Inv Y [] (nones Y.N.length) H s := I.pins_of fun p hp => by cases hp
  have I1 : Inv Y [] (nones Y.N.length) H { s with heap := h', toks := tk } := I0.turned (it := S) (fun b o hb e => hk b o hb e) p2 p3 (.inr ap.young) ap.cell fun p hp => (List.mem_append.mp hp).elim (fun z => ap.pn p z) fun z => by cases z
  refine ⟨I1.pins_of fun p hp => ?_, ⟨t, c, hS⟩, keepT _ _ _ st fun b hb o e => hk b o (fun z => hSf (z ▸ hb)) e, hn⟩
  obtain ⟨hb, e⟩ := of_pinsAt hp
  have eS : p.1 = S := List.mem_singleton.mp hb
  rw [eS] at e ⊢
  have e' : h'.get? S = some p.2 := e
  rw [hS] at e'
  refine ⟨e, p2, p3, p4, fun v z => ?_⟩
  rw [← Option.some.inj e'] at z
  cases z
theorem sum_loop {Y : Cx} {fpI : List Addr} {tn : Nat → Heap → Prop} {A : Around} {ga : Addr} {go : Obj} {g : Nat} {S : Addr} {QI : Int → Hp → Prop} {R : Result → Shared → Prop} (hSf : S ∉ fpI) (ap : ApS Y S) (keepT : ∀ i h h', tn i h → (∀ b ∈ fpI, ∀ o, h.get? b = some o → h'.get? b = some o) → tn i h')
    (hh : A.handled = none) (hd : A.depth < recursionLimit) (hpn : (ga, go) ∈ Y.pn) (hgo : ∀ h : Heap, h.get? ga = some go → h.IsGen ga g)
    (hR : ∀ a t' s' H', Inv Y [] (nones Y.N.length) H' s' → QI a H' → R (.ok (.ret (.int a t'))) s') :
    ∀ (n i : Nat) (H : Hp) (Nx : Int → Hp → Prop) (s : Shared) (gs : GenState) (a : Int) (t : Tok) (c : Nat) (st : Int), (st = 0 ∨ st = 2) → s.gens[g]? = some gs → GI Y (conS S) fpI tn a i H s → s.heap.get? S = some (sumObj a t c) → Nx a H →
      (∀ a' s'', GI Y (conS S) fpI tn a' i H s'' → Nx a' H → gs.Goes (model Y.prog Y.w) A.in1.in1 (GRr Y (conS S) QI) (GP Y (conS S) fpI tn outSum) n (.send .none) s'') →
      codeAny (model Y.prog Y.w) A (.builtin "sum.loop" ⟨[.ref ga, .ref S, rawInt st, rawInt 0], []⟩) R s := by
  -- what a turn comes to, the loop going on or not
  have turn : ∀ (n i : Nat) (H : Hp) (Nx : Int → Hp → Prop) (s : Shared) (gs : GenState) (a : Int) (t : Tok) (c : Nat) (st : Int), (st = 0 ∨ st = 2) → s.gens[g]? = some gs → GI Y (conS S) fpI tn a i H s → s.heap.get? S = some (sumObj a t c) → Nx a H →
      (∀ a' s'', GI Y (conS S) fpI tn a' i H s'' → Nx a' H → gs.Goes (model Y.prog Y.w) A.in1.in1 (GRr Y (conS S) QI) (GP Y (conS S) fpI tn outSum) n (.send .none) s'') →
      (∀ (i1 : Nat) (H1 : Hp) (Nx1 : Int → Hp → Prop) (s1 : Shared) (gs1 : GenState) (b : Int) (t1 : Tok) (c1 : Nat) (st1 : Int), (st1 = 0 ∨ st1 = 2) → s1.gens[g]? = some gs1 → GI Y (conS S) fpI tn b i1 H1 s1 → s1.heap.get? S = some (sumObj b t1 c1) → Nx1 b H1 →
        GoOn (model Y.prog Y.w) A.in1.in1 (GRr Y (conS S) QI) (GP Y (conS S) fpI tn outSum) (fun a' s'' => GI Y (conS S) fpI tn a' i1 H1 s'') (fun a' => Nx1 a' H1) gs1 n →
        codeAny (model Y.prog Y.w) A (.builtin "sum.loop" ⟨[.ref ga, .ref S, rawInt st1, rawInt 0], []⟩) R s1) →
      codeAny (model Y.prog Y.w) A (.builtin "sum.loop" ⟨[.ref ga, .ref S, rawInt st, rawInt 0], []⟩) R s := by
    intro n i H Nx s gs a t c st hst2 hgs gi hS hN goes again
    refine codeAny_builtin F.entry_sum_loop ?_
    rw [Around.under_plainId F.plain_sum_loop _]
    show wpAny _ A.in1 (seqItems? (.ref S) >>= _) _ _ s
    refine wpAny_bind (wpAny_seqItems hS rfl ?_)
    show wpAny _ A.in1 (tryCatch (pyNext (.ref ga)) _ >>= _) _ _ s
    refine wpAny_bind (wpAny_tryCatch (next_ge (A := A.in1) (conS_ok S) hh hd hpn hgo hgs gi hN goes (fun i1 H1 y v Nx1 s1 gs1 rv gi1 o1 hg1 go1 => ?_) (fun H1 s1 I1 _ fin => ?_)))
    · obtain ⟨v', rfl, hc⟩ := o1
      obtain ⟨t', rfl⟩ := (show ∃ t', v = Value.int v' t' from rv)
      obtain ⟨tS, cS, hS'⟩ := gi1.2.1
      rcases hst2 with rfl | rfl
      · show wpAny _ A.in1 (if (_ : Bool) = true then (mkInt (a + v') >>= _) else _) _ _ _
        split
        · refine wpAny_bind (wpAny_mkInt ?_)
          show wpAny _ A.in1 (updateSeq S (fun _ => #[.int (a + v') s1.toks]) >>= _) _ _ _
          refine wpAny_bind ?_
          refine wpAny_updateSeq hS' rfl (wpAny_pure ⟨plainId_quiet F.plain_sum_loop _, ?_⟩)
          refine again i1 H1 Nx1 _ gs1 (a + v') s1.toks _ 0 (.inl rfl) hg1 (gi_upd (t := s1.toks) (s := s1) hSf ap keepT gi1 (fun b o hb e => (Heap.get?_update_other _ _ (Ne.symm hb)).trans e) (Heap.get?_update_self _ hS' rfl)) (Heap.get?_update_self _ hS' rfl) hc go1
        · refine wpAny_bind (wpAny_rule ?_)
          refine wpAny_bind (wpAny_attempt (wpAny_holding (wpAny_add_int ?_)))
          show wpAny _ A.in1 (updateSeq S (fun _ => #[.int (a + v') s1.toks]) >>= _) _ _ _
          refine wpAny_bind (wpAny_updateSeq hS' rfl ?_)
          have hS₂ := Heap.get?_update_self (Obj.mapSeq fun _ => #[Value.int (a + v') s1.toks]) hS' rfl
          refine wpAny_bind (wpAny_letGo ?_)
          refine wpAny_bind (wpAny_updateSeq hS₂ rfl (wpAny_pure ⟨plainId_quiet F.plain_sum_loop _, ?_⟩))
          refine again i1 H1 Nx1 _ gs1 (a + v') s1.toks _ 2 (.inr rfl) hg1 (gi_upd (t := s1.toks) (s := s1) hSf ap keepT gi1 (fun b o hb e => (Heap.get?_update_other _ _ (Ne.symm hb)).trans ((Heap.get?_update_other _ _ (Ne.symm hb)).trans e)) (Heap.get?_update_self _ hS₂ rfl)) (Heap.get?_update_self _ hS₂ rfl) hc go1
      · show wpAny _ A.in1 ((holding [Value.int v' t'] (binaryOp .Add (.int a t) (.int v' t'))).attempt >>= _) _ _ _
        refine wpAny_bind (wpAny_attempt (wpAny_holding (wpAny_add_int ?_)))
        show wpAny _ A.in1 (updateSeq S (fun _ => #[.int (a + v') s1.toks]) >>= _) _ _ _
        refine wpAny_bind (wpAny_updateSeq hS' rfl ?_)
        have hS₂ := Heap.get?_update_self (Obj.mapSeq fun _ => #[Value.int (a + v') s1.toks]) hS' rfl
        refine wpAny_bind (wpAny_letGo ?_)
        refine wpAny_bind (wpAny_updateSeq hS₂ rfl (wpAny_pure ⟨plainId_quiet F.plain_sum_loop _, ?_⟩))
        refine again i1 H1 Nx1 _ gs1 (a + v') s1.toks _ 2 (.inr rfl) hg1 (gi_upd (t := s1.toks) (s := s1) hSf ap keepT gi1 (fun b o hb e => (Heap.get?_update_other _ _ (Ne.symm hb)).trans ((Heap.get?_update_other _ _ (Ne.symm hb)).trans e)) (Heap.get?_update_self _ hS₂ rfl)) (Heap.get?_update_self _ hS₂ rfl) hc go1
    · exact wpAny_pure (hR a t s1 H1 (I1.pins_of fun p hp => by cases hp) fin)
  intro n
  induction n with
  | zero => exact fun i H Nx s gs a t c st h1 h2 h3 h4 h5 h6 => turn 0 i H Nx s gs a t c st h1 h2 h3 h4 h5 h6 fun i1 H1 Nx1 s1 gs1 b t1 c1 st1 _ _ g1 _ g3 g4 => (g4 b s1 g1 g3).elim
  | succ n ih => exact fun i H Nx s gs a t c st h1 h2 h3 h4 h5 h6 => turn (n + 1) i H Nx s gs a t c st h1 h2 h3 h4 h5 h6 fun i1 H1 Nx1 s1 gs1 b t1 c1 st1 g0 g1 g2 g3 g4 g5 => ih i1 H1 Nx1 s1 gs1 b t1 c1 st1 g0 g1 g2 g3 g4 g5
def tSumG (P : Addr) (n0 : Nat) (wi : TI) (g : TG) (tt : TT) (te : TE) : TE := fun σ H Q => wi σ H fun J H1 => GxR.TabG H1 P ∧ ∀ H2, GxR.Tabbed P H1 H2 →
  ∃ W : Int → Nat → Nat → Hp → Prop, (∃ m, W 0 0 m H2) ∧ TurnOf J n0 g tt te outSum (fun a H => Q (.int a) H) W
theorem pe_sumG {N : List Str} {c P : Addr} {elt tg iter : Expr} {ifs : List Expr} {p pos gpos : Pos} {scope : Scope} {wi : TI} {g : TG} {tt : TT} {te : TE} {k : Nat}
    (hr : Room (k + 1) X.A) (hgl : Gl X "sum") (hm : X.mg "sum" = none) (TB : GxR.TabB X.base X.mg c P) (hcode : X.env.code = .ref c) (S : GSc scope) (hi : PI X tg iter wi)
    (hg : ∀ (A : Around) (s : Shared) (H : Hp) (C : Addr) (code : Value) (fp : List Addr) (pn : List (Addr × Obj)), Room k (A.deeper (ce X scope C code)) → PG (gx X A N s H (ce X scope C code) fp pn) tg g)
    (ht : ∀ (A : Around) (s : Shared) (H : Hp) (C : Addr) (code : Value) (fp : List Addr) (pn : List (Addr × Obj)), Room k (A.deeper (ce X scope C code)) → PTs (gx X A N s H (ce X scope C code) fp pn) ifs tt)
    (he : ∀ (A : Around) (s : Shared) (H : Hp) (C : Addr) (code : Value) (fp : List Addr) (pn : List (Addr × Obj)), Room k (A.deeper (ce X scope C code)) → PE (gx X A N s H (ce X scope C code) fp pn) elt te)
    (hs : ∀ v, genFold iter X.env v = pure v := by intro _; rfl)
    (hb : bootBuiltins "sum" = some (.builtin "sum") := by decide +kernel)
    (hst : starEach [.GeneratorExp elt [⟨tg, iter, ifs, 0⟩] scope gpos] X.env = (false, eval (.GeneratorExp elt [⟨tg, iter, ifs, 0⟩] scope gpos) X.env) :: starEach [] X.env := by rfl) :
    PE X (.Call (.Name "sum" p) [.GeneratorExp elt [⟨tg, iter, ifs, 0⟩] scope gpos] [] pos) (tSumG P N.length wi g tt te) := by
  refine ⟨fun pins s σ H Q I h => ?_⟩
  refine wpAny_Call_Name_kw (ld_blt I hgl hm hb ?_)
  refine PyProof.Rows.callWith_builtin1 ?_ hst (by rfl)
  rw [hst]
  show wpAny _ _ (spliced ((false, eval (.GeneratorExp elt [⟨tg, iter, ifs, 0⟩] scope gpos) X.env) :: backTo pos (starEach [] X.env))) _ _ s
  refine Calls.spliced_cons (gen_make hr TB hcode S hi hs I h fun J H1 H2 s4 s5 code fp it tn go gn hR tab I4 f4 T st5 mk hgo hgs => ?_)
  refine Calls.spliced_nil ?_
  obtain ⟨W, ⟨m0, w0⟩, turn⟩ := hR H2 tab
  have rY := room3 hr (ce X scope s4.heap.objs.size code)
  have I5 := mk X.A.in1.in1 N hr.hd I.ok.frames
  generalize hpn : [(s4.heap.objs.size + 1, go)] = pn at I5
  have hpm : (s4.heap.objs.size + 1, go) ∈ pn := by rw [← hpn]; exact List.mem_singleton.mpr rfl
  have hpf : ∀ p ∈ pn, p.1 ∉ fp := fun p hp z => by
    rw [← hpn] at hp
    rw [List.mem_singleton.mp hp] at z
    exact absurd (f4 _ z).2 (Nat.not_lt.mpr (Nat.le_succ _))
  have isg := hgo _ (I5.pin _ (List.mem_append_left _ hpm)).1
  have fpl : ∀ b ∈ fp, b < s5.heap.objs.size := fun b hb => Nat.lt_of_lt_of_le (f4 b hb).2 I5.sz
  refine call_function_tree F.kind_sum F.plain_sum F.entry_sum (F.args_sum1 _) ?_
  unfold Builtin.«sum»
  simp only [List.length_cons, List.length_nil]
  rw [if_neg (by decide)]
  refine wpAny_bind (wpAny_of_eq (show Builtin.Builtins.bindParams "sum" ["start"] 0 { } = pure [none] from rfl) ?_)
  refine wpAny_bind (wpAny_pyIter_gen isg ?_)
  refine wpAny_bind (wpAny_mkInt ?_)
  refine wpAny_bind (wpAny_pure ?_)
  simp only [List.forIn_cons, List.forIn_nil]
  refine wpAny_bind (wpAny_bind (wpAny_bind (wpAny_isInstance (T := "int") (b := false) (typeIs_int _ _ _) PySem.sub_int_str ?_)))
  simp only [Bool.false_eq_true, if_false]
  refine wpAny_pure (wpAny_bind (wpAny_bind (wpAny_isInstance (T := "int") (b := false) (typeIs_int _ _ _) PySem.sub_int_bytes ?_)))
  simp only [Bool.false_eq_true, if_false]
  refine wpAny_pure (wpAny_bind (wpAny_bind (wpAny_isInstance (T := "int") (b := false) (typeIs_int _ _ _) PySem.sub_int_bytearray ?_)))
  simp only [Bool.false_eq_true, if_false]
  refine wpAny_pure (wpAny_pure ?_)
  refine wpAny_bind (wpAny_newObj_type ?_)
  refine wpAny_pure ⟨plainId_quiet F.plain_sum_loop _, ?_⟩
  have hSf : s5.heap.objs.size ∉ fp := fun hm => Nat.lt_irrefl _ (fpl _ hm)
  have hget : (s5.heap.push (sumObj 0 s5.toks 0)).get? s5.heap.objs.size = some (sumObj 0 s5.toks 0) := Heap.get?_push_size _ rfl
  have I6 : Inv (gx X X.A.in1.in1 N s4 H2 (ce X scope s4.heap.objs.size code) fp pn) [] (nones N.length) H2 { s5 with heap := s5.heap.push (sumObj 0 s5.toks 0), toks := s5.toks + 1 } := I5.kept fun b o e => Heap.get?_push_of_some _ e
  have gi0 : GI (gx X X.A.in1.in1 N s4 H2 (ce X scope s4.heap.objs.size code) fp pn) (conS s5.heap.objs.size) fp tn 0 0 H2 { s5 with heap := s5.heap.push (sumObj 0 s5.toks 0), toks := s5.toks + 1 } := by
    refine ⟨I6.pins_of fun p hp => ?_, ⟨s5.toks, 0, hget⟩, T.keep _ _ _ st5 fun b _ o e => Heap.get?_push_of_some _ e, fun b hb => (f4 b hb).1.1⟩
    obtain ⟨hb, e⟩ := of_pinsAt hp
    have eS : p.1 = s5.heap.objs.size := List.mem_singleton.mp hb
    rw [eS] at e ⊢
    have e' : (s5.heap.push (sumObj 0 s5.toks 0)).get? s5.heap.objs.size = some p.2 := e
    rw [hget] at e'
    refine ⟨e, I5.hok.fresh (Nat.le_refl _), Nat.ne_of_gt I5.lt, I5.nofs (Nat.le_refl _), fun v z => ?_⟩
    rw [← Option.some.inj e'] at z
    cases z
  have ap : ApS (gx X X.A.in1.in1 N s4 H2 (ce X scope s4.heap.objs.size code) fp pn) s5.heap.objs.size := ⟨I5.sz, Nat.ne_of_gt I5.lt, fun x c e => by simp [genEnv] at e, fun p hp z => by
    have := Heap.lt_size (I5.pin p (List.mem_append_left _ hp)).1
    rw [z] at this
    exact Nat.lt_irrefl _ this⟩
  refine sum_loop (Y := gx X X.A.in1.in1 N s4 H2 (ce X scope s4.heap.objs.size code) fp pn) (A := X.A) (g := gn) (QI := fun a H => Q (.int a) H) hSf ap T.keep hr.hd hr.depth hpm hgo (fun a t' s' H' I' q => ?_) (m0 + 1) 0 H2 (fun a H => W a 0 m0 H) _ _ 0 s5.toks 0 0 (.inl rfl) hgs gi0 hget w0 (fun a' s'' gi' w' => ?_)
  · exact ⟨.int a, H', ge_back I4 f4 I', ⟨_, rfl⟩, q⟩
  · exact ⟨rfl, seg_start (Y := gx X X.A.in1.in1 N s4 H2 (ce X scope s4.heap.objs.size code) fp pn) (conS_ok _) rfl T (hg _ _ _ _ _ _ _ rY) (ht _ _ _ _ _ _ _ rY) (he _ _ _ _ _ _ _ rY) rfl (fun b hb => hb) (fun b hb => by rw [List.mem_singleton.mp hb]; exact hSf) hpf rfl S.co turn m0 a' (m0 + 1) H2 s'' (Nat.lt_succ_self _) w' gi'⟩
end
end GE
set_option Elab.async false
set_option linter.all false
set_option maxRecDepth 100000
set_option maxHeartbeats 1000000
namespace CL
open PySem PySem.Spec PyProof.Rows L2 GE
/-! ### what a value is worth, as data -/
mutual
inductive Rp (H : Hp) : V → PyData → Prop
  | non : Rp H .non .none
  | bl (b : Bool) : Rp H (.bl b) (.bool b)
  | int (i : Int) : Rp H (.int i) (.int i)
  | str (x : Str) : Rp H (.str x) (.str x)
  | lst {a : Addr} {xs : List V} {ds : List PyData} : H a = some (.lst xs) → RpAll H xs ds → Rp H (.ref a) (.list ds)
  | tup {a : Addr} {xs : List V} {ds : List PyData} : H a = some (.tup xs) → RpAll H xs ds → Rp H (.ref a) (.tuple ds)
  | dct {a : Addr} : H a = some (.dK []) → Rp H (.ref a) (.dict [])
inductive RpAll (H : Hp) : List V → List PyData → Prop
  | nil : RpAll H [] []
  | cons {v : V} {vs : List V} {d : PyData} {ds : List PyData} : Rp H v d → RpAll H vs ds → RpAll H (v :: vs) (d :: ds)
end
/-- all stays but tables, which may grow -/
def Ex (H H' : Hp) : Prop := ∀ b o, H b = some o → H' b = some o ∨ ∃ ps qs, o = .tbl ps ∧ H' b = some (.tbl qs) ∧ TriplesOk qs.toList
theorem Ex.refl (H : Hp) : Ex H H := fun _ _ h => .inl h
theorem Ex.of {H H' : Hp} (s : Same H H') : Ex H H' := fun b o h => .inl (s b o h)
theorem Ex.trans {H H1 H2 : Hp} (a : Ex H H1) (b : Ex H1 H2) : Ex H H2 := fun c o h => by
  rcases a c o h with q | ⟨ps, qs, e, q⟩
  · exact b c o q
  · rcases b c _ q.1 with r | ⟨ps', qs', _, r⟩
    · exact .inr ⟨ps, qs, e, r, q.2⟩
    · exact .inr ⟨ps, qs', e, r⟩
theorem Ex.keep {H H' : Hp} (e : Ex H H') {b : Addr} {o : HO} (h : H b = some o) (n : ∀ ps, o ≠ .tbl ps) : H' b = some o := by
  rcases e b o h with q | ⟨ps, _, z, _⟩
  · exact q
  · exact absurd z (n ps)
theorem Ex.lst {H H' : Hp} (e : Ex H H') {b : Addr} {xs : List V} (h : H b = some (.lst xs)) : H' b = some (.lst xs) := e.keep h fun _ => nofun
theorem Ex.tup {H H' : Hp} (e : Ex H H') {b : Addr} {xs : List V} (h : H b = some (.tup xs)) : H' b = some (.tup xs) := e.keep h fun _ => nofun
theorem Ex.free {H H' : Hp} (e : Ex H H') {l : Addr} (h : H' l = none) : H l = none := by
  cases q : H l with
  | none => rfl
  | some o =>
    rcases e l o q with r | ⟨_, _, _, r, _⟩
    · rw [h] at r; cases r
    · rw [h] at r; cases r
theorem Ex.new {H : Hp} {p : Addr} {o : HO} (h : H p = none) : Ex H (upd H p o) := fun b x e => .inl (by rw [upd_ne (ne_of_none e h)]; exact e)
theorem same_upd {H : Hp} {p : Addr} {o : HO} (h : H p = none) : Same H (upd H p o) := fun b x e => by
  rw [upd_ne (ne_of_none e h)]
  exact e
mutual
theorem Rp.ex {H H' : Hp} (e : Ex H H') : ∀ (d : PyData) (v : V), Rp H v d → Rp H' v d
  | .none, _, h => by cases h; exact .non
  | .bool b, _, h => by cases h; exact .bl b
  | .int i, _, h => by cases h; exact .int i
  | .str x, _, h => by cases h; exact .str x
  | .list ds, _, h => by
    cases h with
    | lst h1 h2 => exact .lst (e.lst h1) (RpAll.ex e ds _ h2)
  | .tuple ds, _, h => by
    cases h with
    | tup h1 h2 => exact .tup (e.tup h1) (RpAll.ex e ds _ h2)
  | .dict _, _, h => by
    cases h with
    | dct h1 => exact .dct (e.keep h1 fun _ => nofun)
theorem RpAll.ex {H H' : Hp} (e : Ex H H') : ∀ (ds : List PyData) (vs : List V), RpAll H vs ds → RpAll H' vs ds
  | [], _, h => by cases h; exact .nil
  | d :: ds, _, h => by
    cases h with
    | cons h1 h2 => exact .cons (Rp.ex e d _ h1) (RpAll.ex e ds _ h2)
end
theorem RpAll.length {H : Hp} : ∀ {vs : List V} {ds : List PyData}, RpAll H vs ds → vs.length = ds.length
  | _, _, .nil => rfl
  | _, _, .cons _ t => congrArg (· + 1) (RpAll.length t)
theorem RpAll.get {H : Hp} : ∀ {vs : List V} {ds : List PyData} {i : Nat} {v : V}, RpAll H vs ds → vs[i]? = some v → ∃ d, ds[i]? = some d ∧ Rp H v d
  | _, _, _, _, .nil, e => by simp at e
  | _, _, 0, _, .cons r _, e => by simp at e; subst e; exact ⟨_, rfl, r⟩
  | _, _, i + 1, _, .cons _ t, e => by
    obtain ⟨d, h1, h2⟩ := RpAll.get (i := i) t (by simpa using e)
    exact ⟨d, by simpa using h1, h2⟩
theorem RpAll.take {H : Hp} : ∀ {vs : List V} {ds : List PyData} (n : Nat), RpAll H vs ds → RpAll H (vs.take n) (ds.take n)
  | _, _, 0, _ => .nil
  | _, _, _ + 1, .nil => .nil
  | _, _, n + 1, .cons r t => .cons r (RpAll.take n t)
theorem RpAll.append {H : Hp} : ∀ {vs ws : List V} {ds es : List PyData}, RpAll H vs ds → RpAll H ws es → RpAll H (vs ++ ws) (ds ++ es)
  | _, _, _, _, .nil, s => s
  | _, _, _, _, .cons r t, s => .cons r (RpAll.append t s)
/-! ### plans, as the document tells -/
def tyName : PyData → String
  | .none => "NoneType" | .bool _ => "bool" | .int _ => "int" | .str _ => "str" | .list _ => "list" | .tuple _ => "tuple" | .dict _ => "dict"
def rowsD : PyData → Option (List PyData)
  | .list xs => some xs
  | .tuple xs => some xs
  | _ => none
def isRow (d : PyData) : Bool := (rowsD d).isSome
def isWhole : PyData → Bool
  | .int _ => true
  | _ => false
def isIntB : PyData → Bool
  | .int _ => true
  | .bool _ => true
  | _ => false
def isBoolB : PyData → Bool
  | .bool _ => true
  | _ => false
def isNone : PyData → Bool
  | .none => true
  | _ => false
abbrev GREAT : Int := 1000000000000000000000000000000
def isPatience : PyData → Bool
  | .none => true
  | .int i => decide (0 ≤ i) && decide (i ≤ GREAT)
  | _ => false
def isTurns (d : PyData) : Bool := match rowsD d with
  | some ds => decide (1 ≤ ds.length) && decide (ds.length ≤ 8) && ds.all isPatience
  | none => false
def isMany : PyData → Bool
  | .none => true
  | .int i => decide (0 ≤ i)
  | _ => false
def isPiece (d : PyData) : Bool := match rowsD d with
  | some [t, m] => isTurns t && isMany m
  | _ => false
def sndD (d : PyData) : PyData := match rowsD d with
  | some [_, m] => m
  | _ => .none
def worth : PyData → Int
  | .int i => i
  | _ => 0
def sumSnd (ds : List PyData) : Int := (ds.map fun d => worth (sndD d)).sum
def isPlanL (ds : List PyData) : Bool := decide (1 ≤ ds.length) && decide (ds.length ≤ 8) && ds.all isPiece && !((ds.take (ds.length - 1)).any fun d => isNone (sndD d)) && decide (sumSnd ds ≤ GREAT)
def isPlan (d : PyData) : Bool := match rowsD d with
  | some ds => isPlanL ds
  | none => false
theorem Rp.ty {K : PySem.W.Frag} {H : Hp} {v : V} {d : PyData} (h : Rp H v d) : TyX K H v (.type (tyName d)) := by
  cases h with
  | non => exact .base .non
  | bl b => exact .base (.bl b)
  | int i => exact .base (.int i)
  | str x => exact .base (.str x)
  | lst h _ => exact .base (.lst h)
  | tup h _ => exact .base (.tup h)
  | dct h => exact .base (.dK h)
theorem kit_int {K : PySem.W.Frag} (d : PyData) : PySem.W.kitOne K (.type (tyName d)) (.type "int") = some (isIntB d) := by cases d <;> (refine kit_ty ?_; dsimp only [tyName, isIntB]; decide +kernel)
theorem kit_bool {K : PySem.W.Frag} (d : PyData) : PySem.W.kitOne K (.type (tyName d)) (.type "bool") = some (isBoolB d) := by cases d <;> (refine kit_ty ?_; dsimp only [tyName, isBoolB]; decide +kernel)
theorem kit_list {K : PySem.W.Frag} (d : PyData) : PySem.W.kitOne K (.type (tyName d)) (.type "list") = some (match d with | .list _ => true | _ => false) := by cases d <;> (refine kit_ty ?_; dsimp only [tyName]; decide +kernel)
theorem kit_tuple {K : PySem.W.Frag} (d : PyData) : PySem.W.kitOne K (.type (tyName d)) (.type "tuple") = some (match d with | .tuple _ => true | _ => false) := by cases d <;> (refine kit_ty ?_; dsimp only [tyName]; decide +kernel)
theorem kit_rows {K : PySem.W.Frag} (d : PyData) : PySem.W.kitAny K (.type (tyName d)) [.type "list", .type "tuple"] = some (isRow d) := by
  refine kitAny_cons (kit_list d) (fun h => kitAny_cons (kit_tuple d) (fun h2 => ?_) fun h2 => ?_) fun h => ?_
  · cases d <;> first | exact kitAny_nil | (simp at h; done) | (simp at h2; done)
  · cases d <;> first | rfl | (simp at h; done) | (simp at h2; done)
  · cases d <;> first | rfl | (simp at h; done)
/-- a row's things -/
theorem Rp.rows {H : Hp} {v : V} {d : PyData} {ds : List PyData} (h : Rp H v d) (e : rowsD d = some ds) : ∃ a xs, v = .ref a ∧ RpAll H xs ds ∧ (H a = some (.lst xs) ∨ H a = some (.tup xs)) := by
  cases h with
  | lst h1 h2 => cases e; exact ⟨_, _, rfl, h2, .inl h1⟩
  | tup h1 h2 => cases e; exact ⟨_, _, rfl, h2, .inr h1⟩
  | _ => cases e
/-! ### for x in a list or a tuple -/
structure StSeq (H : Hp) (a : Addr) (xs : List V) : Prop where
  or : H a = some (.lst xs) ∨ H a = some (.tup xs)
theorem StSeq.ex {H H' : Hp} {a : Addr} {xs : List V} (s : StSeq H a xs) (e : Ex H H') : StSeq H' a xs := ⟨s.or.elim (fun h => .inl (e.lst h)) fun h => .inr (e.tup h)⟩
theorem StSeq.sq {K : PySem.W.Frag} {H : Hp} {a : Addr} {xs : List V} (s : StSeq H a xs) : SqL K H a xs ∨ SqT K H a xs := s.or.elim (fun h => .inl (SqL.of h)) fun h => .inr (SqT.of h)
/-- the thing that is walked stands -/
def StandsAs (K : PySem.W.Frag) (a : Addr) (xs : List V) (J : It) (H : Hp) : Prop := (J = Itl K a ∧ SqL K H a xs) ∨ (J = Itt K a ∧ SqT K H a xs)
section
variable {X : Cx} {tg : Expr}
def iSeq (K : PySem.W.Frag) (tl : TE) : TI := fun σ H R => tl σ H fun x H1 => ∃ a xs, x = .ref a ∧ StSeq H1 a xs ∧ ∀ J, (∀ H2, Ex H1 H2 → StandsAs K a xs J H2) → R J H1
theorem pi_seq {l : Expr} {tl : TE} (hl : PE X l tl) : PI X tg l (iSeq X.K tl) := by
  refine ⟨fun pins s σ H R I h => ?_⟩
  refine thn (hl.run pins s σ H _ I h) fun v s1 ⟨x, H1, I1, r1, q1⟩ => ?_
  obtain ⟨a, xs, e, st, q⟩ := q1
  subst e
  cases r1
  have new : ∀ b ∈ [s1.heap.objs.size], FpOk X pins H1 b := fun b hb => by
    rw [List.mem_singleton.mp hb]
    exact I1.fpOk (Nat.le_refl _) (I1.hok.fresh (Nat.le_refl _))
  rcases st.or with hq | hq
  · obtain ⟨its, rv, p, hz⟩ := I1.list (SqL.of hq)
    exact wpAny_pyIter_list p.isList ⟨s1.heap.objs.size, [s1.heap.objs.size], _, _, H1, rfl, I1.kept (t' := s1.toks) fun b o e => Heap.get?_push_of_some _ e, turn_list a _, ⟨_, Heap.get?_push_size _ rfl, rfl, rfl⟩, new, q _ fun H2 e => .inl ⟨rfl, SqL.of (e.lst hq)⟩⟩
  · obtain ⟨its, rv, p, hz⟩ := I1.tuple (SqT.of hq)
    exact wpAny_pyIter_tuple (show s1.heap.IsTuple a its.toArray from p) ⟨s1.heap.objs.size, [s1.heap.objs.size], _, _, H1, rfl, I1.kept (t' := s1.toks) fun b o e => Heap.get?_push_of_some _ e, turn_tuple a _, ⟨_, Heap.get?_push_size _ rfl, rfl, rfl⟩, new, q _ fun H2 e => .inr ⟨rfl, SqT.of (e.tup hq)⟩⟩
end
theorem StandsAs.go {K : PySem.W.Frag} {a : Addr} {xs : List V} {J : It} {H : Hp} {i : Nat} {x : V} (s : StandsAs K a xs J H) (h : xs[i]? = some x) : J.go i H := by
  rcases s with ⟨rfl, q⟩ | ⟨rfl, q⟩ <;> exact ⟨xs, x, q, h⟩
theorem StandsAs.stop {K : PySem.W.Frag} {a : Addr} {xs : List V} {J : It} {H : Hp} {i : Nat} (s : StandsAs K a xs J H) (h : xs.length ≤ i) : J.stop i H := by
  rcases s with ⟨rfl, q⟩ | ⟨rfl, q⟩ <;> exact ⟨xs, q, h⟩
theorem StandsAs.yld {K : PySem.W.Frag} {a : Addr} {xs : List V} {J : It} {H H' : Hp} {i : Nat} {x : V} (s : StandsAs K a xs J H) (h : J.yld i H x H') : H' = H ∧ xs[i]? = some x := by
  rcases s with ⟨rfl, q⟩ | ⟨rfl, q⟩ <;> exact ⟨h.1, h.2 xs q⟩
theorem turn_by {α : Type} {K : PySem.W.Frag} {ad : Addr} {xs : List V} {J : It} {n0 : Nat} {g : TG} {tt : TT} {te : TE} {Out : α → V → Hp → (α → Hp → Prop) → Prop} {Fin : α → Hp → Prop} (Pv : α → Nat → Hp → Prop)
    (stands : ∀ a i H, Pv a i H → StandsAs K ad xs J H)
    (step : ∀ a i x H, xs[i]? = some x → Pv a i H → g x (nones n0) H fun σ2 H2 => tt σ2 H2 fun b H3 => if b = true then te σ2 H3 fun y H4 => Out a y H4 (fun a' H' => Pv a' (i + 1) H') else Pv a (i + 1) H3)
    (done : ∀ a H, Pv a xs.length H → Fin a H) : TurnOf J n0 g tt te Out Fin (fun a i m H => m = xs.length - i ∧ i ≤ xs.length ∧ Pv a i H) := by
  rintro a i m H ⟨rfl, hi, p⟩
  have s := stands a i H p
  by_cases hlt : i < xs.length
  · refine .inr ⟨s.go (List.getElem?_eq_getElem hlt), fun a' H' => Pv a' (i + 1) H', fun a' H' p' => ⟨xs.length - (i + 1), by omega, rfl, hlt, p'⟩, fun x H' y => ?_⟩
    obtain ⟨rfl, hx⟩ := s.yld y
    exact step a i x _ hx p
  · have e : i = xs.length := by omega
    subst e
    exact .inl ⟨s.stop (Nat.le_refl _), done a H p⟩
end CL
set_option Elab.async false
set_option linter.all false
set_option maxRecDepth 100000
set_option maxHeartbeats 1000000
namespace CL
open PySem PySem.Spec PyProof.Rows L2 GE
def topS (i : Nat) : Stmt := PySem.Challenge.pw_comersline_k48_whole_one_writing.main.body.getD i (.Pass ⟨0, 0, 0, 0⟩)
abbrev sWhole : Stmt := topS 17
abbrev sRow : Stmt := topS 18
abbrev sPat : Stmt := topS 23
abbrev sTurns : Stmt := topS 24
abbrev sPiece : Stmt := topS 25
abbrev sPlan : Stmt := topS 26
theorem scWhole : FnScope ["thing"] ["thing"] (defScope sWhole) := ⟨rfl, rfl, rfl, by decide +kernel, rfl, by decide +kernel, by decide +kernel⟩
theorem scRow : FnScope ["thing"] ["thing"] (defScope sRow) := ⟨rfl, rfl, rfl, by decide +kernel, rfl, by decide +kernel, by decide +kernel⟩
theorem scPat : FnScope ["thing"] ["thing"] (defScope sPat) := ⟨rfl, rfl, rfl, by decide +kernel, rfl, by decide +kernel, by decide +kernel⟩
theorem scTurns : FnScope ["thing"] ["thing"] (defScope sTurns) := ⟨rfl, rfl, rfl, by decide +kernel, rfl, by decide +kernel, by decide +kernel⟩
theorem scPiece : FnScope ["thing"] ["thing"] (defScope sPiece) := ⟨rfl, rfl, rfl, by decide +kernel, rfl, by decide +kernel, by decide +kernel⟩
theorem scPlan : FnScope ["thing"] ["thing"] (defScope sPlan) := ⟨rfl, rfl, rfl, by decide +kernel, rfl, by decide +kernel, by decide +kernel⟩

/-- a def whose code object is known -/
structure FunC (K : PySem.W.Frag) (x qual : Str) (st : Stmt) (f : Addr) (fd : FuncData) (c : Addr) : Prop where
  ex : ∃ (oc : Value) (od : Option Addr) (kV doc pm : Value) (an : Option Addr) (ct : Value) (osl : Array (Option Value)),
    fd = PySem.W.fnOf x qual (defArgs st) (defBody st) (defScope st) .none kV doc pm an (.ref c) ct ∧ K.lookup f = some ⟨oc, od, .func fd, osl⟩ ∧ PySem.W.codeIn K (.ref c) qual = true
  kp : PySem.W.keepIn K (.ref f) = true
theorem FunC.ok {P : Program} {w : World} {K : PySem.W.Frag} {mg : Str → Option Value} {base : Heap} {x qual : Str} {st : Stmt} {f c : Addr} {fd : FuncData} {N ps : List Str} {k : Nat} {sp : Sp} (F : FunC K x qual st f fd c) (S : FnScope N ps (defScope st)) (len : ∀ vs H Q E, sp vs H Q E → vs.length = ps.length)
    (hbody : ∀ (A : Around) (outer : List Env) (s : Shared) (H : Hp) (vs : List V) (Q : VK) (E : XK), Room k (A.deeper (envOfC qual (defScope st) s.heap.objs.size f (.ref c))) → sp vs H Q E →
      ∃ t, PSs (cxOf CX0 P w K mg base N qual (defScope st) f (.ref c) A outer s H E).nox (defBody st) t ∧ t { nx := fun _ H' => Q .non H', rt := Q } (start N vs) H) : FnOk P w K mg base CX0 (k + 1) f fd ps sp := by
  obtain ⟨oc, od, kV, doc, pm, an, ct, osl, rfl, lk, hcd⟩ := F.ex
  refine fn_of lk hcd S len fun A outer s H vs Q E hr hsp => ?_
  obtain ⟨t, h, q⟩ := hbody A outer s H vs Q E hr hsp
  exact ⟨t, h.nox, q⟩
/-- a def that may be called by its name -/
structure Cal (P : Program) (w : World) (K : PySem.W.Frag) (mg : Str → Option Value) (base : Heap) (k : Nat) (x : Str) (ps : List Str) (sp : Sp) : Prop where
  ex : ∃ f fd, mg x = some (.ref f) ∧ PySem.W.keepIn K (.ref f) = true ∧ Binds K fd ps [] ∧ FnOk P w K mg base CX0 k f fd ps sp
theorem pe_cal {X : Cx} {k : Nat} {x : Str} {ps : List Str} {sp : Sp} {p pos : Pos} {e : Expr} {es : List Expr} {t : TA} (C : Cal X.prog X.w X.K X.mg X.base k x ps sp) (hr : Room k X.A) (hg : Gl X x) (ha : PA X (e :: es) t) (hdb : (x == ("__debug__" : Str)) = false := by decide)
    (he : starEach (e :: es) X.env = (false, eval e X.env) :: starEach es X.env := by rfl) (hpl : (backTo pos (starEach es X.env)).any (·.1) = false := by rfl) : PE X (.Call (.Name x p) (e :: es) [] pos) (tCall sp [] E0 t) := by
  obtain ⟨f, fd, h1, h2, h3, h4⟩ := C.ex
  exact pe_call h4 hr hg h1 h2 h3 .nil pass0 ha hdb he hpl
theorem Cal.mono {P : Program} {w : World} {K : PySem.W.Frag} {mg : Str → Option Value} {base : Heap} {j k : Nat} {x : Str} {ps : List Str} {sp : Sp} (C : Cal P w K mg base j x ps sp) (h : j ≤ k) : Cal P w K mg base k x ps sp := by
  obtain ⟨f, fd, h1, h2, h3, h4⟩ := C.ex
  exact ⟨f, fd, h1, h2, h3, h4.mono h⟩
/-- names that are still the built-in ones, and constants -/
structure Nm (mg : Str → Option Value) : Prop where
  isi : mg "isinstance" = none
  len : mg "len" = none
  all : mg "all" = none
  any : mg "any" = none
  sum : mg "sum" = none
  int : mg "int" = none
  bool : mg "bool" = none
  list : mg "list" = none
  tuple : mg "tuple" = none
  great : ∃ t, mg "GREATEST" = some (.int GREAT t)
  longest : ∃ t, mg "LONGEST" = some (.int 8 t)
/-- the tables of the two defs that hold generator expressions -/
def Tb (P1 P2 : Addr) (H : Hp) : Prop := GxR.TabG H P1 ∧ GxR.TabG H P2
theorem tabG_same {P : Addr} {H H' : Hp} (s : Same H H') (h : GxR.TabG H P) : GxR.TabG H' P := by
  obtain ⟨ps, e, t⟩ := h
  exact ⟨ps, s _ _ e, t⟩
theorem Tb.same {P1 P2 : Addr} {H H' : Hp} (s : Same H H') (h : Tb P1 P2 H) : Tb P1 P2 H' := ⟨tabG_same s h.1, tabG_same s h.2⟩
theorem ex_tabbed {P : Addr} {H H' : Hp} (g : GxR.TabG H P) (t : GxR.Tabbed P H H') : Ex H H' := fun b o e => by
  by_cases hb : b = P
  · subst hb
    obtain ⟨ps, h1, _⟩ := g
    obtain ⟨⟨qs, h2, hq⟩, _⟩ := t
    rw [h1] at e
    cases e
    exact .inr ⟨ps, qs, rfl, h2, hq⟩
  · exact .inl (by rw [t.2 b hb]; exact e)
theorem tabG_ex {P : Addr} {H H' : Hp} (h : GxR.TabG H P) (e : Ex H H') : GxR.TabG H' P := by
  obtain ⟨ps, h1, h2⟩ := h
  rcases e P _ h1 with q | ⟨_, qs, _, q, t⟩
  · exact ⟨ps, q, h2⟩
  · exact ⟨qs, q, t⟩
theorem Tb.tab1 {P1 P2 : Addr} {H H' : Hp} (h : Tb P1 P2 H) (t : GxR.Tabbed P1 H H') : Tb P1 P2 H' := ⟨t.1, by
  by_cases hb : P2 = P1
  · rw [hb]; exact t.1
  · obtain ⟨ps, e, q⟩ := h.2
    exact ⟨ps, by rw [t.2 P2 hb]; exact e, q⟩⟩
theorem Tb.tab2 {P1 P2 : Addr} {H H' : Hp} (h : Tb P1 P2 H) (t : GxR.Tabbed P2 H H') : Tb P1 P2 H' := ⟨by
  by_cases hb : P1 = P2
  · rw [hb]; exact t.1
  · obtain ⟨ps, e, q⟩ := h.1
    exact ⟨ps, by rw [t.2 P1 hb]; exact e, q⟩, t.1⟩
def spOne (g : PyData → Bool) : Sp := fun vs H Q _ => ∃ v d, vs = [v] ∧ Rp H v d ∧ ∀ H', Same H H' → Q (.bl (g d)) H'
def spTab (P1 P2 : Addr) (g : PyData → Bool) : Sp := fun vs H Q _ => ∃ v d, vs = [v] ∧ Rp H v d ∧ Tb P1 P2 H ∧ ∀ H', Ex H H' → Tb P1 P2 H' → Q (.bl (g d)) H'
theorem spOne_len {g : PyData → Bool} : ∀ vs H Q E, spOne g vs H Q E → vs.length = 1 := fun vs H Q E ⟨v, d, e, _⟩ => by rw [e]; rfl
theorem spTab_len {P1 P2 : Addr} {g : PyData → Bool} : ∀ vs H Q E, spTab P1 P2 g vs H Q E → vs.length = 1 := fun vs H Q E ⟨v, d, e, _⟩ => by rw [e]; rfl
section
variable {P : Program} {w : World} {K : PySem.W.Frag} {mg : Str → Option Value} {base : Heap}
theorem ok_whole {f : Addr} {fd : FuncData} (F : Fun K "is_whole" "is_whole" sWhole f fd) (T : Nm mg) : FnOk P w K mg base CX0 1 f fd ["thing"] (spOne isWhole) := by
  refine F.ok scWhole spOne_len (fun cdv A outer s H vs Q E hr h => ?_)
  obtain ⟨v, d, rfl, hR, q⟩ := h
  refine ⟨_, pss_one (ps_ret (pe_and (pe_callB call_isi (by rfl) T.isi (by decide +kernel) (pa_cons (pv 0) (pa_cons (pe_bltn (v := .ty "int") (by rfl) T.int PyProof.Rows.boot_int rfl) pa_nil)))
    (pe_one (pe_not (pe_callB call_isi (by rfl) T.isi (by decide +kernel) (pa_cons (pv 0) (pa_cons (pe_bltn (v := .ty "bool") (by rfl) T.bool PyProof.Rows.boot_bool rfl) pa_nil))))))), ?_⟩
  refine ⟨v, rfl, v, .ty "int", _, _, isIntB d, rfl, .ty _, hR.ty, kit_int d, isIntB d, rfl, ite2 (fun e => ?_) (fun e => ?_)⟩
  · refine ⟨v, rfl, v, .ty "bool", _, _, isBoolB d, rfl, .ty _, hR.ty, kit_bool d, isBoolB d, rfl, ?_⟩
    have z : (!isBoolB d) = isWhole d := by cases d <;> first | rfl | (exact absurd e Bool.false_ne_true)
    rw [z]
    exact q H (Same.refl H)
  · have z : isWhole d = false := by cases d <;> first | rfl | (exact absurd rfl e)
    have q' := q H (Same.refl H)
    rw [z] at q'
    exact q'
theorem ok_row {f : Addr} {fd : FuncData} (F : Fun K "is_row" "is_row" sRow f fd) (T : Nm mg) : FnOk P w K mg base CX0 1 f fd ["thing"] (spOne isRow) := by
  refine F.ok scRow spOne_len (fun cdv A outer s H vs Q E hr h => ?_)
  obtain ⟨v, d, rfl, hR, q⟩ := h
  refine ⟨_, pss_one (ps_ret (pe_callB call_isiT (by rfl) T.isi (by decide +kernel) (pa_cons (pv 0) (pa_cons (pe_tup (pa_cons (pe_bltn (v := .ty "list") (by rfl) T.list PyProof.Rows.boot_list rfl) (pa_cons (pe_bltn (v := .ty "tuple") (by rfl) T.tuple PyProof.Rows.boot_tuple rfl) pa_nil))) pa_nil)))), ?_⟩
  refine ⟨v, rfl, by show 2 ≤ sizeLine; decide, fun p np => ⟨v, p, [.ty "list", .ty "tuple"], _, _, isRow d, rfl, upd_same, .cons (.ty _) (.cons (.ty _) .nil), (Rp.ex (Ex.new np) d v hR).ty, kit_rows d, q _ (same_upd np)⟩⟩
theorem ok_pat {f : Addr} {fd : FuncData} (F : Fun K "is_patience" "is_patience" sPat f fd) (T : Nm mg) (CW : Cal P w K mg base 1 "is_whole" ["thing"] (spOne isWhole)) : FnOk P w K mg base CX0 2 f fd ["thing"] (spOne isPatience) := by
  refine F.ok scPat spOne_len (fun cdv A outer s H vs Q E hr h => ?_)
  obtain ⟨v, d, rfl, hR, q⟩ := h
  obtain ⟨tg, hgr⟩ := T.great
  refine ⟨_, pss_one (ps_ret (pe_or (pe_cmp (pc_isN (pv 0)) rfl) (pe_one (pe_and (pe_cal CW hr (by rfl) (pa_cons (pv 0) pa_nil))
    (pe_one (pe_chain op_le op_le pe_int (pv 0) (pe_glob (v := .int GREAT) (by rfl) hgr ⟨_, rfl⟩))))))), ?_⟩
  refine ⟨v, rfl, decide (v = .non), rfl, ite2 (fun e => ?_) (fun e => ?_)⟩
  · have ev : v = .non := of_decide_eq_true e
    subst ev
    cases hR
    exact q H (Same.refl H)
  · have nv : v ≠ .non := fun z => e (decide_eq_true z)
    refine ⟨v, rfl, v, d, rfl, hR, fun H1 s1 => ⟨isWhole d, rfl, ite2 (fun e2 => ?_) (fun e2 => ?_)⟩⟩
    · cases hR with
      | int i =>
        refine ⟨.int i, rfl, 0, i, rfl, rfl, decide (0 ≤ i), rfl, ite2 (fun e3 => ?_) (fun e3 => ?_)⟩
        · refine ⟨i, GREAT, rfl, rfl, ?_⟩
          have q' := q H1 s1
          have z : isPatience (.int i) = decide (i ≤ GREAT) := by
            show (decide (0 ≤ i) && decide (i ≤ GREAT)) = _
            rw [e3, Bool.true_and]
          rw [z] at q'
          exact q'
        · have q' := q H1 s1
          have z : isPatience (.int i) = false := by
            show (decide (0 ≤ i) && decide (i ≤ GREAT)) = _
            rw [Bool.eq_false_iff.mpr e3, Bool.false_and]
          rw [z] at q'
          exact q'
      | _ => exact absurd e2 Bool.false_ne_true
    · have q' := q H1 s1
      have z : isPatience d = false := by
        cases hR with
        | non => exact absurd rfl nv
        | int i => exact absurd rfl e2
        | _ => rfl
      rw [z] at q'
      exact q'
end
end CL
set_option Elab.async false
set_option linter.all false
set_option maxRecDepth 100000
set_option maxHeartbeats 1000000
namespace CL
open PySem PySem.Spec PyProof.Rows L2 GE
theorem all_take {p : PyData → Bool} {ds : List PyData} {i : Nat} {d : PyData} (h : ds[i]? = some d) : (ds.take (i + 1)).all p = ((ds.take i).all p && p d) := by
  rw [List.take_add_one, h, List.all_append]
  simp
theorem any_take {p : PyData → Bool} {ds : List PyData} {i : Nat} {d : PyData} (h : ds[i]? = some d) : (ds.take (i + 1)).any p = ((ds.take i).any p || p d) := by
  rw [List.take_add_one, h, List.any_append]
  simp
theorem all_false {p : PyData → Bool} {ds : List PyData} {i : Nat} {d : PyData} (h : ds[i]? = some d) (e : p d = false) : ds.all p = false := by
  rw [List.all_eq_false]
  exact ⟨d, List.mem_of_getElem? h, by rw [e]; exact Bool.false_ne_true⟩
theorem any_true {p : PyData → Bool} {ds : List PyData} {i : Nat} {d : PyData} (h : ds[i]? = some d) (e : p d = true) : ds.any p = true := by
  rw [List.any_eq_true]
  exact ⟨d, List.mem_of_getElem? h, e⟩
theorem rix_of {K : PySem.W.Frag} {H : Hp} {a : Addr} {xs : List V} {i : Nat} {v : V} {Q : VK} (s : StSeq H a xs) (e : xs[i]? = some v) (q : Q v H) : rIx K (.ref a) (.int (i : Int)) H Q := by
  rcases s.or with h | h
  · exact .inl ⟨a, xs, (i : Int), v, rfl, rfl, SqL.of h, atI_nat e, q⟩
  · exact .inr (.inl ⟨a, xs, (i : Int), v, rfl, rfl, SqT.of h, atI_nat e, q⟩)
theorem name_yes {i : Nat} {x : V} {σ : L2.St} {H : Hp} {A B : L2.St → Hp → Prop} (h : A (σ.set i (some x)) H) : gName i x σ H (fun σ2 H2 => tYes σ2 H2 fun b H3 => if b = true then A σ2 H3 else B σ2 H3) := by
  show if true = true then A (σ.set i (some x)) H else B (σ.set i (some x)) H
  exact iteT h
theorem nd1 {x : Str} : [x].Nodup := by simp
section
variable {P : Program} {w : World} {K : PySem.W.Frag} {mg : Str → Option Value} {base : Heap}
theorem ok_turns {f c P1 P2 : Addr} {fd : FuncData} (F : FunC K "is_turns" "is_turns" sTurns f fd c) (T : Nm mg) (TB : GxR.TabB base mg c P1) (CR : Cal P w K mg base 1 "is_row" ["thing"] (spOne isRow)) (CP : Cal P w K mg base 2 "is_patience" ["thing"] (spOne isPatience)) :
    FnOk P w K mg base CX0 4 f fd ["thing"] (spTab P1 P2 isTurns) := by
  refine F.ok scTurns spTab_len (fun A outer s H vs Q E hr h => ?_)
  obtain ⟨v, d, rfl, hR, hT, q⟩ := h
  obtain ⟨tl, hlo⟩ := T.longest
  refine ⟨_, pss_one (ps_ret (pe_and (pe_cal (CR.mono (by decide)) hr (by rfl) (pa_cons (pv 0) pa_nil))
    (pe_and (pe_chain op_le op_le pe_int (pe_callB call_len_seq (by rfl) T.len PySem.boot_len (pa_cons (pv 0) pa_nil)) (pe_glob (v := .int 8) (by rfl) hlo ⟨_, rfl⟩))
      (pe_one (pe_allG (N := ["patience"]) hr (by rfl) T.all TB rfl (by exact ⟨rfl, rfl, by decide +kernel, rfl⟩) (pi_seq (pv 0))
        (fun A s H C code fp pn rY => pg_name (i := 0) nd1 rfl (.inl rfl) (.inr rfl)) (fun A s H C code fp pn rY => pts_nil)
        (fun A s H C code fp pn rY => pe_cal CP rY (by rfl) (pa_cons (pv 0) pa_nil))))))), ?_⟩
  refine ⟨v, rfl, v, d, rfl, hR, fun H1 s1 => ⟨isRow d, rfl, ite2 (fun e => ?_) (fun e => ?_)⟩⟩
  · obtain ⟨ds, hds⟩ : ∃ ds, rowsD d = some ds := Option.isSome_iff_exists.mp e
    obtain ⟨a, xs, rfl, hA, hso⟩ := (Rp.ex (Ex.of s1) d v hR).rows hds
    have hst : StSeq H1 a xs := ⟨hso⟩
    have hlen := hA.length
    have val : isTurns d = (decide (1 ≤ ds.length) && decide (ds.length ≤ 8) && ds.all isPatience) := by
      unfold isTurns
      rw [hds]
    have hT1 := hT.same s1
    have no : ∀ {H2 : Hp}, Ex H1 H2 → Tb P1 P2 H2 → isTurns d = false → Q (.bl false) H2 := fun {H2} e2 t2 z => by
      have q' := q H2 ((Ex.of s1).trans e2) t2
      rw [z] at q'
      exact q'
    refine ⟨.ref a, rfl, a, xs, rfl, hst.sq, 1, xs.length, rfl, rfl, decide ((1 : Int) ≤ xs.length), rfl, ite2 (fun e1 => ?_) (fun e1 => ?_)⟩
    · refine ⟨xs.length, 8, rfl, rfl, decide ((xs.length : Int) ≤ 8), rfl, ite2 (fun e2 => ?_) (fun e2 => ?_)⟩
      · have l1 : 1 ≤ ds.length := by have := of_decide_eq_true e1; omega
        have l2 : ds.length ≤ 8 := by have := of_decide_eq_true e2; omega
        refine ⟨.ref a, rfl, a, xs, rfl, hst, fun J hJ => ⟨hT1.1, fun H2 tb => ⟨_, ⟨xs.length, rfl, Nat.zero_le _, ex_tabbed hT1.1 tb, hT1.tab1 tb, rfl⟩, turn_by (xs := xs) (fun _ i H => Ex H1 H ∧ Tb P1 P2 H ∧ (ds.take i).all isPatience = true)
          (fun _ i H ⟨eH, _, _⟩ => hJ H eH) (fun _ i x H hx ⟨eH, tH, aH⟩ => ?_) (fun _ H ⟨eH, tH, aH⟩ => ?_)⟩⟩⟩
        · obtain ⟨dx, hdx, hRx⟩ := hA.get hx
          refine name_yes ?_
          refine ⟨x, rfl, x, dx, rfl, Rp.ex eH dx x hRx, fun H4 s4 => ⟨isPatience dx, rfl, ite2 (fun e4 => ?_) (fun e4 => ?_)⟩⟩
          · exact ⟨eH.trans (Ex.of s4), tH.same s4, by rw [all_take hdx, aH, e4]; rfl⟩
          · refine no (eH.trans (Ex.of s4)) (tH.same s4) ?_
            rw [val, all_false hdx (Bool.eq_false_iff.mpr e4), Bool.and_false]
        · have q' := q H ((Ex.of s1).trans eH) tH
          rw [hlen, List.take_length] at aH
          rw [val, aH, decide_eq_true l1, decide_eq_true l2] at q'
          exact q'
      · refine no (Ex.refl H1) hT1 ?_
        have l2 : ¬ ds.length ≤ 8 := fun z => e2 (decide_eq_true (by omega))
        rw [val, decide_eq_false l2, Bool.and_false, Bool.false_and]
    · refine ⟨false, rfl, iteF (no (Ex.refl H1) hT1 ?_)⟩
      have l1 : ¬ 1 ≤ ds.length := fun z => e1 (decide_eq_true (by omega))
      rw [val, decide_eq_false l1, Bool.false_and, Bool.false_and]
  · have z : isTurns d = false := by
      unfold isTurns
      cases hds : rowsD d with
      | none => rfl
      | some ds => exact absurd (by unfold isRow; rw [hds]; rfl) e
    have q' := q H1 (Ex.of s1) (hT.same s1)
    rw [z] at q'
    exact q'
theorem two_of {α : Type} {xs : List α} (h : xs.length = 2) : ∃ x y, xs = [x, y] := match xs, h with
  | [x, y], _ => ⟨x, y, rfl⟩
theorem isPiece_two {d t m : PyData} (h : rowsD d = some [t, m]) : isPiece d = (isTurns t && isMany m) := by
  unfold isPiece
  rw [h]
theorem isPiece_not {d : PyData} {ds : List PyData} (h : rowsD d = some ds) (n : ds.length ≠ 2) : isPiece d = false := by
  unfold isPiece
  rw [h]
  match ds, n with
  | [], _ => rfl
  | [_], _ => rfl
  | [_, _], n => exact absurd rfl n
  | _ :: _ :: _ :: _, _ => rfl
theorem ok_piece {f P1 P2 : Addr} {fd : FuncData} (F : Fun K "is_piece" "is_piece" sPiece f fd) (T : Nm mg) (CW : Cal P w K mg base 1 "is_whole" ["thing"] (spOne isWhole)) (CR : Cal P w K mg base 1 "is_row" ["thing"] (spOne isRow)) (CT : Cal P w K mg base 4 "is_turns" ["thing"] (spTab P1 P2 isTurns)) :
    FnOk P w K mg base CX0 5 f fd ["thing"] (spTab P1 P2 isPiece) := by
  refine F.ok scPiece spTab_len (fun cdv A outer s H vs Q E hr h => ?_)
  obtain ⟨v, d, rfl, hR, hT, q⟩ := h
  refine ⟨_, pss_cons (ps_if (PW.pt (pw_or (pt_not (pt_val (pe_cal (CR.mono (by decide)) hr (by rfl) (pa_cons (pv 0) pa_nil))))
      (pw_or (pt_cmpR op_ne (pe_callB call_len_seq (by rfl) T.len PySem.boot_len (pa_cons (pv 0) pa_nil)) pe_int (nomark _))
        (pw_or1 (pt_not (pt_val (pe_cal CT hr (by rfl) (pa_cons (pe_ix ix_seq (pv 0) pe_int (fun _ _ => rfl)) pa_nil)))))))) (pss_one (ps_ret pe_bl)) pss_nil)
    (pss_one (ps_ret (pe_or (pe_cmp (pc_isN (pe_ix ix_seq (pv 0) pe_int (fun _ _ => rfl))) rfl)
      (pe_one (pe_and (pe_cal (CW.mono (by decide)) hr (by rfl) (pa_cons (pe_ix ix_seq (pv 0) pe_int (fun _ _ => rfl)) pa_nil)) (pe_one (pe_cmpR op_ge (pe_ix ix_seq (pv 0) pe_int (fun _ _ => rfl)) pe_int (nomark _)))))))), ?_⟩
  refine ⟨v, rfl, v, d, rfl, hR, fun H1 s1 => ⟨isRow d, rfl, ?_⟩⟩
  have hT1 := hT.same s1
  have at_ : ∀ {H2 : Hp} {b : Bool}, Ex H1 H2 → Tb P1 P2 H2 → isPiece d = b → Q (.bl b) H2 := fun {H2 b} e2 t2 z => by
    have q' := q H2 ((Ex.of s1).trans e2) t2
    rw [z] at q'
    exact q'
  cases hds : rowsD d with
  | none =>
    have e0 : isRow d = false := by unfold isRow; rw [hds]; rfl
    rw [e0]
    exact iteT (iteT (at_ (Ex.refl H1) hT1 (by unfold isPiece; rw [hds])))
  | some ds =>
    have e0 : isRow d = true := by unfold isRow; rw [hds]; rfl
    rw [e0]
    obtain ⟨a, xs, rfl, hA, hso⟩ := (Rp.ex (Ex.of s1) d v hR).rows hds
    have hst : StSeq H1 a xs := ⟨hso⟩
    have hlen := hA.length
    refine iteF ⟨.ref a, rfl, a, xs, rfl, hst.sq, rfl, _, rfl, ?_⟩
    by_cases h2 : ds.length = 2
    · have e1 : decide (V.int (xs.length : Int) = V.int 2) = true := decide_eq_true (by rw [hlen, h2]; rfl)
      refine ite2 (fun z => absurd z (by rw [e1]; exact Bool.false_ne_true)) (fun _ => ?_)
      obtain ⟨t, m, rfl⟩ := two_of h2
      obtain ⟨vt, vm, rfl⟩ := two_of (hlen.trans h2)
      cases hA with
      | cons ht hA2 =>
        cases hA2 with
        | cons hm _ =>
          refine ⟨.ref a, rfl, rix_of (i := 0) hst rfl ⟨vt, t, rfl, ht, hT1, fun H2 e2 t2 => ⟨isTurns t, rfl, ?_⟩⟩⟩
          have val := isPiece_two hds
          cases ht2 : isTurns t with
          | false => exact iteT (at_ e2 t2 (by rw [val, ht2]; rfl))
          | true =>
            refine iteF ⟨.ref a, rfl, rix_of (i := 1) (hst.ex e2) rfl ⟨decide (vm = .non), rfl, ite2 (fun e3 => ?_) (fun e3 => ?_)⟩⟩
            · have ev : vm = .non := of_decide_eq_true e3
              subst ev
              cases hm
              exact at_ e2 t2 (by rw [val, ht2]; rfl)
            · have nv : vm ≠ .non := fun z => e3 (decide_eq_true z)
              refine ⟨.ref a, rfl, rix_of (i := 1) (hst.ex e2) rfl ⟨vm, m, rfl, Rp.ex e2 m vm hm, fun H3 s3 => ⟨isWhole m, rfl, ite2 (fun e4 => ?_) (fun e4 => ?_)⟩⟩⟩
              · cases hm with
                | int i =>
                  refine ⟨.ref a, rfl, rix_of (i := 1) ((hst.ex e2).ex (Ex.of s3)) rfl ⟨i, 0, rfl, rfl, at_ (e2.trans (Ex.of s3)) (t2.same s3) ?_⟩⟩
                  rw [val, ht2]
                  rfl
                | _ => exact absurd e4 Bool.false_ne_true
              · refine at_ (e2.trans (Ex.of s3)) (t2.same s3) ?_
                rw [val, ht2]
                cases hm with
                | non => exact absurd rfl nv
                | int i => exact absurd rfl e4
                | _ => rfl
    · have e1 : decide (V.int (xs.length : Int) = V.int 2) = false := decide_eq_false fun z => h2 (by have := V.int.inj z; omega)
      refine ite2 (fun _ => iteT (at_ (Ex.refl H1) hT1 (isPiece_not hds h2))) (fun z => absurd (by rw [e1]; rfl) z)
end
end CL
set_option Elab.async false
set_option linter.all false
set_option maxRecDepth 100000
set_option maxHeartbeats 2000000
namespace CL
open PySem PySem.Spec PyProof.Rows L2 GE
theorem piece_parts {d : PyData} (h : isPiece d = true) : ∃ t m, rowsD d = some [t, m] ∧ isTurns t = true ∧ isMany m = true := by
  unfold isPiece at h
  split at h
  · rename_i t m e
    rw [Bool.and_eq_true] at h
    exact ⟨t, m, e, h.1, h.2⟩
  · cases h
theorem sndD_two {d t m : PyData} (h : rowsD d = some [t, m]) : sndD d = m := by
  unfold sndD
  rw [h]
theorem rp_none {H : Hp} {v : V} {m : PyData} (h : Rp H v m) : decide (v = .non) = isNone m := by
  cases h <;> first | rfl | exact decide_eq_false nofun
theorem all_get {p : PyData → Bool} {ds : List PyData} {i : Nat} {d : PyData} (h : ds.all p = true) (e : ds[i]? = some d) : p d = true := List.all_eq_true.mp h d (List.mem_of_getElem? e)
theorem sum_step {ds : List PyData} {i : Nat} {d : PyData} (h : ds[i]? = some d) : sumSnd (ds.take (i + 1)) = sumSnd (ds.take i) + worth (sndD d) := by
  unfold sumSnd
  rw [List.take_add_one, h, List.map_append, List.sum_append]
  simp
theorem cut_last (xs : List V) : cutV xs none (some (-1)) = xs.take (xs.length - 1) := by
  unfold cutV
  have e0 : HT.sIx xs.length 0 none = 0 := rfl
  have e1 : HT.sIx xs.length xs.length (some (-1)) = xs.length - 1 := by
    show (if (-1 : Int) < 0 then ((-1 : Int) + (xs.length : Int)).toNat else min (-1 : Int).toNat xs.length) = _
    rw [if_pos (by decide)]
    omega
  rw [e0, e1, List.drop_zero, Nat.sub_zero]
theorem ix_gx {X : Cx} {A : Around} {N : List Str} {s : Shared} {H : Hp} {cenv : Env} {fp : List Addr} {pn : List (Addr × Obj)} : IxR (gx X A N s H cenv fp pn) (rIx X.K) := ix_seq
/-- the second of a piece that stands -/
theorem piece_at {H : Hp} {x : V} {d : PyData} (hp : isPiece d = true) (hR : Rp H x d) : ∃ b vt vm m, x = .ref b ∧ StSeq H b [vt, vm] ∧ Rp H vm m ∧ sndD d = m ∧ isMany m = true := by
  obtain ⟨t, m, e, _, hm⟩ := piece_parts hp
  obtain ⟨b, ys, rfl, hA, hso⟩ := hR.rows e
  obtain ⟨vt, vm, rfl⟩ := two_of hA.length
  cases hA with
  | cons h1 h2 =>
    cases h2 with
    | cons h3 _ => exact ⟨b, vt, vm, m, rfl, ⟨hso⟩, h3, sndD_two e, hm⟩
section
variable {P : Program} {w : World} {K : PySem.W.Frag} {mg : Str → Option Value} {base : Heap}
theorem ok_plan {f c P1 P2 : Addr} {fd : FuncData} (F : FunC K "is_plan" "is_plan" sPlan f fd c) (T : Nm mg) (TB : GxR.TabB base mg c P2) (CR : Cal P w K mg base 1 "is_row" ["thing"] (spOne isRow)) (CP : Cal P w K mg base 5 "is_piece" ["thing"] (spTab P1 P2 isPiece)) :
    FnOk P w K mg base CX0 7 f fd ["thing"] (spTab P1 P2 isPlan) := by
  refine F.ok scPlan spTab_len (fun A outer s H vs Q E hr h => ?_)
  obtain ⟨v, d, rfl, hR, hT, q⟩ := h
  obtain ⟨tl, hlo⟩ := T.longest
  obtain ⟨tg, hgr⟩ := T.great
  refine ⟨_, pss_cons (ps_if (PW.pt (pw_or (pt_not (pt_val (pe_cal (CR.mono (by decide)) hr (by rfl) (pa_cons (pv 0) pa_nil))))
      (pw_or1 (pt_not (pt_chain op_le op_le pe_int (pe_callB call_len_seq (by rfl) T.len PySem.boot_len (pa_cons (pv 0) pa_nil)) (pe_glob (v := .int 8) (by rfl) hlo ⟨_, rfl⟩)))))) (pss_one (ps_ret pe_bl)) pss_nil)
    (pss_cons (ps_if (pt_not (pt_val (pe_allG (N := ["piece"]) hr (by rfl) T.all TB rfl (by exact ⟨rfl, rfl, by decide +kernel, rfl⟩) (pi_seq (pv 0))
        (fun A s H C code fp pn rY => pg_name (i := 0) nd1 rfl (.inl rfl) (.inr rfl)) (fun A s H C code fp pn rY => pts_nil)
        (fun A s H C code fp pn rY => pe_cal CP rY (by rfl) (pa_cons (pv 0) pa_nil))))) (pss_one (ps_ret pe_bl)) pss_nil)
    (pss_cons (ps_if (pt_val (pe_anyG (N := ["piece"]) hr (by rfl) T.any TB rfl (by exact ⟨rfl, rfl, by decide +kernel, rfl⟩) (pi_seq (pe_slice (SlR.or sl_list sl_tup) (pv 0) po_none (po_some (pe_un un_neg pe_int))))
        (fun A s H C code fp pn rY => pg_name (i := 0) nd1 rfl (.inl rfl) (.inr rfl)) (fun A s H C code fp pn rY => pts_nil)
        (fun A s H C code fp pn rY => pe_cmp (pc_isN (pe_ix ix_gx (pv 0) pe_int (fun _ _ => rfl))) rfl))) (pss_one (ps_ret pe_bl)) pss_nil)
    (pss_one (ps_ret (pe_cmpR op_le (pe_sumG (N := ["piece"]) hr (by rfl) T.sum TB rfl (by exact ⟨rfl, rfl, by decide +kernel, rfl⟩) (pi_seq (pv 0))
        (fun A s H C code fp pn rY => pg_name (i := 0) nd1 rfl (.inl rfl) (.inr rfl)) (fun A s H C code fp pn rY => pts_one (pt_cmp (pc_notN (pe_ix ix_gx (pv 0) pe_int (fun _ _ => rfl)))))
        (fun A s H C code fp pn rY => pe_ix ix_gx (pv 0) pe_int (fun _ _ => rfl))) (pe_glob (v := .int GREAT) (by rfl) hgr ⟨_, rfl⟩) (nomark _)))))), ?_⟩
  refine ⟨v, rfl, v, d, rfl, hR, fun H1 s1 => ⟨isRow d, rfl, ?_⟩⟩
  have hT1 := hT.same s1
  have at_ : ∀ {H2 : Hp} {b : Bool}, Ex H1 H2 → Tb P1 P2 H2 → isPlan d = b → Q (.bl b) H2 := fun {H2 b} e2 t2 z => by
    have q' := q H2 ((Ex.of s1).trans e2) t2
    rw [z] at q'
    exact q'
  cases hds : rowsD d with
  | none =>
    have e0 : isRow d = false := by unfold isRow; rw [hds]; rfl
    rw [e0]
    exact iteT (iteT (at_ (Ex.refl H1) hT1 (by unfold isPlan; rw [hds])))
  | some ds =>
    have e0 : isRow d = true := by unfold isRow; rw [hds]; rfl
    rw [e0]
    obtain ⟨a, xs, rfl, hA, hso⟩ := (Rp.ex (Ex.of s1) d v hR).rows hds
    have hst : StSeq H1 a xs := ⟨hso⟩
    have hlen := hA.length
    have val : isPlan d = (decide (1 ≤ ds.length) && decide (ds.length ≤ 8) && ds.all isPiece && !((ds.take (ds.length - 1)).any fun d => isNone (sndD d)) && decide (sumSnd ds ≤ GREAT)) := by
      unfold isPlan
      rw [hds]
      rfl
    refine iteF ⟨.ref a, rfl, a, xs, rfl, hst.sq, 1, xs.length, rfl, rfl, decide ((1 : Int) ≤ xs.length), rfl, ite2 (fun e1 => ?_) (fun e1 => ?_)⟩
    · have l1 : 1 ≤ ds.length := by have := of_decide_eq_true e1; omega
      refine ⟨xs.length, 8, rfl, rfl, decide ((xs.length : Int) ≤ 8), rfl, ?_⟩
      by_cases l2 : ds.length ≤ 8
      · have e2 : decide ((xs.length : Int) ≤ 8) = true := decide_eq_true (by omega)
        rw [e2]
        refine iteF ?_
        -- all
        refine ⟨.ref a, rfl, a, xs, rfl, hst, fun J hJ => ⟨hT1.2, fun H2 tb => ⟨_, ⟨xs.length, rfl, Nat.zero_le _, ex_tabbed hT1.2 tb, hT1.tab2 tb, rfl⟩, turn_by (xs := xs) (fun _ i H => Ex H1 H ∧ Tb P1 P2 H ∧ (ds.take i).all isPiece = true)
          (fun _ i H ⟨eH, _, _⟩ => hJ H eH) (fun _ i x H hx ⟨eH, tH, aH⟩ => ?_) (fun _ H ⟨eH, tH, pH⟩ => ?_)⟩⟩⟩
        · obtain ⟨dx, hdx, hRx⟩ := hA.get hx
          refine name_yes ?_
          refine ⟨x, rfl, x, dx, rfl, Rp.ex eH dx x hRx, tH, fun H4 e4 t4 => ⟨isPiece dx, rfl, ite2 (fun e5 => ?_) (fun e5 => ?_)⟩⟩
          · exact ⟨eH.trans e4, t4, by rw [all_take hdx, aH, e5]; rfl⟩
          · refine ⟨false, rfl, iteT (at_ (eH.trans e4) t4 ?_)⟩
            rw [val, all_false hdx (Bool.eq_false_iff.mpr e5), Bool.and_false, Bool.false_and, Bool.false_and]
        · rw [hlen, List.take_length] at pH
          refine ⟨true, rfl, iteF ?_⟩
          have hA' : RpAll H1 (xs.take (xs.length - 1)) (ds.take (ds.length - 1)) := by
            have z := hA.take (xs.length - 1)
            rw [show ds.take (xs.length - 1) = ds.take (ds.length - 1) by rw [hlen]] at z
            exact z
          have hp' : (ds.take (ds.length - 1)).all isPiece = true := by
            rw [List.all_eq_true]
            intro y hy
            exact List.all_eq_true.mp pH y (List.mem_of_mem_take hy)
          have hl' : (xs.take (xs.length - 1)).length = (ds.take (ds.length - 1)).length := hA'.length
          -- the walk, wherever the cut stands
          have walk : ∀ (p : Addr) (H3 : Hp), StSeq H3 p (xs.take (xs.length - 1)) → Ex H1 H3 → Tb P1 P2 H3 → ∀ QB : Bool → Hp → Prop,
              (∀ H', Ex H1 H' → Tb P1 P2 H' → QB ((ds.take (ds.length - 1)).any fun d => isNone (sndD d)) H') →
              ∀ J, (∀ H2, Ex H3 H2 → StandsAs K p (xs.take (xs.length - 1)) J H2) → GxR.TabG H3 P2 ∧ ∀ H2, GxR.Tabbed P2 H3 H2 →
                ∃ W : Unit → Nat → Nat → Hp → Prop, (∃ m, W () 0 m H2) ∧ TurnOf J 1 (gName 0) tYes (tIsN (tOp (rIx K) (tVar 0) (tC (.int 1)))) (outAny QB) (fun _ H => QB false H) W := by
            intro p H3 st3 e3 t3 QB hQB J hJ
            refine ⟨t3.2, fun H2 tb => ⟨_, ⟨(xs.take (xs.length - 1)).length, rfl, Nat.zero_le _, ex_tabbed t3.2 tb, t3.tab2 tb, rfl⟩, turn_by (xs := xs.take (xs.length - 1)) (fun _ i H => Ex H3 H ∧ Tb P1 P2 H ∧ ((ds.take (ds.length - 1)).take i).any (fun d => isNone (sndD d)) = false)
              (fun _ i H ⟨eH, _, _⟩ => hJ H eH) (fun _ i x H hx ⟨eH, tH, aH⟩ => ?_) (fun _ H ⟨eH, tH, aH⟩ => ?_)⟩⟩
            · obtain ⟨dx, hdx, hRx⟩ := hA'.get hx
              obtain ⟨b, vt, vm, m, rfl, stb, hRm, hsn, _⟩ := piece_at (all_get hp' hdx) (Rp.ex (e3.trans eH) dx x hRx)
              refine name_yes ?_
              refine ⟨.ref b, rfl, rix_of (i := 1) stb rfl ⟨decide (vm = .non), rfl, ite2 (fun e5 => ?_) (fun e5 => ?_)⟩⟩
              · have z := hQB H (e3.trans eH) tH
                rw [any_true (p := fun d => isNone (sndD d)) hdx (by rw [hsn, ← rp_none hRm]; exact e5)] at z
                exact z
              · refine ⟨eH, tH, ?_⟩
                rw [any_take hdx, aH, hsn, ← rp_none hRm, Bool.eq_false_iff.mpr e5]
                rfl
            · rw [hl', List.take_length] at aH
              have z := hQB H (e3.trans eH) tH
              rw [aH] at z
              exact z
          -- the sum
          have sums : ∀ (H3 : Hp), Ex H1 H3 → Tb P1 P2 H3 → ∀ QI : Int → Hp → Prop, (∀ H', Ex H1 H' → Tb P1 P2 H' → QI (sumSnd ds) H') →
              ∀ J, (∀ H2, Ex H3 H2 → StandsAs K a xs J H2) → GxR.TabG H3 P2 ∧ ∀ H2, GxR.Tabbed P2 H3 H2 →
                ∃ W : Int → Nat → Nat → Hp → Prop, (∃ m, W 0 0 m H2) ∧ TurnOf J 1 (gName 0) (tB (tNotN (tOp (rIx K) (tVar 0) (tC (.int 1))))) (tOp (rIx K) (tVar 0) (tC (.int 1))) outSum (fun a H => QI a H) W := by
            intro H3 e3 t3 QI hQI J hJ
            refine ⟨t3.2, fun H2 tb => ⟨_, ⟨xs.length, rfl, Nat.zero_le _, ex_tabbed t3.2 tb, t3.tab2 tb, rfl⟩, turn_by (xs := xs) (fun z i H => Ex H3 H ∧ Tb P1 P2 H ∧ z = sumSnd (ds.take i))
              (fun _ i H ⟨eH, _, _⟩ => hJ H eH) (fun z i x H hx ⟨eH, tH, aH⟩ => ?_) (fun z H ⟨eH, tH, zH⟩ => ?_)⟩⟩
            · obtain ⟨dx, hdx, hRx⟩ := hA.get hx
              obtain ⟨b, vt, vm, m, rfl, stb, hRm, hsn, hmm⟩ := piece_at (all_get pH hdx) (Rp.ex (e3.trans eH) dx x hRx)
              refine ⟨.ref b, rfl, rix_of (i := 1) stb rfl ⟨!decide (vm = .non), rfl, ite2 (fun e5 => ?_) (fun e5 => ?_)⟩⟩
              · refine ⟨.ref b, rfl, rix_of (i := 1) stb rfl ?_⟩
                cases hRm with
                | int j => exact ⟨j, rfl, eH, tH, by rw [sum_step hdx, hsn, aH]; rfl⟩
                | non => exact absurd e5 (by decide)
                | _ => cases hmm
              · refine ⟨eH, tH, ?_⟩
                rw [sum_step hdx, hsn, aH]
                cases hRm with
                | non => exact (Int.add_zero _).symm
                | _ => exact absurd rfl e5
            · rw [hlen, List.take_length] at zH
              subst zH
              exact hQI H (e3.trans eH) tH
          have hst2 := hst.ex eH
          have fin : ∀ (H' : Hp), Ex H1 H' → Tb P1 P2 H' → ((ds.take (ds.length - 1)).any fun d => isNone (sndD d)) = false → isPlan d = decide (sumSnd ds ≤ GREAT) := fun H' _ _ z => by
            rw [val, decide_eq_true l1, decide_eq_true l2, pH, z]
            rfl
          have bad : ∀ (H' : Hp), Ex H1 H' → Tb P1 P2 H' → ((ds.take (ds.length - 1)).any fun d => isNone (sndD d)) = true → Q (.bl false) H' := fun H' e' t' z => at_ e' t' (by
            rw [val, z]
            simp)
          refine ⟨.ref a, rfl, 1, rfl, -1, rfl, ?_⟩
          rcases hst2.or with hq | hq
          · refine .inl ⟨a, xs, rfl, SqL.of hq, fun p np => ?_⟩
            have st3 : StSeq (upd H p (.lst (cutV xs none (some (-1))))) p (xs.take (xs.length - 1)) := ⟨.inl (by rw [upd_same, cut_last])⟩
            refine ⟨p, _, rfl, st3, walk p _ st3 (eH.trans (Ex.new np)) (tH.same (same_upd np)) _ fun H' e' t' => ?_⟩
            refine ⟨_, rfl, ite2 (fun e5 => bad H' e' t' e5) (fun e5 => ?_)⟩
            refine ⟨.ref a, rfl, a, xs, rfl, hst.ex e', sums H' e' t' _ fun H'' e'' t'' => ⟨sumSnd ds, GREAT, rfl, rfl, at_ e'' t'' (fin H'' e'' t'' (Bool.eq_false_iff.mpr e5))⟩⟩
          · refine .inr ⟨a, xs, rfl, SqT.of hq, ?_, fun p np => ?_⟩
            · intro z
              have z2 : HT.sIx xs.length xs.length (some (-1)) = xs.length - 1 := by
                show (if (-1 : Int) < 0 then ((-1 : Int) + (xs.length : Int)).toNat else min (-1 : Int).toNat xs.length) = _
                rw [if_pos (by decide)]
                omega
              have z3 := z.2
              rw [z2] at z3
              omega
            have st3 : StSeq (upd H p (.tup (cutV xs none (some (-1))))) p (xs.take (xs.length - 1)) := ⟨.inr (by rw [upd_same, cut_last])⟩
            refine ⟨p, _, rfl, st3, walk p _ st3 (eH.trans (Ex.new np)) (tH.same (same_upd np)) _ fun H' e' t' => ?_⟩
            refine ⟨_, rfl, ite2 (fun e5 => bad H' e' t' e5) (fun e5 => ?_)⟩
            refine ⟨.ref a, rfl, a, xs, rfl, hst.ex e', sums H' e' t' _ fun H'' e'' t'' => ⟨sumSnd ds, GREAT, rfl, rfl, at_ e'' t'' (fin H'' e'' t'' (Bool.eq_false_iff.mpr e5))⟩⟩
      · have e2 : decide ((xs.length : Int) ≤ 8) = false := decide_eq_false (by omega)
        rw [e2]
        refine iteT (at_ (Ex.refl H1) hT1 ?_)
        rw [val, decide_eq_false l2, Bool.and_false, Bool.false_and, Bool.false_and, Bool.false_and]
    · have l1 : ¬ 1 ≤ ds.length := fun z => e1 (decide_eq_true (by omega))
      refine ⟨false, rfl, iteT (at_ (Ex.refl H1) hT1 ?_)⟩
      rw [val, decide_eq_false l1, Bool.false_and, Bool.false_and, Bool.false_and, Bool.false_and]
end
end CL
set_option Elab.async false
set_option linter.all false
set_option maxRecDepth 100000
set_option maxHeartbeats 4000000
namespace CL
open PySem PySem.Spec PyProof.Rows L2 GE
theorem p18 : (10 : Int) ^ (18 : Int).toNat = 1000000000000000000 := by decide +kernel
theorem p30 : (10 : Int) ^ (30 : Int).toNat = GREAT := by decide +kernel
theorem same_ne {H H' : Hp} (s : Same H H') {p b : Addr} (np : H' p = none) (hb : H b ≠ none) : b ≠ p := fun z => by
  rw [z] at hb
  cases q : H p with
  | none => exact hb q
  | some o =>
    rw [s p o q] at np
    cases np
theorem ints_dp {K : PySem.W.Frag} {H : Hp} : ∀ gs : List Int, DpAll K H (gs.map V.int) (gs.map PyData.int)
  | [] => .nil
  | x :: gs => .cons (.int x) (ints_dp gs)
theorem ints_lay : ∀ gs : List Int, PyData.canLayAll0 (gs.map PyData.int) = true
  | [] => by simp [PyData.canLayAll0]
  | x :: gs => by
    have := ints_lay gs
    simp [PyData.canLayAll0, PyData.canLay0, this]
theorem ints_depth : ∀ gs : List Int, PyData.depthAll (gs.map PyData.int) = 0
  | [] => rfl
  | x :: gs => by
    have := ints_depth gs
    show max 0 (PyData.depthAll (gs.map PyData.int)) = 0
    rw [this]
    rfl
theorem ints_shaped (gs : List Int) : SeqAt.shaped (.list (gs.map PyData.int)) = true := by
  unfold SeqAt.shaped
  have h1 : PyData.canLay0 (.list (gs.map PyData.int)) = true := by
    have := ints_lay gs
    simp [PyData.canLay0, this]
  have h2 : PyData.depth (.list (gs.map PyData.int)) = 1 := by
    show PyData.depthAll (gs.map PyData.int) + 1 = 1
    rw [ints_depth]
  rw [h1, h2]
  rfl
theorem ints_take (gs : List Int) (k : Nat) : (gs.map V.int).take k = (gs.take k).map V.int := List.map_take.symm
theorem cut_to (xs : List V) (k : Nat) : cutV xs none (some (k : Int)) = xs.take k := by
  unfold cutV
  have e0 : HT.sIx xs.length 0 none = 0 := rfl
  have e1 : HT.sIx xs.length xs.length (some (k : Int)) = min k xs.length := HT.sIx_nat _ _ _
  rw [e0, e1, List.drop_zero, Nat.sub_zero]
  rcases Nat.le_total k xs.length with h | h
  · rw [Nat.min_eq_left h]
  · rw [Nat.min_eq_right h, List.take_of_length_le h, List.take_of_length_le (Nat.le_refl _)]
theorem cut_from (xs : List V) (k : Nat) : cutV xs (some (k : Int)) none = xs.drop k := by
  unfold cutV
  have e0 : HT.sIx xs.length 0 (some (k : Int)) = min k xs.length := HT.sIx_nat _ _ _
  have e1 : HT.sIx xs.length xs.length none = xs.length := rfl
  rw [e0, e1]
  rcases Nat.le_total k xs.length with h | h
  · rw [Nat.min_eq_left h]
    exact List.take_of_length_le (by rw [List.length_drop]; exact Nat.le_refl _)
  · rw [Nat.min_eq_right h, List.drop_of_length_le (Nat.le_refl _), List.drop_of_length_le h]
    simp
theorem small_add {a b : Nat} (ha : a ≤ 1000) (hb : b ≤ 1000) : a + b ≤ sizeLine := by
  have : 2000 ≤ sizeLine := by decide
  omega
theorem small_le {a : Nat} (ha : a ≤ 1000) : a ≤ sizeLine := by
  have : 1000 ≤ sizeLine := by decide
  omega
theorem yesT {σ : L2.St} {H : Hp} {A B : Hp → Prop} (h : A H) : tYes σ H (fun b H3 => if b = true then A H3 else B H3) := by
  show if true = true then A H else B H
  exact iteT h
open Classical in
noncomputable def Hw (W : Addr → Prop) (H : Hp) : Hp := fun b => if W b then none else H b
theorem Hw.at {W : Addr → Prop} {H : Hp} {b : Addr} (n : ¬ W b) : Hw W H b = H b := by
  unfold Hw
  rw [if_neg n]
theorem Hw.ne {W : Addr → Prop} {H : Hp} {b : Addr} {o : HO} (e : Hw W H b = some o) : ¬ W b := fun z => by
  unfold Hw at e
  rw [if_pos z] at e
  cases e
theorem Hw.sub (W : Addr → Prop) (H : Hp) : Same (Hw W H) H := fun b o e => by rw [Hw.at (Hw.ne e)] at e; exact e
theorem Hw.less {W W' : Addr → Prop} {H : Hp} (h : ∀ b, W b → W' b) : Same (Hw W' H) (Hw W H) := fun b o e => by
  rw [Hw.at fun z => Hw.ne e (h b z)]
  exact Hw.sub W' H b o e
theorem Hw.more {W W' : Addr → Prop} {H : Hp} (h : ∀ b, W' b → W b ∨ H b = none) : Same (Hw W H) (Hw W' H) := fun b o e => by
  have e1 := Hw.sub W H b o e
  rw [Hw.at fun z => (h b z).elim (Hw.ne e) fun q => by rw [q] at e1; cases e1]
  exact e1
theorem hw_upd {W : Addr → Prop} {a : Addr} {H : Hp} {o : HO} (h : W a) : Hw W (upd H a o) = Hw W H := by
  funext b
  by_cases hb : W b
  · unfold Hw
    rw [if_pos hb, if_pos hb]
  · rw [Hw.at hb, Hw.at hb, upd_ne fun z => hb (by rw [z]; exact h)]
theorem Same.hw {W : Addr → Prop} {H H' : Hp} (m : Same H H') : Same (Hw W H) (Hw W H') := fun b o e => by
  rw [Hw.at (Hw.ne e)]
  exact m b o (Hw.sub W H b o e)
theorem Rp.sm {H H' : Hp} (s : Same H H') {v : V} {d : PyData} (h : Rp H v d) : Rp H' v d := Rp.ex (Ex.of s) d v h
theorem RpAll.sm {H H' : Hp} (s : Same H H') {vs : List V} {ds : List PyData} (h : RpAll H vs ds) : RpAll H' vs ds := RpAll.ex (Ex.of s) ds vs h
theorem RpAll.snoc {H : Hp} : ∀ {vs : List V} {ds : List PyData} {v : V} {d : PyData}, RpAll H vs ds → Rp H v d → RpAll H (vs ++ [v]) (ds ++ [d])
  | _, _, _, _, .nil, h => .cons h .nil
  | _, _, _, _, .cons a b, h => .cons a (RpAll.snoc b h)
end CL
set_option Elab.async false
set_option linter.all false
set_option maxRecDepth 100000
set_option maxHeartbeats 4000000
namespace CL
open PySem PySem.Spec PyProof.Rows L2 GE
/-! ### a, b = a list or a tuple -/
def gSeq (K : PySem.W.Frag) (n : Nat) (t : TGs) : TG := fun v σ H Q => ∃ a xs, v = .ref a ∧ StSeq H a xs ∧ xs.length = n ∧ t xs σ H Q
theorem pg_seq {X : Cx} {pos : Pos} {es : List Expr} {k : Nat} {t : TGs} {n : Nat} (hc : X.calm = true) (h : PGs X es t) (hn : (assignEach es X.env).length = n := by rfl) (hst : (assignEach es X.env).findIdx? (·.1) = none := by rfl) :
    PG X (.Tuple es k pos) (gSeq X.K n t) := by
  refine ⟨fun pins s σ H v u Q I r hw => ?_⟩
  obtain ⟨a, xs, e, hs, hl, q⟩ := hw
  rcases hs.or with hq | hq
  · exact (pg_lst hc h hn hst).run pins s σ H v u Q I r ⟨a, xs, e, SqL.of hq, hl, q⟩
  · exact (pg_tup hc h hn hst).run pins s σ H v u Q I r ⟨a, xs, e, SqT.of hq, hl, q⟩
/-! ### for x in a list or a tuple -/
def iSeqW (K : PySem.W.Frag) (tl : TE) : TI := fun σ H R => tl σ H fun x H1 => ∃ a xs, x = .ref a ∧ StSeq H1 a xs ∧ ∀ J, (∀ H2, (∀ o, H1 a = some o → H2 a = some o) → StandsAs K a xs J H2) → R J H1
theorem pi_seqW {X : Cx} {tg l : Expr} {tl : TE} (hl : PE X l tl) : PI X tg l (iSeqW X.K tl) := by
  refine ⟨fun pins s σ H R I h => thn (hl.run pins s σ H _ I h) fun v s1 ⟨x, H1, I1, r1, a, xs, e, st, q⟩ => ?_⟩
  subst e
  cases r1
  have new : ∀ b ∈ [s1.heap.objs.size], FpOk X pins H1 b := fun b hb => by
    rw [List.mem_singleton.mp hb]
    exact I1.fpOk (Nat.le_refl _) (I1.hok.fresh (Nat.le_refl _))
  have kept := fun {o : Obj} => I1.kept (h' := s1.heap.push o) (t' := s1.toks) fun b o' e => Heap.get?_push_of_some _ e
  rcases st.or with hq | hq
  · obtain ⟨its, rv, p, hz⟩ := I1.list (SqL.of hq)
    exact wpAny_pyIter_list p.isList ⟨s1.heap.objs.size, [s1.heap.objs.size], _, _, H1, rfl, kept, turn_list a _, ⟨_, Heap.get?_push_size _ rfl, rfl, rfl⟩, new, q _ fun H2 e => .inl ⟨rfl, SqL.of (e _ hq)⟩⟩
  · obtain ⟨its, rv, p, hz⟩ := I1.tuple (SqT.of hq)
    exact wpAny_pyIter_tuple (show s1.heap.IsTuple a its.toArray from p) ⟨s1.heap.objs.size, [s1.heap.objs.size], _, _, H1, rfl, kept, turn_tuple a _, ⟨_, Heap.get?_push_size _ rfl, rfl, rfl⟩, new, q _ fun H2 e => .inr ⟨rfl, SqT.of (e _ hq)⟩⟩
theorem for_seq {K : PySem.W.Frag} {a : Addr} {xs : List V} {J : It} {g : TG} {tb : TS} {D : Ends} {σ : L2.St} {H : Hp} (Pv : Nat → L2.St → Hp → Prop) (h0 : Pv 0 σ H) (hl : ∀ i σ H, Pv i σ H → StandsAs K a xs J H)
    (hs : ∀ i x σ H, xs[i]? = some x → Pv i σ H → g x σ H fun σ2 H2 => tb { D with nx := Pv (i + 1), ct := Pv (i + 1), bk := D.nx } σ2 H2) (hd : ∀ σ H, Pv xs.length σ H → D.nx σ H) :
    ∃ W : Nat → Nat → L2.St → Hp → Prop, (∃ m, W 0 m σ H) ∧ ∀ i m σ H, W i m σ H →
      (J.stop i H ∧ D.nx σ H) ∨ (J.go i H ∧ ∃ N : L2.St → Hp → Prop, (∀ σ' H', N σ' H' → ∃ m', m' < m ∧ W (i + 1) m' σ' H') ∧ ∀ x H', J.yld i H x H' → g x σ H' fun σ2 H2 => tb { D with nx := N, ct := N, bk := D.nx } σ2 H2) := by
  refine ⟨fun i m σ H => m + i = xs.length ∧ Pv i σ H, ⟨xs.length, rfl, h0⟩, ?_⟩
  rintro i m σ H ⟨hm, p⟩
  have s := hl i σ H p
  cases m with
  | zero =>
    obtain rfl : i = xs.length := by omega
    exact .inl ⟨s.stop (Nat.le_refl _), hd σ H p⟩
  | succ m =>
    have lt : i < xs.length := by omega
    refine .inr ⟨s.go (List.getElem?_eq_getElem lt), Pv (i + 1), fun σ' H' p' => ⟨m, Nat.lt_succ_self m, by omega, p'⟩, fun x H' y => ?_⟩
    obtain ⟨rfl, hx⟩ := s.yld y
    exact hs i x σ _ hx p
/-! ### a class of refusals -/
structure ExcC (K : PySem.W.Frag) (mg : Str → Option Value) (x : Str) (C : Addr) : Prop where
  g : mg x = some (.ref C)
  x : PySem.W.excIn K C [.type "ValueError", .type "Exception", .type "BaseException", .type "object"] "ValueError.__new__" = true
  k : PySem.W.keepIn K (.ref C) = true
  b : PySem.W.subIn K (.ref C) (.type "BaseException") = some true
  t : PySem.W.typeIn K (.ref C) = some (.type "type")
/-! ### pieces_of -/
abbrev nPieces : List Str := ["plan", "pieces", "first", "turns", "many", "past"]
abbrev PieceT := Int × Option Int × List PyData
def optD : Option Int → PyData
  | some i => .int i
  | none => .none
def pieceD (x : PieceT) : PyData := .tuple [.int x.1, optD x.2.1, .tuple x.2.2]
def turnsD (d : PyData) : List PyData := match rowsD d with
  | some (t :: _) => (rowsD t).getD []
  | _ => []
def pastO (f : Int) : PyData → Option Int
  | .int m => some (f + m)
  | _ => none
def pcs : Int → List PyData → List PieceT
  | _, [] => []
  | f, d :: ds => (f, pastO f (sndD d), turnsD d) :: pcs (f + worth (sndD d)) ds
theorem pcs_snoc : ∀ (f : Int) (ds : List PyData) (d : PyData), pcs f (ds ++ [d]) = pcs f ds ++ [(f + sumSnd ds, pastO (f + sumSnd ds) (sndD d), turnsD d)]
  | f, [], d => by
    have e : f + sumSnd [] = f := Int.add_zero f
    rw [e]
    rfl
  | f, c :: ds, d => by
    have e : f + sumSnd (c :: ds) = f + worth (sndD c) + sumSnd ds := by
      show f + (worth (sndD c) + sumSnd ds) = _
      omega
    rw [e]
    show _ :: pcs _ (ds ++ [d]) = _ :: (pcs _ ds ++ _)
    rw [pcs_snoc]
def piecesOf (d : PyData) : List PieceT := pcs 0 ((rowsD d).getD [])
def spPieces (P1 P2 C : Addr) : Sp := fun vs H Q E => ∃ v d, vs = [v] ∧ Rp H v d ∧ Tb P1 P2 H ∧ (isPlan d = false → ∀ H', Ex H H' → Tb P1 P2 H' → E (.ref C) none H') ∧
  (isPlan d = true → ∀ p H', Ex H H' → Tb P1 P2 H' → H p = none → Rp H' (.ref p) (.list ((piecesOf d).map pieceD)) → Q (.ref p) H')
theorem piece_at2 {H : Hp} {x : V} {d : PyData} (hp : isPiece d = true) (hR : Rp H x d) : ∃ b vt vm t m, x = .ref b ∧ StSeq H b [vt, vm] ∧ Rp H vt t ∧ Rp H vm m ∧ rowsD d = some [t, m] ∧ isTurns t = true ∧ isMany m = true := by
  obtain ⟨t, m, e, ht, hm⟩ := piece_parts hp
  obtain ⟨b, xs, rfl, hA, ho⟩ := hR.rows e
  cases hA with
  | cons h1 h2 =>
    cases h2 with
    | cons h3 h4 =>
      cases h4
      exact ⟨b, _, _, t, m, rfl, ⟨ho⟩, h1, h3, e, ht, hm⟩
theorem pieces_put {D : Addr} {ys : List V} {H2 H3 : Hp} {vs : List V} (eD : H2 D = some (.lst vs)) (s3 : Same H2 H3) {p : Addr} (np : H3 p = none) : upd H3 p (.tup ys) D = some (.lst vs) ∧
    Same (Hw (fun b => b = D) H3) (Hw (fun b => b = D) (upd (upd H3 p (.tup ys)) D (.lst (vs ++ [.ref p])))) ∧ Hw (fun b => b = D) (upd (upd H3 p (.tup ys)) D (.lst (vs ++ [.ref p]))) p = some (.tup ys) := by
  have e3 := s3 D _ eD
  have npD : p ≠ D := fun z => by rw [z, e3] at np; cases np
  have e4 : upd H3 p (.tup ys) D = some (.lst vs) := by rw [upd_ne (Ne.symm npD)]; exact e3
  rw [hw_upd (W := fun b => b = D) (a := D) rfl]
  refine ⟨e4, Same.hw (same_upd np), ?_⟩
  rw [Hw.at (W := fun b => b = D) npD]
  exact upd_same
/-- a def that may raise, called by its name -/
structure CalX (P : Program) (w : World) (K : PySem.W.Frag) (mg : Str → Option Value) (base : Heap) (k : Nat) (x : Str) (ps : List Str) (sp : Sp) : Prop where
  ex : ∃ f fd, mg x = some (.ref f) ∧ PySem.W.keepIn K (.ref f) = true ∧ Binds K fd ps [] ∧ FnOk P w K mg base (L2.CX P w) k f fd ps sp
theorem pe_calX {X : Cx} {k : Nat} {x : Str} {ps : List Str} {sp : Sp} {E : XK} {p pos : Pos} {e : Expr} {es : List Expr} {t : TA} (C : CalX X.prog X.w X.K X.mg X.base k x ps sp) (hr : Room k X.A) (hg : Gl X x) (hx : Passes (L2.CX X.prog X.w) X E) (ha : PA X (e :: es) t)
    (hdb : (x == ("__debug__" : Str)) = false := by decide) (he : starEach (e :: es) X.env = (false, eval e X.env) :: starEach es X.env := by rfl) (hpl : (backTo pos (starEach es X.env)).any (·.1) = false := by rfl) : PE X (.Call (.Name x p) (e :: es) [] pos) (tCall sp [] E t) := by
  obtain ⟨f, fd, a1, a2, a3, a4⟩ := C.ex
  exact pe_call a4 hr hg a1 a2 a3 .nil hx ha hdb he hpl
theorem CalX.mono {P : Program} {w : World} {K : PySem.W.Frag} {mg : Str → Option Value} {base : Heap} {j k : Nat} {x : Str} {ps : List Str} {sp : Sp} (C : CalX P w K mg base j x ps sp) (h : j ≤ k) : CalX P w K mg base k x ps sp := by
  obtain ⟨f, fd, a1, a2, a3, a4⟩ := C.ex
  exact ⟨f, fd, a1, a2, a3, a4.mono h⟩
abbrev sCheck : Stmt := topS 27
theorem scCheck : FnScope ["thing"] ["thing"] (defScope sCheck) := ⟨rfl, rfl, rfl, by decide +kernel, rfl, by decide +kernel, by decide +kernel⟩
def spCheck (P1 P2 C : Addr) : Sp := fun vs H Q E => ∃ v d, vs = [v] ∧ Rp H v d ∧ Tb P1 P2 H ∧ (isPlan d = false → ∀ H', Ex H H' → Tb P1 P2 H' → E (.ref C) none H') ∧ (isPlan d = true → ∀ H', Ex H H' → Tb P1 P2 H' → Q .non H')
section
variable {P : Program} {w : World} {K : PySem.W.Frag} {mg : Str → Option Value} {base : Heap}
theorem ok_check {f P1 P2 C : Addr} {fd : FuncData} (F : Fun K "check_plan" "check_plan" sCheck f fd) (XP : ExcC K mg "NoPlan" C) (CP : Cal P w K mg base 7 "is_plan" ["thing"] (spTab P1 P2 isPlan)) :
    FnOk P w K mg base (L2.CX P w) 8 f fd ["thing"] (spCheck P1 P2 C) := by
  refine F.okX scCheck (fun vs H Q E ⟨v, d, e, _⟩ => by rw [e]; rfl) (fun cdv A outer s H vs Q E hr h => ?_)
  obtain ⟨v, d, rfl, hR, hT, qE, q⟩ := h
  refine ⟨_, (pss_one (ps_if (pt_not (pt_val (pe_cal CP hr (by rfl) (pa_cons (pv 0) pa_nil)))) (pss_one (ps_raise rfl (takes_of rfl rfl rfl rfl) (pmk_own PySem.F.excBase_ValueError XP.x XP.g XP.k (raises_own XP.b XP.t) rfl))) pss_nil)), ?_⟩
  refine ⟨v, rfl, v, d, rfl, hR, hT, fun H1 e1 tb1 => ⟨isPlan d, rfl, ?_⟩⟩
  cases hp : isPlan d with
  | false => exact iteT (qE hp H1 e1 tb1)
  | true => exact iteF (q hp H1 e1 tb1)
end
end CL
set_option Elab.async false
set_option linter.all false
set_option maxRecDepth 100000
set_option maxHeartbeats 4000000
namespace CL
open PySem PySem.Spec PyProof.Rows L2 GE
abbrev sBag : Stmt := topS 49
abbrev sStir : Stmt := topS 50
abbrev sDraw : Stmt := topS 51
theorem scBag : FnScope ["script", "total", "cell"] ["script"] (defScope sBag) := ⟨rfl, rfl, rfl, by decide +kernel, rfl, by decide +kernel, by decide +kernel⟩
theorem scStir : FnScope ["number", "place", "one", "two"] ["number", "place"] (defScope sStir) := ⟨rfl, rfl, rfl, by decide +kernel, rfl, by decide +kernel, by decide +kernel⟩
theorem scDraw : FnScope ["bag", "many", "cell", "found"] ["bag", "many"] (defScope sDraw) := ⟨rfl, rfl, rfl, by decide +kernel, rfl, by decide +kernel, by decide +kernel⟩
abbrev MSP : Int := 2305843009213693951
theorem t64 : (2 : Int) ^ 64 = 18446744073709551616 := by decide +kernel
abbrev M60 : Nat := 1000000000000000000
/-- a bag's place, and its cells' -/
structure Bg where
  a : Addr
  c : Addr
/-- the bag: the cells, which is next, what is left of one, how many draws (n at most), a number mixed -/
structure BagAt (n : Nat) (H : Hp) (r : Bg) : Prop where
  ex : ∃ (ns : List Int) (i : Nat) (b k t : Int), H r.a = some (.lst [.ref r.c, .int i, .int b, .int k, .int t]) ∧ H r.c = some (.lst (ns.map V.int)) ∧ i ≤ ns.length ∧ 0 ≤ b ∧ 0 ≤ k ∧ k ≤ n ∧ 0 ≤ t ∧ t < MSP
/-- all but the bag stays -/
structure Mv (r : Bg) (H H' : Hp) : Prop where
  keep : ∀ b o, b ≠ r.a → H b = some o → H' b = some o
theorem Mv.refl (r : Bg) (H : Hp) : Mv r H H := ⟨fun _ _ _ h => h⟩
theorem Mv.of {r : Bg} {H H' : Hp} (s : Same H H') : Mv r H H' := ⟨fun b o _ h => s b o h⟩
theorem Mv.trans {r : Bg} {H H1 H2 : Hp} (a : Mv r H H1) (b : Mv r H1 H2) : Mv r H H2 := ⟨fun c o n h => b.keep c o n (a.keep c o n h)⟩
theorem Mv.upd {r : Bg} {p : Addr} {H H' : Hp} {o : HO} (m : Mv r H H') (hn : H p = none) : Mv r H (upd H' p o) := ⟨fun b x nb e => by
  rw [upd_ne (ne_of_none e hn)]
  exact m.keep b x nb e⟩
theorem BagAt.mono {n m : Nat} {H : Hp} {r : Bg} (h : BagAt n H r) (l : n ≤ m) : BagAt m H r := by
  obtain ⟨ns, i, b, k, t, er, ec, hi, hb, hk, hn, ht⟩ := h
  exact ⟨ns, i, b, k, t, er, ec, hi, hb, hk, by omega, ht⟩
theorem BagAt.same {n : Nat} {r : Bg} {H H' : Hp} (s : Same H H') (hr : BagAt n H r) : BagAt n H' r := by
  obtain ⟨ns, i, b, k, t, er, ec, h⟩ := hr
  exact ⟨ns, i, b, k, t, s _ _ er, s _ _ ec, h⟩
theorem BagAt.some {n : Nat} {r : Bg} {H : Hp} (hr : BagAt n H r) : H r.a ≠ none := by
  obtain ⟨ns, i, b, k, t, er, h⟩ := hr
  rw [er]
  exact nofun
theorem BagAt.someC {n : Nat} {r : Bg} {H : Hp} (hr : BagAt n H r) : H r.c ≠ none := by
  obtain ⟨ns, i, b, k, t, er, ec, h⟩ := hr
  rw [ec]
  exact nofun
/-- a place that is neither -/
structure Off (r : Bg) (p : Addr) : Prop where
  a : p ≠ r.a
  c : p ≠ r.c
theorem BagAt.new {n : Nat} {r : Bg} {p : Addr} {H : Hp} (hr : BagAt n H r) (np : H p = none) : Off r p := ⟨fun z => hr.some (by rw [← z]; exact np), fun z => hr.someC (by rw [← z]; exact np)⟩
theorem BagAt.store {n : Nat} {r : Bg} {p : Addr} {H : Hp} {o : HO} (hr : BagAt n H r) (f : Off r p) : BagAt n (upd H p o) r := by
  obtain ⟨ns, i, b, k, t, er, ec, h⟩ := hr
  exact ⟨ns, i, b, k, t, by rw [upd_ne (Ne.symm f.a)]; exact er, by rw [upd_ne (Ne.symm f.c)]; exact ec, h⟩
theorem BagAt.kx {n : Nat} {r : Bg} {H H' : Hp} (h : BagAt n H r) (e : Ex H H') : BagAt n H' r := by
  obtain ⟨ns, i, b, k, t, er, ec, h⟩ := h
  exact ⟨ns, i, b, k, t, e.lst er, e.lst ec, h⟩
theorem bag_ne {c r : Addr} {H : Hp} {ns : List Int} {vs : List V} (er : H r = some (.lst (.ref c :: vs))) (ec : H c = some (.lst (ns.map V.int))) : c ≠ r := fun z => by
  rw [z, er] at ec
  cases ns with
  | nil => simp at ec
  | cons x ns => simp at ec
theorem mem_keep {r : Bg} {b : Addr} {H H' : Hp} (m : Mv r H H') (n : b ≠ r.a) (h : H b ≠ none) : H' b ≠ none := fun z => by
  cases q : H b with
  | none => exact h q
  | some o =>
    rw [m.keep b o n q] at z
    cases z
def spStir : Sp := fun vs H Q _ => ∃ a b : Int, vs = [.int a, .int b] ∧ 0 ≤ a ∧ a < MSP ∧ 0 ≤ b ∧ b ≤ (M60 : Int) ∧ ∀ x, Q (.int x) H
def spDraw (r : Bg) : Sp := fun vs H Q _ => ∃ (m : Int) (n : Nat), vs = [.ref r.a, .int m] ∧ BagAt n H r ∧ n < M60 ∧ 1 ≤ m ∧ m < 2 ^ 140 ∧ ∀ x H', BagAt (n + 1) H' r → Mv r H H' → 0 ≤ x → x < m → Q (.int x) H'
def spBag (K : PySem.W.Frag) : Sp := fun vs H Q _ => ∃ (a : Addr) (ns : List Int), vs = [.ref a] ∧ SqL K H a (ns.map V.int) ∧ ∀ (r : Bg) H', Same H H' → H r.a = none → BagAt 0 H' r → Q (.ref r.a) H'
section
variable {P : Program} {w : World} {K : PySem.W.Frag} {mg : Str → Option Value} {base : Heap}
theorem ok_stir {f : Addr} {fd : FuncData} (F : Fun K "_law_stir" "_law_stir" sStir f fd) : FnOk P w K mg base CX0 1 f fd ["number", "place"] spStir := by
  refine F.ok scStir (fun vs H Q E ⟨a, b, e, _⟩ => by rw [e]; rfl) (fun cdv A outer s H vs Q E hr h => ?_)
  obtain ⟨a, b, rfl, a0, a1, b0, b1, q⟩ := h
  have nd := scStir.nd
  refine ⟨_, pss_cons (ps_set (i := 2) nd rfl (.inl rfl) (pe_op op_mod (pe_op op_add (pe_op op_add (pe_op op_mul (pv 0) pe_int) (pe_op op_mul (pv 1) pe_int)) pe_int) pe_int))
    (pss_cons (ps_set (i := 3) nd rfl (.inl rfl) (pe_op op_mod (pe_op op_mul (pv 2) (pv 2)) pe_int))
    (pss_one (ps_ret (pe_op op_fdiv (pe_op op_mod (pe_op op_add (pe_op op_add (pe_op op_mul (pv 3) pe_int) (pe_op op_mul (pe_op op_mul (pv 1) (pv 1)) pe_int)) (pe_op op_fdiv (pv 2) pe_int)) pe_int) pe_int)))), ?_⟩
  have a1' : a < 2305843009213693951 := a1
  have b1' : b ≤ 1000000000000000000 := b1
  refine ⟨.int a, rfl, a, 998244353, rfl, rfl, .inr ⟨by decide, by decide⟩, .int b, rfl, b, 1000000007, rfl, rfl, .inr ⟨by decide, by decide⟩, _, _, rfl, rfl, _, 5, rfl, rfl, _, _, rfl, rfl, (by show (0 : Int) < 2305843009213693951; decide), ?_⟩
  show tSeq _ _ _ [some (.int a), some (.int b), some (.int ((a * 998244353 + b * 1000000007 + 5) % 2305843009213693951)), none] H
  generalize hz : (a * 998244353 + b * 1000000007 + 5) % 2305843009213693951 = z
  have z0 : 0 ≤ z := by rw [← hz]; exact Int.emod_nonneg _ (by decide)
  have z1 : z < 2305843009213693951 := by rw [← hz]; exact Int.emod_lt_of_pos _ (by decide)
  refine ⟨.int z, rfl, .int z, rfl, z, z, rfl, rfl, .inl ⟨by rw [t64]; omega, by rw [t64]; omega⟩, _, _, rfl, rfl, (by show (0 : Int) < 2305843009213693951; decide), ?_⟩
  refine ⟨.int (z * z % 2305843009213693951), rfl, z * z % 2305843009213693951, 2860486313, rfl, rfl, .inr ⟨by decide, by decide⟩, .int b, rfl, .int b, rfl, b, b, rfl, rfl, .inl ⟨by rw [t64]; omega, by rw [t64]; omega⟩, _, 48271, rfl, rfl, .inr ⟨by decide, by decide⟩, _, _, rfl, rfl, .int z, rfl, z, 3, rfl, rfl, ⟨by decide, by decide⟩, _, _, rfl, rfl, _, _, rfl, rfl, (by show (0 : Int) < 2305843009213693921; decide), _, _, rfl, rfl, ⟨by decide, by decide⟩, ?_⟩
  exact q _
theorem ok_draw {f : Addr} {r : Bg} {fd : FuncData} (F : Fun K "_law_draw" "_law_draw" sDraw f fd) (hlen : mg "len" = none) (CS : Cal P w K mg base 1 "_law_stir" ["number", "place"] spStir) : FnOk P w K mg base CX0 2 f fd ["bag", "many"] (spDraw r) := by
  refine F.ok scDraw (fun vs H Q E ⟨m, n, e, _⟩ => by rw [e]; rfl) (fun cdv A outer s H vs Q E hr h => ?_)
  obtain ⟨m, n, rfl, ⟨ns, i, b, k, t, er, ec, hi, hb, hk, hn, ht0, ht1⟩, hn1, m1, m2, q⟩ := h
  have nd := scDraw.nd
  refine ⟨_, pss_cons (ps_if (pt_cmpR op_eq (pv 1) pe_int (nomark _)) (pss_one (ps_ret pe_int)) pss_nil)
    (pss_cons (ps_asg (pe_op op_add (pe_ix ix_list (pv 0) pe_int (fun _ _ => rfl)) pe_int) (pg_sub (pv 0) pe_int set_list))
    (pss_cons (ps_if (PW.pt (pw_and (pt_cmpR op_lt (pe_ix ix_list (pv 0) pe_int (fun _ _ => rfl)) pe_int (nomark _)) (pw_and1 (pt_cmpR op_eq (pe_ix ix_list (pv 0) pe_int (fun _ _ => rfl)) (pe_callB call_len_seq (by rfl) hlen PySem.boot_len (pa_cons (pe_ix ix_list (pv 0) pe_int (fun _ _ => rfl)) pa_nil)) (nomark _)))))
      (pss_one (ps_ret (pe_op op_mod (pe_cal CS hr (by rfl) (pa_cons (pe_ix ix_list (pv 0) pe_int (fun _ _ => rfl)) (pa_cons (pe_ix ix_list (pv 0) pe_int (fun _ _ => rfl)) pa_nil))) (pv 1)))) pss_nil)
    (pss_cons (ps_if (pt_cmpR op_lt (pe_ix ix_list (pv 0) pe_int (fun _ _ => rfl)) pe_int (nomark _))
      (pss_cons (ps_set (i := 2) nd rfl (.inl rfl) (pe_ix ix_list (pe_ix ix_list (pv 0) pe_int (fun _ _ => rfl)) (pe_ix ix_list (pv 0) pe_int (fun _ _ => rfl)) (fun _ _ => rfl)))
      (pss_cons (ps_asg (pe_op op_add (pe_ix ix_list (pv 0) pe_int (fun _ _ => rfl)) pe_int) (pg_sub (pv 0) pe_int set_list))
      (pss_cons (ps_if (pt_cmpR op_lt (pv 2) (pe_op op_pow pe_int pe_int) (nomark _)) (pss_one (ps_ret (pe_op op_mod (pe_cal CS hr (by rfl) (pa_cons (pe_op op_mod (pv 2) pe_int) (pa_cons (pe_ix ix_list (pv 0) pe_int (fun _ _ => rfl)) pa_nil))) (pv 1)))) pss_nil)
      (pss_one (ps_asg (pe_op op_sub (pv 2) (pe_op op_pow pe_int pe_int)) (pg_sub (pv 0) pe_int set_list)))))) pss_nil)
    (pss_cons (ps_set (i := 3) nd rfl (.inl rfl) (pe_op op_mod (pe_ix ix_list (pv 0) pe_int (fun _ _ => rfl)) (pv 1)))
    (pss_cons (ps_asg (pe_op op_fdivW (pe_ix ix_list (pv 0) pe_int (fun _ _ => rfl)) (pv 1)) (pg_sub (pv 0) pe_int set_list))
    (pss_one (ps_ret (pv 3)))))))), ?_⟩
  have hcr := bag_ne er ec
  have mdiv : ∀ f : Int, CDivW f m := fun f => wide_div (b := 140) (by omega) (by omega) (by decide) (by decide)
  have mp : (0 : Int) < m := by omega
  refine ⟨.int m, rfl, rfl, _, rfl, ite2 (fun e => ?_) (fun _ => ?_)⟩
  · exact q 0 H (BagAt.mono (n := n) ⟨ns, i, b, k, t, er, ec, hi, hb, hk, hn, ht0, ht1⟩ (Nat.le_succ n)) (Mv.refl r H) (Int.le_refl 0) mp
  -- the counter
  refine ⟨.ref r.a, rfl, r.a, _, 3, .int k, rfl, rfl, SqL.of er, atI_nat (j := 3) rfl, k, 1, rfl, rfl, .ref r.a, rfl, r.a, _, 3, 3, rfl, rfl, er, rfl, ?_⟩
  show tSeq _ _ _ _ (upd H r.a (.lst [.ref r.c, .int i, .int b, .int (k + 1), .int t]))
  have m1' : Mv r H (upd H r.a (.lst [.ref r.c, .int i, .int b, .int (k + 1), .int t])) := ⟨fun b o nb e => by rw [upd_ne nb]; exact e⟩
  have er1 : (upd H r.a (.lst [.ref r.c, .int i, .int b, .int (k + 1), .int t])) r.a = some (.lst [.ref r.c, .int i, .int b, .int (k + 1), .int t]) := upd_same
  generalize upd H r.a (.lst [.ref r.c, .int i, .int b, .int (k + 1), .int t]) = H1 at m1' er1
  have ec1 := m1'.keep r.c _ hcr ec
  have fin1 : ∀ x : Int, Q (.int (x % m)) H1 := fun x => q _ H1 ⟨ns, i, b, k + 1, t, er1, ec1, hi, hb, by omega, by omega, ht0, ht1⟩ m1' (Int.emod_nonneg _ (by omega)) (Int.emod_lt_of_pos _ mp)
  have last : ∀ (H2 : Hp) (i2 : Nat) (b2 : Int) (y : Option V), Mv r H H2 → H2 r.a = some (.lst [.ref r.c, .int i2, .int b2, .int (k + 1), .int t]) → i2 ≤ ns.length → 0 ≤ b2 → ∀ x : Int, x = b2 % m → Q (.int x) (upd H2 r.a (.lst [.ref r.c, .int i2, .int (b2 / m), .int (k + 1), .int t])) := fun H2 i2 b2 y mv e2 hi2 hb2 x hx => by
    rw [hx]
    exact q _ _ ⟨ns, i2, b2 / m, k + 1, t, upd_same, by rw [upd_ne hcr]; exact mv.keep r.c _ hcr ec, hi2, Int.ediv_nonneg hb2 (by omega), by omega, by omega, ht0, ht1⟩ ⟨fun b o nb e => by rw [upd_ne nb]; exact mv.keep b o nb e⟩ (Int.emod_nonneg _ (by omega)) (Int.emod_lt_of_pos _ mp)
  refine ⟨.ref r.a, rfl, r.a, _, 2, .int b, rfl, rfl, SqL.of er1, atI_nat (j := 2) rfl, b, 2, rfl, rfl, decide (b < 2), rfl, ?_⟩
  by_cases hb2 : b < 2
  · rw [decide_eq_true hb2]
    refine iteT ⟨.ref r.a, rfl, r.a, _, 1, .int i, rfl, rfl, SqL.of er1, atI_nat (j := 1) rfl, .ref r.a, rfl, r.a, _, 0, .ref r.c, rfl, rfl, SqL.of er1, atI_nat (j := 0) rfl, r.c, _, rfl, .inl (SqL.of ec1), rfl, _, rfl, ite2 (fun e => ?_) (fun e => ?_)⟩
    · refine ⟨.ref r.a, rfl, r.a, _, 4, .int t, rfl, rfl, SqL.of er1, atI_nat (j := 4) rfl, .ref r.a, rfl, r.a, _, 3, .int (k + 1), rfl, rfl, SqL.of er1, atI_nat (j := 3) rfl, t, k + 1, rfl, ht0, ht1, by omega, by omega, fun x => ?_⟩
      exact ⟨.int m, rfl, x, m, rfl, rfl, mp, fin1 x⟩
    · have hi2 : i < ns.length := by
        rcases Nat.lt_or_ge i ns.length with z | z
        · exact z
        · refine absurd ?_ e
          have : i = ns.length := by omega
          rw [this, List.length_map]
          exact decide_eq_true rfl
      refine ⟨.ref r.a, rfl, r.a, _, 2, .int b, rfl, rfl, SqL.of er1, atI_nat (j := 2) rfl, b, 2, rfl, rfl, decide (b < 2), rfl, ?_⟩
      rw [decide_eq_true hb2]
      refine iteT ?_
      refine ⟨.ref r.a, rfl, r.a, _, 0, .ref r.c, rfl, rfl, SqL.of er1, atI_nat (j := 0) rfl, .ref r.a, rfl, r.a, _, 1, .int i, rfl, rfl, SqL.of er1, atI_nat (j := 1) rfl, r.c, _, i, .int ns[i], rfl, rfl, SqL.of ec1, atI_nat (j := i) (by rw [List.getElem?_map, List.getElem?_eq_getElem hi2]; rfl), ?_⟩
      refine ⟨.ref r.a, rfl, r.a, _, 1, .int i, rfl, rfl, SqL.of er1, atI_nat (j := 1) rfl, i, 1, rfl, rfl, .ref r.a, rfl, r.a, _, 1, 1, rfl, rfl, er1, rfl, ?_⟩
      show tSeq _ _ _ _ (upd H1 r.a (.lst [.ref r.c, .int (i + 1 : Int), .int b, .int (k + 1), .int t]))
      have m2' : Mv r H (upd H1 r.a (.lst [.ref r.c, .int (i + 1 : Int), .int b, .int (k + 1), .int t])) := ⟨fun b o nb e => by rw [upd_ne nb]; exact m1'.keep b o nb e⟩
      have er2 : (upd H1 r.a (.lst [.ref r.c, .int (i + 1 : Int), .int b, .int (k + 1), .int t])) r.a = some (.lst [.ref r.c, .int ((i + 1 : Nat) : Int), .int b, .int (k + 1), .int t]) := by rw [upd_same]; rfl
      generalize upd H1 r.a (.lst [.ref r.c, .int (i + 1 : Int), .int b, .int (k + 1), .int t]) = H2 at m2' er2
      generalize hcell : ns[i] = cell
      have ec2 := m2'.keep r.c _ hcr ec
      refine ⟨.int cell, rfl, 10, 18, rfl, rfl, ⟨by decide, by decide, by decide⟩, cell, _, rfl, rfl, _, rfl, ?_⟩
      rw [show (10 : Int) ^ (18 : Int).toNat = 1000000000000000000 from p18]
      refine ite2 (fun e1 => ?_) (fun e1 => ?_)
      · refine ⟨.int cell, rfl, cell, 2305843009213693951, rfl, rfl, (by show (0 : Int) < 2305843009213693951; decide), .ref r.a, rfl, r.a, _, 3, .int (k + 1), rfl, rfl, SqL.of er2, atI_nat (j := 3) rfl, cell % 2305843009213693951, k + 1, rfl, Int.emod_nonneg _ (by decide), Int.emod_lt_of_pos _ (by decide), by omega, by omega, fun x => ?_⟩
        exact ⟨.int m, rfl, x, m, rfl, rfl, mp, q _ H2 ⟨ns, i + 1, b, k + 1, t, er2, ec2, hi2, hb, by omega, by omega, ht0, ht1⟩ m2' (Int.emod_nonneg _ (by omega)) (Int.emod_lt_of_pos _ mp)⟩
      · have hc18 : 1000000000000000000 ≤ cell := by
          rcases Int.lt_or_le cell 1000000000000000000 with z | z
          · exact absurd (decide_eq_true z) e1
          · exact z
        refine ⟨.int cell, rfl, 10, 18, rfl, rfl, ⟨by decide, by decide, by decide⟩, cell, _, rfl, rfl, .ref r.a, rfl, r.a, _, 2, 2, rfl, rfl, er2, rfl, ?_⟩
        show tSeq _ _ _ _ (upd H2 r.a (.lst [.ref r.c, .int ((i + 1 : Nat) : Int), .int (cell - (10 : Int) ^ (18 : Int).toNat), .int (k + 1), .int t]))
        rw [show (10 : Int) ^ (18 : Int).toNat = 1000000000000000000 from p18]
        have m3' : Mv r H (upd H2 r.a (.lst [.ref r.c, .int ((i + 1 : Nat) : Int), .int (cell - 1000000000000000000), .int (k + 1), .int t])) := ⟨fun b o nb e => by rw [upd_ne nb]; exact m2'.keep b o nb e⟩
        have er3 : (upd H2 r.a (.lst [.ref r.c, .int ((i + 1 : Nat) : Int), .int (cell - 1000000000000000000), .int (k + 1), .int t])) r.a = some (.lst [.ref r.c, .int ((i + 1 : Nat) : Int), .int (cell - 1000000000000000000), .int (k + 1), .int t]) := upd_same
        have hb3 : 0 ≤ cell - 1000000000000000000 := by omega
        generalize cell - 1000000000000000000 = b2 at m3' er3 hb3
        generalize upd H2 r.a (.lst [.ref r.c, .int ((i + 1 : Nat) : Int), .int b2, .int (k + 1), .int t]) = H3 at m3' er3
        exact ⟨.ref r.a, rfl, r.a, _, 2, .int b2, rfl, rfl, SqL.of er3, atI_nat (j := 2) rfl, .int m, rfl, b2, m, rfl, rfl, mp, .ref r.a, rfl, r.a, _, 2, .int b2, rfl, rfl, SqL.of er3, atI_nat (j := 2) rfl, .int m, rfl, b2, m, rfl, rfl, mdiv b2, .ref r.a, rfl, r.a, _, 2, 2, rfl, rfl, er3, rfl, .int (b2 % m), rfl, last H3 (i + 1) b2 none m3' er3 hi2 hb3 _ rfl⟩
  · rw [decide_eq_false hb2]
    refine iteF ⟨.ref r.a, rfl, r.a, _, 2, .int b, rfl, rfl, SqL.of er1, atI_nat (j := 2) rfl, b, 2, rfl, rfl, decide (b < 2), rfl, ?_⟩
    rw [decide_eq_false hb2]
    exact iteF ⟨.ref r.a, rfl, r.a, _, 2, .int b, rfl, rfl, SqL.of er1, atI_nat (j := 2) rfl, .int m, rfl, b, m, rfl, rfl, mp, .ref r.a, rfl, r.a, _, 2, .int b, rfl, rfl, SqL.of er1, atI_nat (j := 2) rfl, .int m, rfl, b, m, rfl, rfl, mdiv b, .ref r.a, rfl, r.a, _, 2, 2, rfl, rfl, er1, rfl, .int (b % m), rfl, last H1 i b none m1' er1 hi hb _ rfl⟩
theorem ok_bag {f : Addr} {fd : FuncData} (F : Fun K "_law_bag" "_law_bag" sBag f fd) (hlist : mg "list" = none) : FnOk P w K mg base CX0 1 f fd ["script"] (spBag K) := by
  refine F.ok scBag (fun vs H Q E ⟨a, ns, e, _⟩ => by rw [e]; rfl) (fun cdv A outer s H vs Q E hr h => ?_)
  obtain ⟨a, ns, rfl, hS, q⟩ := h
  have nd := scBag.nd
  refine ⟨_, pss_cons (ps_set (i := 1) nd rfl (.inl rfl) pe_int)
    (pss_cons (ps_for PassesOwn.never rfl (pi_list (pv 0)) (pg_name (i := 2) nd rfl (.inl rfl))
      (pss_one (ps_set (i := 1) nd rfl (.inl rfl) (pe_op op_mod (pe_op op_add (pe_op op_add (pe_op op_mul (pv 1) pe_int) (pe_op op_mod (pv 2) pe_int)) pe_int) pe_int))))
    (pss_one (ps_ret (pe_lst (pa_cons (pe_callTy call_list_of (by rfl) hlist (by decide +kernel) (pa_cons (pv 0) pa_nil)) (pa_cons pe_int (pa_cons pe_int (pa_cons pe_int (pa_cons (pv 1) pa_nil))))))))), ?_⟩
  refine ⟨.ref a, rfl, a, rfl, ⟨_, hS⟩, for_list (xs := ns.map V.int) (fun i σ H2 => H2 = H ∧ ∃ t y2, σ = [some (.ref a), some (.int t), y2] ∧ 0 ≤ t ∧ t < MSP) ⟨rfl, 1, none, rfl, by decide, by decide⟩
    (fun i σ H2 _ ⟨e, _⟩ => by rw [e]; exact hS) (fun i x σ H2 hx ⟨e, t, y2, es, t0, t1⟩ => ?_) (fun σ H2 ⟨e, t, y2, es, t0, t1⟩ => ?_)⟩
  · subst e es
    obtain ⟨c, rfl⟩ : ∃ c, x = .int c := by
      rw [List.getElem?_map] at hx
      cases q : ns[i]? with
      | none => rw [q] at hx; cases hx
      | some c => rw [q] at hx; cases hx; exact ⟨c, rfl⟩
    exact ⟨.int t, rfl, t, 1000003, rfl, rfl, .inr ⟨by decide, by decide⟩, .int c, rfl, c, _, rfl, rfl, (by show (0 : Int) < 2305843009213693951; decide), _, _, rfl, rfl, _, 1, rfl, rfl, _, _, rfl, rfl, (by show (0 : Int) < 2305843009213693951; decide), rfl, _, some (.int c), rfl, Int.emod_nonneg _ (by decide), Int.emod_lt_of_pos _ (by decide)⟩
  · subst e es
    refine ⟨.ref a, rfl, a, _, rfl, .inl hS, fun l nl => ⟨.int t, rfl, small_le (by show 5 ≤ 1000; decide), fun r nr => ?_⟩⟩
    have s1 : Same H2 (upd H2 l (.lst (ns.map V.int))) := same_upd nl
    have lr : l ≠ r := fun z => by rw [← z, upd_same] at nr; cases nr
    exact q ⟨r, l⟩ _ (s1.trans (same_upd nr)) (s1.free nr) ⟨ns, 0, 0, 0, t, upd_same, by rw [upd_ne lr]; exact upd_same, Nat.zero_le _, Int.le_refl 0, Int.le_refl 0, Int.le_refl 0, t0, t1⟩
end
end CL
set_option Elab.async false
set_option linter.all false
set_option maxRecDepth 100000
set_option maxHeartbeats 4000000
namespace CL
open PySem PySem.Spec PyProof.Rows L2 GE
/-! ### how much a thing weighs -/
mutual
def wt : PyData → Nat
  | .none => 4
  | .bool _ => 5
  | .int i => i.natAbs.log2 + 4
  | .str x => (reprText x).length
  | .list xs => wtAll xs + 4
  | .tuple xs => wtAll xs + 4
  | .dict kvs => kvs.length * 100000000 + 2
def wtAll : List PyData → Nat
  | [] => 0
  | x :: xs => wt x + 2 + wtAll xs
end
structure B (k u : Nat) (d : PyData) : Prop where
  dp : d.depth ≤ k
  wt : wt d ≤ u
  sh : d.showable = true
theorem B.mono {k u k' u' : Nat} {d : PyData} (b : B k u d) (hk : k ≤ k') (hu : u ≤ u') : B k' u' d := ⟨Nat.le_trans b.dp hk, Nat.le_trans b.wt hu, b.sh⟩
theorem all_bnd {k u : Nat} : ∀ {ds : List PyData}, (∀ x ∈ ds, B k u x) → PyData.depthAll ds ≤ k ∧ wtAll ds ≤ ds.length * (u + 2) ∧ PyData.showableAll ds = true
  | [], _ => ⟨Nat.zero_le _, by simp [wtAll], by simp [PyData.showableAll]⟩
  | x :: ds, h => by
    obtain ⟨h1, h2, h3⟩ := all_bnd (ds := ds) fun y hy => h y (List.mem_cons_of_mem _ hy)
    have hx := h x List.mem_cons_self
    refine ⟨?_, ?_, ?_⟩
    · show max _ _ ≤ k
      exact Nat.max_le.mpr ⟨hx.dp, h1⟩
    · show wt x + 2 + wtAll ds ≤ _
      rw [List.length_cons, Nat.add_mul]
      have := hx.wt
      omega
    · simp [PyData.showableAll, hx.sh, h3]
theorem B.list {k u n : Nat} {ds : List PyData} (h : ∀ x ∈ ds, B k u x) (hn : ds.length ≤ n) : B (k + 1) (n * (u + 2) + 4) (.list ds) := by
  obtain ⟨h1, h2, h3⟩ := all_bnd h
  have := Nat.mul_le_mul_right (u + 2) hn
  refine ⟨?_, ?_, ?_⟩
  · show PyData.depthAll ds + 1 ≤ k + 1
    omega
  · show wtAll ds + 4 ≤ _
    omega
  · simp [PyData.showable, h3]
theorem B.tuple {k u n : Nat} {ds : List PyData} (h : ∀ x ∈ ds, B k u x) (hn : ds.length ≤ n) : B (k + 1) (n * (u + 2) + 4) (.tuple ds) := by
  obtain ⟨h1, h2, h3⟩ := all_bnd h
  have := Nat.mul_le_mul_right (u + 2) hn
  refine ⟨?_, ?_, ?_⟩
  · show PyData.depthAll ds + 1 ≤ k + 1
    omega
  · show wtAll ds + 4 ≤ _
    omega
  · simp [PyData.showable, h3]
theorem b_none {k : Nat} : B k 200 .none := ⟨Nat.zero_le _, by decide, rfl⟩
theorem b_bool {k : Nat} {b : Bool} : B k 200 (.bool b) := ⟨Nat.zero_le _, by show 5 ≤ 200; decide, rfl⟩
theorem b_int {k : Nat} {i : Int} (h : i.natAbs < 2 ^ 140) : B k 200 (.int i) := by
  have h1 : i.natAbs.log2 < 140 := PySem.Flt.log2_lt_of (by decide) h
  exact ⟨Nat.zero_le _, by show i.natAbs.log2 + 4 ≤ 200; omega, by simp [PyData.showable]; omega⟩
/-- a list of lo to hi things, each P -/
def Ls (lo hi : Nat) (P : PyData → Prop) (d : PyData) : Prop := ∃ ds, d = .list ds ∧ lo ≤ ds.length ∧ ds.length ≤ hi ∧ ∀ x ∈ ds, P x
def Tp (n : Nat) (P : PyData → Prop) (d : PyData) : Prop := ∃ ds, d = .tuple ds ∧ ds.length ≤ n ∧ ∀ x ∈ ds, P x
/-! ### evaluation where nothing but the bag changes, by so many draws -/
theorem BagAt.to {a b : Nat} {H : Hp} {r : Bg} (h : BagAt a H r) (e : a ≤ b := by omega) : BagAt b H r := h.mono e
/-- W is tracked, the bag in it -/
structure Wk (W : Addr → Prop) (H : Hp) (r : Bg) : Prop where
  bag : W r.a
  trk : ∀ b, W b → H b ≠ none
theorem Mv.hw {r : Bg} {W : Addr → Prop} {H H' : Hp} (m : Mv r H H') (h : W r.a) : Same (Hw W H) (Hw W H') := fun b o e => by
  have hb := Hw.ne e
  rw [Hw.at hb]
  exact m.keep b o (fun z => hb (by rw [z]; exact h)) (Hw.sub W H b o e)
theorem Wk.mv {n : Nat} {W : Addr → Prop} {H H' : Hp} {r : Bg} (k : Wk W H r) (re : BagAt n H' r) (m : Mv r H H') : Wk W H' r := ⟨k.bag, fun b hb z => by
  by_cases hr : b = r.a
  · rw [hr] at z
    exact re.some z
  · exact mem_keep m hr (k.trk b hb) z⟩
theorem Wk.out {W : Addr → Prop} {H : Hp} {r : Bg} {p : Addr} (k : Wk W H r) (n : H p = none) : ¬ W p := fun z => k.trk p z n
theorem Wk.add {W : Addr → Prop} {H : Hp} {r : Bg} {p : Addr} (k : Wk W H r) (n : H p ≠ none) : Wk (fun b => W b ∨ b = p) H r := ⟨.inl k.bag, fun b hb => hb.elim (k.trk b) fun z => by rw [z]; exact n⟩
abbrev Gam := List (V × PyData)
def GOk (W : Addr → Prop) (H : Hp) (G : Gam) : Prop := ∀ p ∈ G, Rp (Hw W H) p.1 p.2
theorem GOk.mv {r : Bg} {W : Addr → Prop} {H H' : Hp} {G : Gam} (g : GOk W H G) (m : Mv r H H') (h : W r.a) : GOk W H' G := fun p hp => Rp.sm (m.hw h) (g p hp)
theorem GOk.cons {W : Addr → Prop} {H : Hp} {G : Gam} {v : V} {d : PyData} (g : GOk W H G) (h : Rp (Hw W H) v d) : GOk W H ((v, d) :: G) := fun p hp => by
  rcases List.mem_cons.mp hp with e | hp
  · rw [e]; exact h
  · exact g p hp
structure Se (n : Nat) (r : Bg) (W : Addr → Prop) (G : Gam) (H : Hp) : Prop where
  re : BagAt n H r
  wk : Wk W H r
  ok : GOk W H G
theorem Se.mv {n m : Nat} {r : Bg} {W : Addr → Prop} {G : Gam} {H H' : Hp} (s : Se n r W G H) (re : BagAt m H' r) (mv : Mv r H H') : Se m r W G H' := ⟨re, s.wk.mv re mv, s.ok.mv mv s.wk.bag⟩
theorem Se.same {n : Nat} {r : Bg} {W : Addr → Prop} {G : Gam} {H H' : Hp} (s : Se n r W G H) (m : Same H H') : Se n r W G H' := s.mv (s.re.same m) (Mv.of m)
theorem Se.to {n m : Nat} {r : Bg} {W : Addr → Prop} {G : Gam} {H : Hp} (s : Se n r W G H) (e : n ≤ m := by omega) : Se m r W G H := ⟨s.re.mono e, s.wk, s.ok⟩
theorem rp_list {H : Hp} {v : V} {ds : List PyData} (h : Rp H v (.list ds)) : ∃ p xs, v = .ref p ∧ H p = some (.lst xs) ∧ RpAll H xs ds := by
  cases h with
  | lst h1 h2 => exact ⟨_, _, rfl, h1, h2⟩
theorem RpAll.drop {H : Hp} : ∀ {vs : List V} {ds : List PyData} (n : Nat), RpAll H vs ds → RpAll H (vs.drop n) (ds.drop n)
  | _, _, 0, h => h
  | _, _, _ + 1, .nil => .nil
  | _, _, n + 1, .cons _ t => RpAll.drop n t
theorem rp_intsA {H : Hp} : ∀ ns : List Int, RpAll H (ns.map V.int) (ns.map PyData.int)
  | [] => .nil
  | n :: ns => .cons (.int n) (rp_intsA ns)
section
variable {c c1 c2 c3 : Nat} {r : Bg} {W : Addr → Prop} {G : Gam} {σ : L2.St}
def Ev (c : Nat) (r : Bg) (W : Addr → Prop) (G : Gam) (σ : L2.St) (te : TE) (P : PyData → Prop) : Prop := ∀ n H Q, n + c ≤ M60 → Se n r W G H → (∀ v d H', BagAt (n + c) H' r → Mv r H H' → Rp (Hw W H') v d → P d → Q v H') → te σ H Q
def EvI (c : Nat) (r : Bg) (W : Addr → Prop) (G : Gam) (σ : L2.St) (te : TE) (P : Int → Prop) : Prop := ∀ n H Q, n + c ≤ M60 → Se n r W G H → (∀ i H', BagAt (n + c) H' r → Mv r H H' → P i → Q (.int i) H') → te σ H Q
def EvA (c : Nat) (r : Bg) (W : Addr → Prop) (G : Gam) (σ : L2.St) (ta : TA) (m : Nat) (P : PyData → Prop) : Prop := ∀ n H Q, n + c ≤ M60 → Se n r W G H → (∀ vs ds H', BagAt (n + c) H' r → Mv r H H' → RpAll (Hw W H') vs ds → ds.length = m → (∀ x ∈ ds, P x) → Q vs H') → ta σ H Q
theorem Ev.imp {te : TE} {P P' : PyData → Prop} (e : Ev c r W G σ te P) (h : ∀ d, P d → P' d) : Ev c r W G σ te P' := fun n H Q l s q => e n H Q l s fun v d H' re m rp p => q v d H' re m rp (h d p)
theorem EvI.imp {te : TE} {P P' : Int → Prop} (e : EvI c r W G σ te P) (h : ∀ d, P d → P' d) : EvI c r W G σ te P' := fun n H Q l s q => e n H Q l s fun i H' re m p => q i H' re m (h i p)
theorem EvI.ev {te : TE} {P : Int → Prop} {P' : PyData → Prop} (e : EvI c r W G σ te P) (h : ∀ i, P i → P' (.int i)) : Ev c r W G σ te P' := fun n H Q l s q => e n H Q l s fun i H' re m p => q _ _ H' re m (.int i) (h i p)
theorem ev_int {i : Int} : EvI 0 r W G σ (tC (.int i)) (· = i) := fun n H Q l s q => q i H s.re (Mv.refl r H) rfl
theorem ev_non {P : PyData → Prop} (h : P .none) : Ev 0 r W G σ (tC .non) P := fun n H Q l s q => q _ _ H s.re (Mv.refl r H) .non h
theorem ev_bl {b : Bool} {P : PyData → Prop} (h : P (.bool b)) : Ev 0 r W G σ (tC (.bl b)) P := fun n H Q l s q => q _ _ H s.re (Mv.refl r H) (.bl b) h
theorem ev_str {x : Str} {P : PyData → Prop} (h : P (.str x)) : Ev 0 r W G σ (tC (.str x)) P := fun n H Q l s q => q _ _ H s.re (Mv.refl r H) (.str x) h
theorem ev_dict {P : PyData → Prop} (h : P (.dict [])) : Ev 0 r W G σ tDNewK P := fun n H Q l s q => fun p np => q (.ref p) (.dict []) _ (s.re.same (same_upd np)) (Mv.of (same_upd np)) (.dct (by rw [Hw.at (s.wk.out np)]; exact upd_same)) h
theorem ev_var {i : Nat} {v : V} {d : PyData} {P : PyData → Prop} (h1 : σ[i]? = some (some v)) (h2 : (v, d) ∈ G) (h : P d) : Ev 0 r W G σ (tVar i) P := fun n H Q l s q => ⟨v, h1, q v d H s.re (Mv.refl r H) (s.ok _ h2) h⟩
theorem ev_varI {i : Nat} {x : Int} (h1 : σ[i]? = some (some (.int x))) : EvI 0 r W G σ (tVar i) (· = x) := fun n H Q l s q => ⟨.int x, h1, q x H s.re (Mv.refl r H) rfl⟩
theorem eva_nil {P : PyData → Prop} : EvA 0 r W G σ tNil 0 P := fun n H Q l s q => q [] [] H s.re (Mv.refl r H) .nil rfl (fun _ h => nomatch h)
theorem eva_cons {te : TE} {ta : TA} {m : Nat} {P : PyData → Prop} (e : Ev c1 r W G σ te P) (a : EvA c2 r W G σ ta m P) : EvA (c1 + c2) r W G σ (tCons te ta) (m + 1) P := fun n H Q l s q =>
  e n H _ (by omega) s fun v d H1 re1 m1 rp1 p1 => a (n + c1) H1 _ (by omega) (s.mv re1 m1) fun vs ds H2 re2 m2 rp2 l2 p2 => q (v :: vs) (d :: ds) H2 re2.to (m1.trans m2) (.cons (Rp.sm (m2.hw s.wk.bag) rp1) rp2) (by rw [List.length_cons, l2]) fun x hx => by
    rcases List.mem_cons.mp hx with z | z
    · rw [z]; exact p1
    · exact p2 x z
theorem ev_lst {ta : TA} {m : Nat} {P : PyData → Prop} (a : EvA c r W G σ ta m P) (hn : m ≤ 1000 := by decide) : Ev c r W G σ (tLst ta) (Ls m m P) := fun n H Q l s q =>
  a n H _ l s fun vs ds H1 re1 m1 rp1 l1 p1 => ⟨small_le (by rw [rp1.length]; omega), fun p np => q (.ref p) (.list ds) _ (re1.same (same_upd np)) (m1.trans (Mv.of (same_upd np)))
    (.lst (by rw [Hw.at ((s.wk.mv re1 m1).out np)]; exact upd_same) (RpAll.sm (Same.hw (same_upd np)) rp1)) ⟨ds, rfl, Nat.le_of_eq l1.symm, Nat.le_of_eq l1, p1⟩⟩
theorem ev_tup {ta : TA} {m : Nat} {P : PyData → Prop} (a : EvA c r W G σ ta m P) (hn : m ≤ 1000 := by decide) : Ev c r W G σ (tTup ta) (Tp m P) := fun n H Q l s q =>
  a n H _ l s fun vs ds H1 re1 m1 rp1 l1 p1 => ⟨small_le (by rw [rp1.length]; omega), fun p np => q (.ref p) (.tuple ds) _ (re1.same (same_upd np)) (m1.trans (Mv.of (same_upd np)))
    (.tup (by rw [Hw.at ((s.wk.mv re1 m1).out np)]; exact upd_same) (RpAll.sm (Same.hw (same_upd np)) rp1)) ⟨ds, rfl, Nat.le_of_eq l1, p1⟩⟩
/-- two lists, the one behind the other, by what each is -/
theorem ev_catG {ta tb : TE} {PA PB PC : PyData → Prop} (a : Ev c1 r W G σ ta PA) (b : Ev c2 r W G σ tb PB) (h : ∀ d e, PA d → PB e → ∃ ds es, d = .list ds ∧ e = .list es ∧ ds.length ≤ 1000 ∧ es.length ≤ 1000 ∧ PC (.list (ds ++ es))) : Ev (c1 + c2) r W G σ (tOp rCat ta tb) PC := fun n H Q l s q =>
  a n H _ (by omega) s fun v d H1 re1 m1 rp1 e1 => b (n + c1) H1 _ (by omega) (s.mv re1 m1) fun v2 d2 H2 re2 m2 rp2 e2 => by
    obtain ⟨ds, es, z1, z2, hn, hm, hc⟩ := h d d2 e1 e2
    subst z1 z2
    obtain ⟨p, xs, rfl, hp, hx⟩ := rp_list (Rp.sm (m2.hw s.wk.bag) rp1)
    obtain ⟨p', ys, rfl, hp', hy⟩ := rp_list rp2
    have wk2 := s.wk.mv re2 (m1.trans m2)
    exact ⟨p, p', xs, ys, rfl, rfl, Hw.sub W H2 _ _ hp, Hw.sub W H2 _ _ hp', small_add (by rw [hx.length]; exact hn) (by rw [hy.length]; exact hm), fun t nt => q (.ref t) (.list (ds ++ es)) _ (re2.same (same_upd nt)).to ((m1.trans m2).trans (Mv.of (same_upd nt)))
      (.lst (by rw [Hw.at (wk2.out nt)]; exact upd_same) (RpAll.sm (Same.hw (same_upd nt)) (hx.append hy))) hc⟩
theorem ev_cat {ta tb : TE} {l1 h1 l2 h2 : Nat} {P : PyData → Prop} (a : Ev c1 r W G σ ta (Ls l1 h1 P)) (b : Ev c2 r W G σ tb (Ls l2 h2 P)) (hn : h1 ≤ 1000 := by decide) (hm : h2 ≤ 1000 := by decide) : Ev (c1 + c2) r W G σ (tOp rCat ta tb) (Ls (l1 + l2) (h1 + h2) P) :=
  ev_catG a b fun d e ⟨ds, e1, a1, b1, p1⟩ ⟨es, e2, a2, b2, p2⟩ => ⟨ds, es, e1, e2, by omega, by omega, ds ++ es, rfl, by rw [List.length_append]; omega, by rw [List.length_append]; omega, fun x hx => (List.mem_append.mp hx).elim (p1 x) (p2 x)⟩
theorem part_none : ∀ n H (Q : Option Int → Hp → Prop), n + 0 ≤ M60 → Se n r W G H → (∀ l H', BagAt (n + 0) H' r → Mv r H H' → l = none → Q l H') → tNoPart σ H Q := fun n H Q l s q => q none H s.re (Mv.refl r H) rfl
theorem part_some {te : TE} {P : Int → Prop} (e : EvI c r W G σ te P) : ∀ n H (Q : Option Int → Hp → Prop), n + c ≤ M60 → Se n r W G H → (∀ l H', BagAt (n + c) H' r → Mv r H H' → (∃ i, l = some i ∧ P i) → Q l H') → tPart te σ H Q := fun n H Q l s q => e n H _ l s fun i H' re m p => ⟨i, rfl, q (some i) H' re m ⟨i, rfl, p⟩⟩
/-- a part of a list, by its ends -/
theorem ev_slG {K : PySem.W.Frag} {te : TE} {tl th : TO} {PA PC : PyData → Prop} {PL PH : Option Int → Prop} (a : Ev c1 r W G σ te PA) (hl : ∀ n H Q, n + c2 ≤ M60 → Se n r W G H → (∀ l H', BagAt (n + c2) H' r → Mv r H H' → PL l → Q l H') → tl σ H Q) (hh : ∀ n H Q, n + c3 ≤ M60 → Se n r W G H → (∀ l H', BagAt (n + c3) H' r → Mv r H H' → PH l → Q l H') → th σ H Q)
    (h : ∀ d l u, PA d → PL l → PH u → ∃ ds, d = .list ds ∧ PC (.list ((ds.drop (HT.sIx ds.length 0 l)).take (HT.sIx ds.length ds.length u - HT.sIx ds.length 0 l)))) :
    Ev (c1 + c2 + c3) r W G σ (tSl (rSlL K) te tl th) PC := fun n H Q l s q =>
  a n H _ (by omega) s fun v d H1 re1 m1 rp1 e1 => hl (n + c1) H1 _ (by omega) (s.mv re1 m1) fun l H2 re2 m2 pl => hh (n + c1 + c2) H2 _ (by omega) (s.mv re2 (m1.trans m2)) fun u H3 re3 m3 pu => by
    obtain ⟨ds, z, hc⟩ := h d l u e1 pl pu
    subst z
    obtain ⟨p, xs, rfl, hp, hx⟩ := rp_list (Rp.sm ((m2.trans m3).hw s.wk.bag) rp1)
    have m13 := m1.trans (m2.trans m3)
    have wk3 := s.wk.mv re3 m13
    have lx := hx.length
    refine ⟨p, xs, rfl, SqL.of (Hw.sub W H3 _ _ hp), fun t nt => q (.ref t) _ _ (re3.same (same_upd nt)).to (m13.trans (Mv.of (same_upd nt)))
      (.lst (by rw [Hw.at (wk3.out nt)]; exact upd_same) (RpAll.sm (Same.hw (same_upd nt)) ((hx.drop _).take _))) ?_⟩
    rw [lx]
    exact hc
theorem ev_sl {K : PySem.W.Frag} {te : TE} {tl th : TO} {lo hi : Nat} {P : PyData → Prop} {PL PH : Option Int → Prop} (a : Ev c1 r W G σ te (Ls lo hi P)) (hl : ∀ n H Q, n + c2 ≤ M60 → Se n r W G H → (∀ l H', BagAt (n + c2) H' r → Mv r H H' → PL l → Q l H') → tl σ H Q) (hh : ∀ n H Q, n + c3 ≤ M60 → Se n r W G H → (∀ l H', BagAt (n + c3) H' r → Mv r H H' → PH l → Q l H') → th σ H Q) :
    Ev (c1 + c2 + c3) r W G σ (tSl (rSlL K) te tl th) (Ls 0 hi P) := ev_slG a hl hh fun d l u ⟨ds, e1, a1, b1, p1⟩ _ _ => ⟨ds, e1, _, rfl, Nat.zero_le _, by rw [List.length_take, List.length_drop]; omega, fun x hx => p1 x (List.mem_of_mem_drop (List.mem_of_mem_take hx))⟩
theorem ev_draw {tm : TE} {m : Int} (e : EvI c r W G σ tm (· = m)) (h0 : σ[0]? = some (some (.ref r.a))) (h1 : 1 ≤ m) (h2 : m < 2 ^ 140) : EvI (c + 1) r W G σ (tCall (spDraw r) [] E0 (tCons (tVar 0) (tCons tm tNil))) (fun x => 0 ≤ x ∧ x < m) := fun n H Q l s q =>
  ⟨.ref r.a, h0, e n H _ (by omega) s fun i H1 re1 m1 e1 => ⟨m, n + c, by rw [e1]; rfl, re1, by omega, h1, h2, fun x H' re' m' x0 x1 => q x H' re'.to (m1.trans m') ⟨x0, x1⟩⟩⟩
theorem ev_ixG {K : PySem.W.Frag} {ta ti : TE} {PA PC : PyData → Prop} {PI : Int → Prop} (a : Ev c1 r W G σ ta PA) (b : EvI c2 r W G σ ti PI) (h : ∀ d i, PA d → PI i → ∃ ds, d = .list ds ∧ 0 ≤ i ∧ i < (ds.length : Int) ∧ ∀ x, ds[i.toNat]? = some x → PC x) : Ev (c1 + c2) r W G σ (tOp (rIxL K) ta ti) PC := fun n H Q l s q =>
  a n H _ (by omega) s fun v d H1 re1 m1 rp1 e1 => b (n + c1) H1 _ (by omega) (s.mv re1 m1) fun i H2 re2 m2 hi => by
    obtain ⟨ds, z, i0, i1, hc⟩ := h d i e1 hi
    subst z
    obtain ⟨p, xs, rfl, hp, hx⟩ := rp_list (Rp.sm (m2.hw s.wk.bag) rp1)
    obtain ⟨j, rfl⟩ : ∃ j : Nat, i = (j : Int) := ⟨i.toNat, (Int.toNat_of_nonneg i0).symm⟩
    have hj : j < xs.length := by have := hx.length; omega
    obtain ⟨d, hd, hr⟩ := hx.get (List.getElem?_eq_getElem hj)
    exact ⟨p, xs, j, xs[j], rfl, rfl, SqL.of (Hw.sub W H2 _ _ hp), atI_nat (List.getElem?_eq_getElem hj), q _ d H2 re2.to (m1.trans m2) hr (hc d hd)⟩
theorem ev_ix {K : PySem.W.Frag} {ta ti : TE} {lo hi : Nat} {P : PyData → Prop} (a : Ev c1 r W G σ ta (Ls lo hi P)) (b : EvI c2 r W G σ ti (fun x => 0 ≤ x ∧ x < (lo : Int))) : Ev (c1 + c2) r W G σ (tOp (rIxL K) ta ti) P :=
  ev_ixG a b fun d i ⟨ds, e1, a1, b1, p1⟩ hi => ⟨ds, e1, hi.1, by omega, fun x hx => p1 x (List.mem_of_getElem? hx)⟩
theorem ev_len {K : PySem.W.Frag} {i : Nat} {v : V} {ds : List PyData} (h1 : σ[i]? = some (some v)) (h2 : (v, PyData.list ds) ∈ G) :
    EvI 0 r W G σ (tCB (fun xs H Q => ∃ p ys, xs = [.ref p] ∧ (SqL K H p ys ∨ SqT K H p ys) ∧ Q (.int ys.length) H) (tCons (tVar i) tNil)) (· = (ds.length : Int)) := fun n H Q l s q => by
  obtain ⟨p, xs, rfl, hp, hx⟩ := rp_list (s.ok _ h2)
  exact ⟨.ref p, h1, p, xs, rfl, .inl (SqL.of (Hw.sub W H _ _ hp)), q _ H s.re (Mv.refl r H) (by rw [hx.length])⟩
theorem evi_add {ta tb : TE} {x y : Int} (a : EvI c1 r W G σ ta (· = x)) (b : EvI c2 r W G σ tb (· = y)) : EvI (c1 + c2) r W G σ (tOp (rI0 fun i j => .int (i + j)) ta tb) (· = x + y) := fun n H Q l s q =>
  a n H _ (by omega) s fun i H1 re1 m1 e1 => b (n + c1) H1 _ (by omega) (s.mv re1 m1) fun j H2 re2 m2 e2 => ⟨i, j, rfl, rfl, q _ H2 re2.to (m1.trans m2) (by rw [e1, e2])⟩
theorem evi_sub {ta tb : TE} {x y : Int} (a : EvI c1 r W G σ ta (· = x)) (b : EvI c2 r W G σ tb (· = y)) : EvI (c1 + c2) r W G σ (tOp (rI0 fun i j => .int (i - j)) ta tb) (· = x - y) := fun n H Q l s q =>
  a n H _ (by omega) s fun i H1 re1 m1 e1 => b (n + c1) H1 _ (by omega) (s.mv re1 m1) fun j H2 re2 m2 e2 => ⟨i, j, rfl, rfl, q _ H2 re2.to (m1.trans m2) (by rw [e1, e2])⟩
theorem evi_pow {x y : Int} (h : CPow x y) : EvI 0 r W G σ (tOp (rI CPow fun i j => .int (i ^ j.toNat)) (tC (.int x)) (tC (.int y))) (· = x ^ y.toNat) := fun n H Q l s q =>
  ⟨x, y, rfl, rfl, h, q _ H s.re (Mv.refl r H) rfl⟩
theorem evi_neg {x : Int} : EvI 0 r W G σ (tUn (rU fun i => .int (-i)) (tC (.int x))) (· = -x) := fun n H Q l s q => ⟨x, rfl, q _ H s.re (Mv.refl r H) rfl⟩
theorem ev_set {te : TE} {i n : Nat} {P : PyData → Prop} {D : Ends} {H : Hp} (e : Ev c r W G σ te P) (l : n + c ≤ M60) (s : Se n r W G H) (h : ∀ v d H', Se (n + c) r W ((v, d) :: G) H' → Mv r H H' → P d → D.nx (σ.set i (some v)) H') : tAsg te (gName i) D σ H :=
  e n H _ l s fun v d H' re m rp p => h v d H' ⟨re, s.wk.mv re m, (s.ok.mv m s.wk.bag).cons rp⟩ m p
theorem evi_set {te : TE} {i n : Nat} {P : Int → Prop} {D : Ends} {H : Hp} (e : EvI c r W G σ te P) (l : n + c ≤ M60) (s : Se n r W G H) (h : ∀ x H', Se (n + c) r W G H' → Mv r H H' → P x → D.nx (σ.set i (some (.int x))) H') : tAsg te (gName i) D σ H :=
  e n H _ l s fun x H' re m p => h x H' (s.mv re m) m p
end
end CL
set_option Elab.async false
set_option linter.all false
set_option maxRecDepth 100000
set_option maxHeartbeats 4000000
namespace CL
open PySem PySem.Spec PyProof.Rows L2 GE
/-! ### a def that is called where no repr is under way -/
structure FnG (P : Program) (w : World) (K : PySem.W.Frag) (mg : Str → Option Value) (base : Heap) (k : Nat) (f : Addr) (fd : FuncData) (ps : List Str) (sp : Sp) : Prop where
  run : ∀ (A : Around) (outer : List Env) (s : Shared) (H : Hp) (args : Args) (us : List Value) (vs : List V) (Q : VK) (E : XK), A.guards = some [] → Room k A → Env0 P w K mg base A outer s H → BindsTo s fd args (ps.zip us) → Vals vs us → sp vs H Q E →
    codeAny (model P w) A (.call (.ref f) args) (CR CX0 outer P w H s Q E) s
theorem fng_of {P : Program} {w : World} {K : PySem.W.Frag} {mg : Str → Option Value} {base : Heap} {x qual : Str} {st : Stmt} {f : Addr} {fd : FuncData} {N ps : List Str} {k : Nat} {sp : Sp} (F : Fun K x qual st f fd) (S : FnScope N ps (defScope st)) (len : ∀ vs H Q E, sp vs H Q E → vs.length = ps.length)
    (hbody : ∀ (cdv : Value) (A : Around) (outer : List Env) (s : Shared) (H : Hp) (vs : List V) (Q : VK) (E : XK), A.guards = some [] → Room k (A.deeper (envOfC qual (defScope st) s.heap.objs.size f cdv)) → sp vs H Q E →
      ∃ t, PSs (cxOf CX0 P w K mg base N qual (defScope st) f cdv A outer s H E).nox (defBody st) t ∧ t { nx := fun _ H' => Q .non H', rt := Q } (start N vs) H) : FnG P w K mg base (k + 1) f fd ps sp := by
  obtain ⟨oc, od, kV, doc, pm, an, cdv, ct, osl, rfl, lk, hcd⟩ := F.ex
  constructor
  intro A outer s H args us vs Q E hgd hr e0 hb r hsp
  have hl : vs.length = ps.length := len _ _ _ _ hsp
  have up : ∀ b o, base.get? b = some o → s.heap.get? b = some o := fun b o e => (e0.bs b o e).1
  have KX : K.In s.heap := e0.mod.kin.keeps up
  have pk : ∀ y ∈ ps.zip us, (defScope st).names.lookup y.1 = some .local ∨ ((defScope st).names.lookup y.1 = some .cell ∧ ((cellsFrom (s.heap.objs.size + 1) (defScope st).names []).lookup y.1).isSome = true) := by
    rintro ⟨n, v⟩ hy
    exact (S.par n (List.of_mem_zip hy).1).imp id fun q => ⟨q, PySem.W.cellsFrom_some _ _ _ (.inl q)⟩
  refine codeAny_call_function hr.depth (KX _ _ lk) rfl S.co S.gen rfl (PySem.W.codeRec_of KX hcd) (hb _ _ _ _ (wpAny_newFunctionEnv_cells S.kind pk fun env he s1 x => ?_))
  subst he
  obtain ⟨t, ht, hq⟩ := hbody cdv A outer s H vs Q E hgd (hr.deeper _) hsp
  refine ⟨(e0.mod.nolimit.keeps up).keeps x.toInCall.keep, codeAny_func (wpAny_mono (ht.nox.run [] s1 (start N vs) H _ (inv_start S hr.hd e0 hl r x) hq) (fun fl s' hs => ?_) fun _ _ z => z)⟩
  cases fl with
  | ret u =>
    obtain ⟨v, _, H', J, rv, z⟩ := hs
    exact ⟨v, H', J.os, J.bare, J.base, J.hok, rv, z⟩
  | next =>
    obtain ⟨_, H', J, z⟩ := hs
    exact ⟨.non, H', J.os, J.bare, J.base, J.hok, rfl, z⟩
  | brk => exact (let ⟨_, _, _, z⟩ := hs; z : False).elim
  | cont => exact (let ⟨_, _, _, z⟩ := hs; z : False).elim
/-! ### repr of data -/
section
variable {X : Cx} {pins : List (Addr × Obj)} {σ : L2.St} {H : Hp} {s : Shared}
mutual
theorem Rp.reads (hsys : ∃ o, X.base.get? sysModules = some o) (I : Inv X pins σ H s) : ∀ (d : PyData) (v : V) (u : Value), Rp H v d → RelV v u → ∃ as, Reads s.heap u d as ∧ sysModules ∉ as
  | .none, _, _, h, r => by cases h; cases r; exact ⟨_, Reads.none, by simp⟩
  | .bool b, _, _, h, r => by cases h; cases r; exact ⟨_, Reads.bool b, by simp⟩
  | .int i, _, _, h, r => by cases h; obtain ⟨t, rfl⟩ := r; exact ⟨_, Reads.int i t, by simp⟩
  | .str x, _, _, h, r => by cases h; obtain ⟨t, rfl⟩ := r; exact ⟨_, Reads.str x t, by simp⟩
  | .list ds, _, _, h, r => by
    cases h with
    | @lst a xs _ hs ha =>
      cases r
      obtain ⟨its, rv, ⟨o, n, ho, hc, _, hd⟩, _⟩ := I.list (SqL.of hs)
      obtain ⟨as, hr, hn⟩ := RpAll.reads hsys I ds _ its ha rv
      refine ⟨_, Reads.list ho hc hd hr, fun z => (List.mem_cons.mp z).elim (fun e => ?_) hn⟩
      obtain ⟨o1, ho1⟩ := hsys
      have z := (I.bs _ _ ho1).2
      rw [e, hs] at z
      cases z
  | .tuple ds, _, _, h, r => by
    cases h with
    | tup hs ha =>
      cases r
      obtain ⟨its, rv, ⟨o, ho, hc, n, hd⟩, _⟩ := I.tuple (SqT.of hs)
      obtain ⟨as, hr, hn⟩ := RpAll.reads hsys I ds _ its ha rv
      exact ⟨_, Reads.tuple ho hc hd hr, hn⟩
  | .dict kvs, _, _, h, r => by
    cases h with
    | @dct a hs =>
      cases r
      obtain ⟨_, hne, vs, kv, o, es, ep, ho, hx, hd, _, hp, _⟩ := (show ObjOk X.prog X.w H s.heap a (.dK []) from I.hok a _ hs)
      cases kv
      have e0 : es.toList = [] := List.eq_nil_of_length_eq_zero hp.length
      refine ⟨_, Reads.dict ho hx.1 hd (by rw [e0]; exact .nil) (by rw [e0]; exact .nil), fun z => ?_⟩
      have z' : sysModules = a := by simpa using z
      rw [z'] at hne
      simp at hne
theorem RpAll.reads (hsys : ∃ o, X.base.get? sysModules = some o) (I : Inv X pins σ H s) : ∀ (ds : List PyData) (vs : List V) (us : List Value), RpAll H vs ds → Vals vs us → ∃ as, ReadsAll s.heap us ds as ∧ sysModules ∉ as
  | [], _, _, h, r => by cases h; cases r; exact ⟨_, ReadsAll.nil, by simp⟩
  | d :: ds, _, _, h, r => by
    cases h with
    | cons h1 h2 =>
      cases r with
      | cons r1 r2 =>
        obtain ⟨as, q1, n1⟩ := Rp.reads hsys I d _ _ h1 r1
        obtain ⟨bs, q2, n2⟩ := RpAll.reads hsys I ds _ _ h2 r2
        exact ⟨_, ReadsAll.cons q1 q2, fun z => (List.mem_append.mp z).elim n1 n2⟩
end
end
/-! ### how long a thing is, shown -/
theorem piled_le {ts : List Str} : ∀ {ds : List PyData}, ts = PyData.shownAll ds → (∀ d ∈ ds, d.shown.length ≤ wt d) → piled ts ≤ wtAll ds
  | [], e, _ => by rw [e]; exact Nat.le_refl 0
  | d :: ds, e, h => by
    have ih := piled_le (ts := PyData.shownAll ds) rfl fun x hx => h x (List.mem_cons_of_mem _ hx)
    have h1 := h d List.mem_cons_self
    rw [e]
    show d.shown.length + 2 + piled (PyData.shownAll ds) ≤ wt d + 2 + wtAll ds
    omega
theorem list_len (ts : List Str) : (listText ts).length ≤ piled ts + 2 := by
  cases ts with
  | nil => decide +kernel
  | cons t r =>
    have h := textFrom_length_pos r 1 (("[" : Str) ++ (if (0 : Nat) > 0 then ", " else "" : String) ++ t) (Nat.succ_pos 0)
    have hX : (listText (t :: r)).length = (textFrom 1 (("[" : Str) ++ (if (0 : Nat) > 0 then ", " else "" : String) ++ t) r).length + 1 := by
      show (textFrom 1 _ r ++ "]").length = _
      rw [Str.length_append]
      rfl
    have e1 : ((("[" : Str) ++ (if (0 : Nat) > 0 then ", " else "" : String) ++ t) : Str).length = 1 + t.length := by
      rw [Str.length_append, Str.length_append]
      rfl
    have e2 : piled (t :: r) = t.length + 2 + piled r := rfl
    omega
theorem tuple_len (ts : List Str) : (tupleText ts).length ≤ piled ts + 3 := by
  have h : (Str.join ", " ts).length ≤ piled ts := by
    by_cases e : ts = []
    · rw [e]; decide +kernel
    · have := join_length_add ts e
      omega
  unfold tupleText
  rw [Str.length_append, Str.length_append]
  have h1 : (("(" : Str)).length = 1 := by decide +kernel
  have h2 : ((if ts.length == 1 then ",)" else ")" : String) : Str).length ≤ 2 := by
    split <;> decide +kernel
  omega
mutual
theorem shown_le : ∀ d : PyData, wt d ≤ 10000000 → d.showable = true → d.shown.length ≤ wt d
  | .none, _, _ => by decide +kernel
  | .bool b, _, _ => by cases b <;> decide +kernel
  | .int i, _, _ => by
    have h := int_text_length_le (a := i) (k := i.natAbs.log2 + 1) (Nat.succ_pos _) (Nat.lt_succ_self _)
    show (Str.ofString (toString i)).length ≤ i.natAbs.log2 + 4
    rw [PySem.ofString_length]
    omega
  | .str x, _, _ => Nat.le_refl _
  | .list ds, h, s => by
    have h1 := shown_all ds (by have : wt (.list ds) = wtAll ds + 4 := rfl; omega) (by simpa [PyData.showable] using s)
    have h2 := piled_le rfl h1
    have h3 := list_len (PyData.shownAll ds)
    show (listText (PyData.shownAll ds)).length ≤ wtAll ds + 4
    omega
  | .tuple ds, h, s => by
    have h1 := shown_all ds (by have : wt (.tuple ds) = wtAll ds + 4 := rfl; omega) (by simpa [PyData.showable] using s)
    have h2 := piled_le rfl h1
    have h3 := tuple_len (PyData.shownAll ds)
    show (tupleText (PyData.shownAll ds)).length ≤ wtAll ds + 4
    omega
  | .dict [], _, _ => by decide +kernel
  | .dict (x :: kvs), h, _ => by
    have : wt (.dict (x :: kvs)) = (kvs.length + 1) * 100000000 + 2 := rfl
    omega
theorem shown_all : ∀ ds : List PyData, wtAll ds ≤ 10000000 → PyData.showableAll ds = true → ∀ d ∈ ds, d.shown.length ≤ wt d
  | [], _, _, d, hd => nomatch hd
  | x :: ds, h, s, d, hd => by
    have e : wtAll (x :: ds) = wt x + 2 + wtAll ds := rfl
    have s' : x.showable = true ∧ PyData.showableAll ds = true := by simpa [PyData.showableAll] using s
    rcases List.mem_cons.mp hd with z | z
    · rw [z]
      exact shown_le x (by omega) s'.1
    · exact shown_all ds (by omega) s'.2 d z
end
/-! ### repr(x) of a list or a tuple -/
theorem call_reprD {X : Cx} {k : Nat} (hg : X.A.guards = some []) (hr : Room k X.A) (hsys : ∃ o, X.base.get? sysModules = some o) :
    CallR X (.builtin "repr") (fun xs H Q => ∃ v d a, xs = [v] ∧ v = .ref a ∧ Rp H v d ∧ B 100 10000000 d ∧ Q (.str d.shown) H) := by
  intro pins s σ H xs us Q I r h
  obtain ⟨v, d, a, rfl, rfl, hR, hB, q⟩ := h
  obtain ⟨u, rfl, rx⟩ := vals1 r
  obtain ⟨as, hrd, hno⟩ := Rp.reads hsys I d _ _ hR rx
  cases rx
  refine repr_of_reads' hrd hB.sh (fun _ => hno) hg (by have := hr.un; have := hB.dp; omega) (fun _ _ e => e) (fun h' u tk hk => ⟨.str _, H, I.kept hk, ⟨_, rfl⟩, q⟩) ?_
  have h1 := shown_le d hB.wt hB.sh
  have h2 := hB.wt
  rw [sizeLine_eq]
  omega
end CL
set_option Elab.async false
set_option linter.all false
set_option maxRecDepth 100000
set_option maxHeartbeats 4000000
namespace CL
open PySem PySem.Spec PyProof.Rows L2 GE
/-! ### what a call that fills tables leaves -/
theorem Ex.some {H H' : Hp} (e : Ex H H') {b : Addr} (n : H b ≠ none) : H' b ≠ none := fun z => n (e.free z)
theorem Wk.ex {W : Addr → Prop} {H H' : Hp} {r : Bg} (k : Wk W H r) (e : Ex H H') : Wk W H' r := ⟨k.bag, fun b hb => e.some (k.trk b hb)⟩
theorem Ex.hw {W : Addr → Prop} {H H' : Hp} (e : Ex H H') : Ex (Hw W H) (Hw W H') := fun b o h => by
  rw [Hw.at (Hw.ne h)]
  exact e b o (Hw.sub W H b o h)
theorem Se.ex {n : Nat} {r : Bg} {W : Addr → Prop} {G : Gam} {H H' : Hp} (s : Se n r W G H) (e : Ex H H') : Se n r W G H' := ⟨s.re.kx e, s.wk.ex e, fun p hp => Rp.ex e.hw _ _ (s.ok p hp)⟩
theorem tabG_mv {n : Nat} {P : Addr} {r : Bg} {H H' : Hp} (h : GxR.TabG H P) (hr : BagAt n H r) (m : Mv r H H') : GxR.TabG H' P := by
  obtain ⟨ps, e, t⟩ := h
  obtain ⟨ns, i, b, k, tt, er, _⟩ := hr
  exact ⟨ps, m.keep P _ (fun z => by rw [z, er] at e; cases e) e, t⟩
theorem tabG_upd {P p : Addr} {H : Hp} {o : HO} (h : GxR.TabG H P) (n : ∀ ps, H p ≠ some (.tbl ps)) : GxR.TabG (upd H p o) P := by
  obtain ⟨ps, e, t⟩ := h
  exact ⟨ps, by rw [upd_ne fun z => n ps (by rw [← z]; exact e)]; exact e, t⟩
def spE (sp : Bg → Sp) : Sp := fun vs H Q E => ∃ r, sp r vs H Q E
section
variable {c c1 c2 : Nat} {r : Bg} {W : Addr → Prop} {G : Gam} {σ : L2.St}
theorem ev_tupE {K : PySem.W.Frag} {te : TE} {PA PC : PyData → Prop} (e : Ev c r W G σ te PA) (h : ∀ d, PA d → ∃ ds, d = .list ds ∧ PC (.tuple ds)) :
    Ev c r W G σ (tCB (fun xs H Q => ∃ p ys, xs = [.ref p] ∧ ((SqL K H p ys ∧ ∀ l, H l = none → Q (.ref l) (upd H l (.tup ys))) ∨ (SqT K H p ys ∧ Q (.ref p) H))) (tCons te tNil)) PC := fun n H Q l s q =>
  e n H _ l s fun v d H1 b1 m1 rp p1 => by
    obtain ⟨ds, z, hc⟩ := h d p1
    subst z
    obtain ⟨p, xs, rfl, hp, hx⟩ := rp_list rp
    exact ⟨p, xs, rfl, .inl ⟨SqL.of (Hw.sub W H1 _ _ hp), fun t nt => q (.ref t) (.tuple ds) _ (b1.same (same_upd nt)) (m1.trans (Mv.of (same_upd nt))) (.tup (by rw [Hw.at ((s.wk.mv b1 m1).out nt)]; exact upd_same) (RpAll.sm (Same.hw (same_upd nt)) hx)) hc⟩⟩
end
/-! ### a list that grows, hidden from the other data -/
structure DS (n : Nat) (r : Bg) (D : Addr) (G : Gam) (ds : List PyData) (H : Hp) : Prop where
  se : Se n r (fun b => b = r.a ∨ b = D) G H
  at_ : ∃ vs, H D = some (.lst vs) ∧ RpAll (Hw (fun b => b = r.a ∨ b = D) H) vs ds
  off : Off r D
section
variable {n c c1 c2 : Nat} {r : Bg} {G : Gam} {σ : L2.St} {H : Hp} {D0 : Ends} {i : Nat} {ds es : List PyData}
theorem DS.mk' {W : Addr → Prop} {H1 : Hp} {t : Addr} {vs : List V} (se : Se n r W G H1) (nt : H1 t = none) (hv : RpAll (Hw W H1) vs ds) : DS n r t G ds (upd H1 t (.lst vs)) := by
  have ex : Same (Hw W H1) (Hw (fun b => b = r.a ∨ b = t) (upd H1 t (.lst vs))) := by
    rw [hw_upd (.inr rfl)]
    exact Hw.more fun b hb => hb.elim (fun e => .inl (by rw [e]; exact se.wk.bag)) fun e => .inr (by rw [e]; exact nt)
  have off := se.re.new nt
  refine ⟨⟨se.re.same (same_upd nt), ⟨.inl rfl, fun b hb => ?_⟩, fun p hp => Rp.sm ex (se.ok p hp)⟩, ⟨vs, upd_same, RpAll.sm ex hv⟩, off⟩
  rcases hb with e | e
  · rw [e, upd_ne (Ne.symm off.a)]; exact se.re.some
  · rw [e, upd_same]; exact nofun
theorem ds_catE {W : Addr → Prop} {ta tb : TE} {PA PB : PyData → Prop} (a : Ev c1 r W G σ ta PA) (b : Ev c2 r W G σ tb PB) (l : n + (c1 + c2) ≤ M60) (s : Se n r W G H) (h : ∀ d e, PA d → PB e → ∃ ds es, d = .list ds ∧ e = .list es ∧ ds.length ≤ 1000 ∧ es.length ≤ 1000)
    (h2 : ∀ D ds es H', Mv r H H' → DS (n + (c1 + c2)) r D G (ds ++ es) H' → PA (.list ds) → PB (.list es) → D0.nx (σ.set i (some (.ref D))) H') : tAsg (tOp rCat ta tb) (gName i) D0 σ H :=
  a n H _ (by omega) s fun v d H1 re1 m1 rp1 e1 => b (n + c1) H1 _ (by omega) (s.mv re1 m1) fun v2 d2 H2 re2 m2 rp2 e2 => by
    obtain ⟨ds, es, z1, z2, hn, hm⟩ := h d d2 e1 e2
    subst z1 z2
    obtain ⟨p, xs, rfl, hp, hx⟩ := rp_list (Rp.sm (m2.hw s.wk.bag) rp1)
    obtain ⟨p', ys, rfl, hp', hy⟩ := rp_list rp2
    have re3 : BagAt (n + (c1 + c2)) H2 r := re2.to
    exact ⟨p, p', xs, ys, rfl, rfl, Hw.sub W H2 _ _ hp, Hw.sub W H2 _ _ hp', small_add (by rw [hx.length]; exact hn) (by rw [hy.length]; exact hm), fun t nt => h2 t ds es _ ((m1.trans m2).trans (Mv.of (same_upd nt))) (DS.mk' (s.mv re3 (m1.trans m2)) nt (hx.append hy)) e1 e2⟩
theorem DS.app {D : Addr} {m : Nat} (s : DS n r D G ds H) {H1 : Hp} {v : V} {d : PyData} (re1 : BagAt m H1 r) (m1 : Mv r H H1) (rp : Rp (Hw (fun b => b = r.a ∨ b = D) H1) v d) : ∃ vs, H1 D = some (.lst vs) ∧ vs.length = ds.length ∧ DS m r D G (ds ++ [d]) (upd H1 D (.lst (vs ++ [v]))) := by
  obtain ⟨vs, hD, hv⟩ := s.at_
  have hD1 := m1.keep D _ s.off.a hD
  have se1 := s.se.mv re1 m1
  have hv1 := RpAll.sm (m1.hw (W := fun b => b = r.a ∨ b = D) (.inl rfl)) hv
  refine ⟨vs, hD1, hv.length, ⟨re1.store s.off, ⟨.inl rfl, fun b hb => ?_⟩, fun p hp => ?_⟩, ⟨_, upd_same, ?_⟩, s.off⟩
  · rcases hb with e | e
    · rw [e, upd_ne (Ne.symm s.off.a)]; exact re1.some
    · rw [e, upd_same]; exact nofun
  · rw [hw_upd (.inr rfl)]; exact se1.ok p hp
  · rw [hw_upd (.inr rfl)]; exact hv1.snoc rp
/-- the list shown again -/
theorem DS.back {D : Addr} (s : DS n r D G ds H) : Se n r (fun b => b = r.a) ((.ref D, .list ds) :: G) H := by
  obtain ⟨vs, hD, hv⟩ := s.at_
  have less : Same (Hw (fun b => b = r.a ∨ b = D) H) (Hw (fun b => b = r.a) H) := Hw.less fun b hb => .inl hb
  exact ⟨s.se.re, ⟨rfl, fun b hb => by rw [hb]; exact s.se.re.some⟩, GOk.cons (fun p hp => Rp.sm less (s.se.ok p hp)) (.lst (by rw [Hw.at (W := fun b => b = r.a) s.off.a]; exact hD) (RpAll.sm less hv))⟩
end
end CL
set_option Elab.async false
set_option linter.all false
set_option maxRecDepth 100000
set_option maxHeartbeats 4000000
/-! ### sep.join(reversed(a list of texts)) -/
namespace JR
open PySem PySem.Spec PyProof.Rows RT L2
section
variable {prog : Program} {w : World} {A : Around} {E : Value → Shared → Prop} {s : Shared}
theorem join_rev {x : Str} {t : Tok} {it l : Addr} {items : Array Value} {ys : List Str} {Q : Value → Shared → Prop} (hh : A.handled = none) (hit : s.heap.IsRevIter it l ((items.size : Int) - 1)) (hl : s.heap.IsList l items) (hne : l ≠ it) (hn : items.size ≤ sizeLine)
    (hP : ∀ acc : Array Value, ItemsOf (fun i v => items[items.size - 1 - i]? = some v) acc items.size → StrsAre acc.toList ys) (hok : (ys.map (·.length)).sum + ys.length * x.length ≤ 16777216)
    (hQ : ∀ (h' : Heap) (t' : Tok) (k : Nat), (∀ b o, b ≠ it → s.heap.get? b = some o → h'.get? b = some o) → Q (.str (Txt.join x ys) t') { s with heap := h', toks := k }) :
    wpAny (model prog w) A (call (.builtin "str.join") [.str x t, .ref it]) Q E s := by
  refine wpAny_call (codeAny_call_builtin F.slot_str_join.plain F.entry_str_join (F.slot_str_join.check _ _ _ _ _ _ _ _ (typeIs_str _ _ _) (F.args_str_join_2 _ _) ?_))
  rw [join_tree_other]
  refine wpAny_bind (wpAny_typeOf hit.typeIs ?_)
  show wpAny _ A.in1 ((pyIter (.ref it)).tryCatch _ >>= fun it => collect it >>= fun items => joinTail x items) _ _ s
  refine wpAny_bind (wpAny_tryCatch (wpAny_pyIter_revIter hit ?_))
  refine wpAny_bind (collect_rev hh hit hl hne hn fun h' tk acc hk hacc => ?_)
  obtain ⟨l', hl', ht⟩ := strsAre_values (hP acc hacc)
  subst ht
  rw [hl']
  have hok' := joinOk_of hok
  unfold JoinOk at hok'
  rw [Bool.not_eq_true'] at hok'
  have g : Gives (joinTail x (strValues l')) (joinMade x l') := by
    have g0 := gives_joinTail x l' hok'
    cases l' with
    | nil => exact g0
    | cons p r => cases r with
      | nil => exact g0
      | cons q r' => exact g0
  exact g prog w A (wants Q E) { s with heap := h', toks := tk } (post_join l' ⟨joinFit_length hok', fun t' k => hQ h' t' k hk⟩)
end
end JR
namespace CL
open PySem PySem.Spec PyProof.Rows L2 GE RT
def tJoinRev (K : PySem.W.Frag) (to te : TE) : TE := fun σ H Q => to σ H fun x H1 => (∃ a, x = .str a) ∧ te σ H1 fun v H2 => ∃ (a : Str) (q : Addr) (ys : List Str),
  x = .str a ∧ v = .ref q ∧ SqL K H2 q (ys.map V.str) ∧ (ys.reverse.map (·.length)).sum + ys.reverse.length * a.length ≤ 16777216 ∧ Q (.str (Txt.join a ys.reverse)) H2
theorem pe_joinRev {X : Cx} {o e : Expr} {to te : TE} {apos pos p2 pos2 : Pos} (hc : X.calm = true) (ho : PE X o to) (hg2 : Gl X "reversed") (hm2 : X.mg "reversed" = none) (he : PE X e te)
    (hs1 : starEach [.Call (.Name "reversed" p2) [e] [] pos2] X.env = [(false, eval (.Call (.Name "reversed" p2) [e] [] pos2) X.env)] := by rfl)
    (hs : starEach [e] X.env = (false, eval e X.env) :: starEach [] X.env := by rfl)
    (hbase : attributeBase o "join" X.env (eval o X.env) = eval o X.env := by rfl) (hline : (apos.endLine == pos.line) = true := by rfl) :
    PE X (.Call (.Attribute o "join" apos) [.Call (.Name "reversed" p2) [e] [] pos2] [] pos) (tJoinRev X.K to te) := by
  refine ⟨fun pins s σ H Q I h => ?_⟩
  refine PySem.Call_method1 hbase hs1 hline (thn (ho.run pins s σ H _ I h) fun v s1 ⟨x, H1, I1, r1, q1⟩ => ?_)
  obtain ⟨⟨a, rfl⟩, q1⟩ := q1
  obtain ⟨t, rfl⟩ := _root_.id r1
  refine ⟨"str", _, PySem.F.plainAttrs_str, PySem.F.slot_str_join, PySem.F.type_str_join, typeIs_str _ _ _, (fun _ e => nomatch e), Calls.callWith_builtin rfl (Calls.evalArgs_plain (Calls.spliced_cons ?_))⟩
  refine Call_ (ld_blt I1 hg2 hm2 PyProof.Rows.boot_reversed (PyProof.Rows.callWith_type1 (args_cons (thn (he.run pins s1 σ H1 _ I1 q1) fun u s2 ⟨v2, H2, I2, r2, q2⟩ => args_nil ?_) hs) hs rfl))
  obtain ⟨a', q, ys, ea, ev, hq, hz, q2⟩ := q2
  cases ea
  subst ev
  obtain rfl : u = Value.ref q := r2
  obtain ⟨its, rv, p', hsz⟩ := I2.list hq
  refine call_reversed_list p'.isList (Calls.spliced_nil ?_)
  have k0 : ∀ b o, s2.heap.get? b = some o → (s2.heap.push (revObj q ((its.toArray.size : Int) - 1))).get? b = some o := fun b o e => Heap.get?_push_of_some _ e
  have I3 : Inv X pins σ H2 { s2 with heap := s2.heap.push (revObj q ((its.toArray.size : Int) - 1)) } := I2.kept (t' := s2.toks) k0
  obtain ⟨f0, f1, f2, f3, f4, f5⟩ := I2.fpOk (H' := H2) (b := s2.heap.objs.size) (Nat.le_refl _) (I2.hok.fresh (Nat.le_refl _))
  have hl := p'.isList
  obtain ⟨ol, hol, _⟩ := id hl
  have hne : q ≠ s2.heap.objs.size := Nat.ne_of_lt (Heap.lt_size hol)
  have hn : its.toArray.size ≤ sizeLine := by rw [List.size_toArray, ← rv.length]; exact hsz
  refine JR.join_rev (s := { s2 with heap := s2.heap.push (revObj q ((its.toArray.size : Int) - 1)) }) (ys := ys.reverse) (I2.ok.hd hc) ⟨_, Heap.get?_push_size _ rfl, rfl, rfl⟩ (hl.push _) hne hn (fun acc hi => ?_) hz fun h' t' k hk => ?_
  · have rr := vals_rev rv hi
    rw [← List.map_reverse] at rr
    exact strs_of_vals rr
  · exact ⟨.str _, H2, I3.turned (t' := k) (fun b o hb e => hk b o hb e) f0 f1 f3 f4 f5, ⟨t', rfl⟩, q2⟩
end CL
set_option Elab.async false
set_option linter.all false
set_option maxRecDepth 100000
set_option maxHeartbeats 4000000
namespace CL
open PySem PySem.Spec PyProof.Rows L2 GE
theorem lc_seqW {K : PySem.W.Frag} {a : Addr} {xs : List V} {J : It} {g : TG} {tt : TT} {te : TE} {vs : List Nat} {σ : L2.St} {H1 : Hp} {D : Addr} {Qd : Hp → Prop} (Pv : Nat → Hp → Prop) (h0 : Pv 0 (upd H1 D (.lst []))) (hl : ∀ i H, Pv i H → StandsAs K a xs J H)
    (hs : ∀ i x H, xs[i]? = some x → Pv i H → g x (wipe σ vs) H fun σ2 H2 => wipe σ2 vs = wipe σ vs ∧ tt σ2 H2 fun b H3 => if b = true then te σ2 H3 fun y H4 => ∃ acc, H4 D = some (.lst acc) ∧ acc.length < sizeLine ∧ Pv (i + 1) (upd H4 D (.lst (acc ++ [y]))) else Pv (i + 1) H3) (hd : ∀ H, Pv xs.length H → Qd H) :
    ∃ W : Nat → Nat → Hp → Prop, (∃ m, W 0 m (upd H1 D (.lst []))) ∧ ∀ i m H, W i m H → (J.stop i H ∧ Qd H) ∨ (J.go i H ∧ ∃ Nx : Hp → Prop, (∀ H', Nx H' → ∃ m', m' < m ∧ W (i + 1) m' H') ∧ ∀ x H', J.yld i H x H' → g x (wipe σ vs) H' fun σ2 H2 => wipe σ2 vs = wipe σ vs ∧ tt σ2 H2 fun b H3 => if b = true then te σ2 H3 fun y H4 => ∃ acc, H4 D = some (.lst acc) ∧ acc.length < sizeLine ∧ Nx (upd H4 D (.lst (acc ++ [y]))) else Nx H3) := by
  refine ⟨fun i m H => m + i = xs.length ∧ Pv i H, ⟨xs.length, rfl, h0⟩, ?_⟩
  rintro i m H ⟨hm, p⟩
  have s := hl i H p
  cases m with
  | zero =>
    obtain rfl : i = xs.length := by omega
    exact .inl ⟨s.stop (Nat.le_refl _), hd H p⟩
  | succ m =>
    have lt : i < xs.length := by omega
    refine .inr ⟨s.go (List.getElem?_eq_getElem lt), Pv (i + 1), fun H' p' => ⟨m, Nat.lt_succ_self m, by omega, p'⟩, fun x H' y => ?_⟩
    obtain ⟨rfl, hx⟩ := s.yld y
    exact hs i x _ hx p
theorem same_updN {H H1 : Hp} {b : Addr} {o : HO} (s : Same H H1) (n : H b = none) : Same H (upd H1 b o) := fun c o' h => by
  have ne : c ≠ b := fun z => by rw [z, n] at h; cases h
  rw [upd_ne ne]
  exact s c o' h
/-! ### the figures of a number -/
abbrev FIFTY : Int := 100000000000000000000000000000000000000000000000000
structure Nm4 (mg : Str → Option Value) : Prop where
  str : mg "str" = none
  divmod : mg "divmod" = none
  reversed : mg "reversed" = none
  partL : ∃ t, mg "PART_LENGTH" = some (.int 50 t)
  partW : ∃ t, mg "PART_WORTH" = some (.int FIFTY t)
  never : ∃ t, mg "NEVER" = some (.str "never" t)
  ever : ∃ t, mg "EVER" = some (.str "ever" t)
abbrev sFig : Stmt := topS 12
abbrev sFor : Stmt := topS 15
abbrev sPc : Stmt := topS 44
abbrev sShow : Stmt := topS 45
abbrev nFig : List Str := ["number", "parts", "part"]
abbrev nFor : List Str := ["number", "none"]
abbrev nPc : List Str := ["turns", "many", "words", "patience"]
theorem scFig : FnScope nFig ["number"] (defScope sFig) := ⟨rfl, rfl, rfl, by decide +kernel, rfl, by decide +kernel, by decide +kernel⟩
theorem scFor : FnScope nFor ["number", "none"] (defScope sFor) := ⟨rfl, rfl, rfl, by decide +kernel, rfl, by decide +kernel, by decide +kernel⟩
theorem scPc : FnScope nPc ["turns", "many"] (defScope sPc) := ⟨rfl, rfl, rfl, by decide +kernel, rfl, by decide +kernel, by decide +kernel⟩
/-- a number's figures, or the word for None -/
def wordD (no : Str) : PyData → Str
  | .int i => toString i
  | _ => no
/-- None, or a number that isn't below 0 and not too great -/
def NumD (d : PyData) : Prop := d = .none ∨ ∃ i, d = .int i ∧ 0 ≤ i ∧ i ≤ GREAT
theorem NumD.of {d : PyData} (h : isPatience d = true) : NumD d := by
  cases d with
  | none => exact .inl rfl
  | int i =>
    simp only [isPatience, Bool.and_eq_true, decide_eq_true_eq] at h
    exact .inr ⟨i, rfl, h.1, h.2⟩
  | _ => simp [isPatience] at h
theorem great140 {i : Int} (h0 : 0 ≤ i) (h1 : i ≤ GREAT) : i.natAbs < 2 ^ 140 := by
  have e : (1000000000000000000000000000000 : Nat) < 2 ^ 140 := by decide
  have h1 : i ≤ 1000000000000000000000000000000 := h1
  omega
theorem int_len {i : Int} (h0 : 0 ≤ i) (h1 : i ≤ GREAT) : (toString i : Str).length ≤ 200 := by
  have b := b_int (k := 0) (great140 h0 h1)
  exact Nat.le_trans (shown_le (.int i) (Nat.le_trans b.wt (by decide)) b.sh) b.wt
theorem word_len {no : Str} {d : PyData} (h : NumD d) (hn : no.length ≤ 200) : (wordD no d).length ≤ 200 := by
  rcases h with rfl | ⟨i, rfl, h0, h1⟩
  · exact hn
  · exact int_len h0 h1
def spFig : Sp := fun vs H Q _ => ∃ i : Int, vs = [.int i] ∧ 0 ≤ i ∧ i ≤ GREAT ∧ ∀ H', Same H H' → Q (.str (toString i)) H'
def spFor : Sp := fun vs H Q _ => ∃ (v : V) (d : PyData) (no : Str), vs = [v, .str no] ∧ Rp H v d ∧ NumD d ∧ ∀ H', Same H H' → Q (.str (wordD no d)) H'
/-- a piece's text -/
def pieceS (ts : List PyData) (m : PyData) : Str := Txt.join " " (ts.map (wordD "never") ++ [("x" : Str), wordD "ever" m])
def spPc : Sp := fun vs H Q _ => ∃ (a : Addr) (xs : List V) (ds : List PyData) (vm : V) (m : PyData), vs = [.ref a, vm] ∧ StSeq H a xs ∧ RpAll H xs ds ∧ ds.length ≤ 8 ∧ (∀ d ∈ ds, NumD d) ∧ Rp H vm m ∧ NumD m ∧ ∀ H', Same H H' → Q (.str (pieceS ds m)) H'
section
variable {P : Program} {w : World} {K : PySem.W.Frag} {mg : Str → Option Value} {base : Heap}
theorem ok_fig {f : Addr} {fd : FuncData} (F : Fun K "figures_of" "figures_of" sFig f fd) (N4 : Nm4 mg) : FnOk P w K mg base CX0 1 f fd ["number"] spFig := by
  refine F.ok scFig (fun vs H Q E ⟨i, e, _⟩ => by rw [e]; rfl) (fun cdv A outer s H vs Q E hr h => ?_)
  obtain ⟨i, rfl, h0, h1, q⟩ := h
  obtain ⟨tl, hpl⟩ := N4.partL
  obtain ⟨tw, hpw⟩ := N4.partW
  have nd := scFig.nd
  refine ⟨_, (pss_cons (ps_set (i := 1) nd rfl (.inl rfl) (pe_lst pa_nil))
      (pss_cons (ps_while PassesOwn.never (pt_cmpR op_ge (pv 0) (pe_glob (v := .int FIFTY) (by rfl) hpw ⟨_, rfl⟩) (nomark _)) (pss_cons (ps_asg (pe_callB call_divmodW (by rfl) N4.divmod (by decide +kernel) (pa_cons (pv 0) (pa_cons (pe_glob (v := .int FIFTY) (by rfl) hpw ⟨_, rfl⟩) pa_nil))) (pg_tup rfl (pgs_cons (pg_name (i := 0) nd rfl (.inl rfl)) (pgs_cons (pg_name (i := 2) nd rfl (.inl rfl)) pgs_nil))))
      (pss_one (ps_expr (pe_bm PySem.F.plainAttrs_list PySem.F.slot_list_append PySem.F.type_list_append mt_append (pv 1) (pa_cons (pe_m1 PySem.F.slot_str_zfill PySem.F.type_str_zfill mt_zfill (pe_callTy call_str_int (by rfl) N4.str (by decide +kernel) (pa_cons (pv 2) pa_nil)) (pe_glob (v := .int 50) (by rfl) hpl ⟨_, rfl⟩)) pa_nil))))))
      (pss_cons (ps_expr (pe_bm PySem.F.plainAttrs_list PySem.F.slot_list_append PySem.F.type_list_append mt_append (pv 1) (pa_cons (pe_callTy call_str_int (by rfl) N4.str (by decide +kernel) (pa_cons (pv 0) pa_nil)) pa_nil)))
      (pss_one (ps_ret (pe_joinRev rfl pe_str (by rfl) N4.reversed (pv 1))))))), ?_⟩
  have hi : i < FIFTY := by show i < 100000000000000000000000000000000000000000000000000; have h1 : i ≤ 1000000000000000000000000000000 := h1; omega
  refine ⟨small_le (by show 0 ≤ 1000; decide), fun p np => ?_⟩
  have s1 : Same H (upd H p (.lst [])) := same_upd np
  have e1 : (upd H p (.lst [])) p = some (.lst []) := upd_same
  show tSeq _ _ _ [some (.int i), some (.ref p), none] (upd H p (.lst []))
  generalize upd H p (.lst []) = H1 at s1 e1
  refine ⟨fun m σ H' => σ = [some (.int i), some (.ref p), none] ∧ H' = H1, ⟨0, rfl, rfl⟩, ?_⟩
  rintro m σ H' ⟨rfl, rfl⟩
  refine ⟨.int i, rfl, i, FIFTY, rfl, rfl, _, rfl, ite2 (fun y => absurd (of_decide_eq_true y) (by omega)) (fun _ => ?_)⟩
  refine ⟨.ref p, rfl, .inl ⟨rfl, _, SqL.of e1⟩, .int i, rfl, i, rfl, Nat.lt_trans (PySem.Flt.log2_lt_of (by decide) (great140 h0 h1)) (by decide), p, [], _, rfl, rfl, e1, small1000 (by decide), ?_⟩
  have e2 : (upd H' p (.lst ([] ++ [.str (toString i)]))) p = some (.lst ([(toString i : Str)].map V.str)) := upd_same
  have x2 : Same H (upd H' p (.lst ([] ++ [.str (toString i)]))) := fun b o e => by
    rw [upd_ne fun z => by rw [z, np] at e; cases e]
    exact s1 b o e
  generalize upd H' p (.lst ([] ++ [.str (toString i)])) = H2 at e2 x2 ⊢
  have hl := int_len h0 h1
  dsimp only []
  refine ⟨⟨_, rfl⟩, .ref p, rfl, _, p, [(toString i : Str)], rfl, rfl, SqL.of e2, (by show ((toString i : Str).length + 0) + 1 * 0 ≤ 16777216; omega), ?_⟩
  have ej : Txt.join (Str.ofString "") [(toString i : Str)].reverse = (toString i : Str) := rfl
  rw [ej]
  exact q H2 x2
theorem ok_for {f : Addr} {fd : FuncData} (F : Fun K "figures_or" "figures_or" sFor f fd) (CF : Cal P w K mg base 1 "figures_of" ["number"] spFig) : FnOk P w K mg base CX0 2 f fd ["number", "none"] spFor := by
  refine F.ok scFor (fun vs H Q E ⟨v, d, no, e, _⟩ => by rw [e]; rfl) (fun cdv A outer s H vs Q E hr h => ?_)
  obtain ⟨v, d, no, rfl, hR, hN, q⟩ := h
  refine ⟨_, (pss_one (ps_ret (pe_ifExp (pt_cmp (pc_isN (pv 0))) (pv 1) (pe_cal (CF.mono (by decide)) hr (by rfl) (pa_cons (pv 0) pa_nil))))), ?_⟩
  rcases hN with rfl | ⟨i, rfl, h0, h1⟩
  · cases hR
    exact ⟨.non, rfl, true, rfl, iteT ⟨.str no, rfl, q H (Same.refl H)⟩⟩
  · cases hR
    exact ⟨.int i, rfl, false, rfl, iteF ⟨.int i, rfl, i, rfl, h0, h1, q⟩⟩
theorem ok_pc {f : Addr} {fd : FuncData} (F : Fun K "show_piece" "show_piece" sPc f fd) (N4 : Nm4 mg) (CF : Cal P w K mg base 2 "figures_or" ["number", "none"] spFor) : FnOk P w K mg base CX0 3 f fd ["turns", "many"] spPc := by
  refine F.ok scPc (fun vs H Q E ⟨a, xs, ds, vm, m, e, _⟩ => by rw [e]; rfl) (fun cdv A outer s H vs Q E hr h => ?_)
  obtain ⟨a, xs, ds, vm, m, rfl, hS, hA, h8, hN, hR, hM, q⟩ := h
  obtain ⟨tn, hnv⟩ := N4.never
  obtain ⟨te, hev⟩ := N4.ever
  have nd := scPc.nd
  refine ⟨_, (pss_cons (ps_setLc (i := 2) (own := [("patience", 3)]) (g := (gName 3)) (tt := tYes) rfl nd rfl rfl (sw_true rfl rfl rfl (by decide +kernel)) (pi_seqW (pv 0)) (blkOk_by (own := [("patience", 3)]) (N := nPc) (sc := (defScope sPc)) (by decide +kernel)) (fun _ _ _ _ _ => (pg_name (i := 3) nd rfl (.inl rfl))) (fun _ _ _ _ _ => pts_nil) (fun _ _ _ _ _ => (pe_cal (CF.mono (by decide)) hr (by rfl) (pa_cons (pv 3) (pa_cons (pe_glob (v := .str "never") (by rfl) hnv ⟨_, rfl⟩) pa_nil)))))
      (pss_one (ps_ret (pe_join pe_str (pe_lst (StX.pa_star (pv 2) (pa_cons pe_str (pa_cons (pe_cal (CF.mono (by decide)) hr (by rfl) (pa_cons (pv 1) (pa_cons (pe_glob (v := .str "ever") (by rfl) hev ⟨_, rfl⟩) pa_nil))) pa_nil)))))))), ?_⟩
  refine ⟨.ref a, rfl, a, xs, rfl, hS, fun J hJ D hD => ?_⟩
  have lx : xs.length = ds.length := hA.length
  refine lc_seqW (K := K) (a := a) (xs := xs) (fun i H' => Same H H' ∧ H' D = some (.lst (((ds.take i).map (wordD "never")).map V.str))) ⟨same_upd hD, upd_same⟩ (fun i H' ⟨x', _⟩ => hJ _ fun o e => x' _ _ e) (fun i x H' hx ⟨x', eD⟩ => ?_) (fun H' ⟨x', eD⟩ => ?_)
  · obtain ⟨d, hd, hRd⟩ := hA.get hx
    have hi : i < xs.length := (List.getElem?_eq_some_iff.mp hx).1
    refine ⟨rfl, yesT ⟨x, rfl, x, d, _, rfl, Rp.sm x' hRd, hN d (List.mem_of_getElem? hd), fun H2 s2 => ⟨_, s2 _ _ eD, small1000 (by rw [List.length_map, List.length_map, List.length_take]; omega), same_updN (x'.trans s2) hD, ?_⟩⟩⟩
    rw [upd_same, List.take_add_one, hd, List.map_append, List.map_append]
    rfl
  · rw [lx, List.take_length] at eD
    dsimp only [gName]
    show tRet _ _ [some (.ref a), some vm, some (.ref D), none] H'
    refine ⟨⟨_, rfl⟩, .ref D, rfl, D, _, rfl, .inr (SqL.of eD), vm, rfl, vm, m, _, rfl, Rp.sm x' hR, hM, fun H2 s2 => ⟨small_le (by show (List.map V.str (ds.map (wordD "never")) ++ _).length ≤ 1000; rw [List.length_append, List.length_map, List.length_map]; show _ + 2 ≤ 1000; omega), fun p np => ?_⟩⟩
    have e3 : (upd H2 p (.lst ((ds.map (wordD "never")).map V.str ++ [.str "x", .str (wordD "ever" m)]))) p = some (.lst ((ds.map (wordD "never") ++ [("x" : Str), wordD "ever" m]).map V.str)) := by rw [upd_same, List.map_append]; rfl
    refine ⟨_, p, _, rfl, rfl, .inl (SqL.of e3), ?_, q _ ((x'.trans s2).trans (same_upd np))⟩
    have hsum : ∀ es : List PyData, (∀ d ∈ es, NumD d) → ((es.map (wordD "never")).map (·.length)).sum ≤ es.length * 200 := by
      intro es
      induction es with
      | nil => intro _; exact Nat.le_refl _
      | cons e es ih =>
        intro h
        have h1 := word_len (no := "never") (h e List.mem_cons_self) (by decide)
        have h2 := ih fun d hd => h d (List.mem_cons_of_mem _ hd)
        simp only [List.map_cons, List.sum_cons, List.length_cons]
        omega
    have h1 := hsum ds hN
    have h2 := word_len (no := "ever") hM (by decide)
    have h3 : (Str.ofString " ").length = 1 := rfl
    have h4 : (Str.ofString "x").length = 1 := rfl
    simp only [List.map_append, List.sum_append, List.map_cons, List.map_nil, List.sum_cons, List.sum_nil, List.length_append, List.length_map, List.length_cons, List.length_nil, h3, h4]
    omega
end
end CL
set_option Elab.async false
set_option linter.all false
set_option pp.maxSteps 600
set_option maxRecDepth 100000
set_option maxHeartbeats 4000000
namespace CL
open PySem PySem.Spec PyProof.Rows L2 GE HotX
/-! ### a class of refusals; defs that refuse, what they let out with no context -/
structure ExcM (K : PySem.W.Frag) (mg : Str → Option Value) (x : Str) (C : Addr) : Prop where
  g : mg x = some (.ref C)
  x : PySem.W.excIn K C [.type "ValueError", .type "Exception", .type "BaseException", .type "object"] "ValueError.__new__" = true
  k : PySem.W.keepIn K (.ref C) = true
  b : PySem.W.subIn K (.ref C) (.type "BaseException") = some true
  t : PySem.W.typeIn K (.ref C) = some (.type "type")
section
variable {P : Program} {w : World} {K : PySem.W.Frag} {mg : Str → Option Value} {base : Heap} 
theorem okN {x qual : Str} {st : Stmt} {f : Addr} {fd : FuncData} {N ps : List Str} {k : Nat} {sp : Sp} (F : Fun K x qual st f fd) (S : FnScope N ps (defScope st)) (len : ∀ vs H Q E, sp vs H Q E → vs.length = ps.length)
    (body : ∀ cdv A outer s H vs Q E, Room k (A.deeper (envOfC qual (defScope st) s.heap.objs.size f cdv)) → sp vs H Q E → ∃ t, PSs (cxOf (L2N.CX P w) P w K mg base N qual (defScope st) f cdv A outer s H E) (defBody st) t ∧ t { nx := fun _ H' => Q .non H', rt := Q } (start N vs) H) :
    FnOk P w K mg base (L2N.CX P w) (k + 1) f fd ps sp := by
  obtain ⟨oc, od, kV, doc, pm, an, cdv, ct, osl, rfl, lk, hcd⟩ := F.ex
  exact fn_of lk hcd S len fun A outer s H vs Q E hr h => body cdv A outer s H vs Q E hr h
/-- the one or the other -/
theorem FnOk.both {k : Nat} {f : Addr} {fd : FuncData} {ps : List Str} {sp bad : Sp} (F : FnOk P w K mg base CX0 k f fd ps sp) (G : FnOk P w K mg base (L2N.CX P w) k f fd ps bad) : FnOk P w K mg base (L2N.CX P w) k f fd ps (fun vs H Q E => sp vs H Q E ∨ bad vs H Q E) := by
  refine ⟨fun vs H Q E h => h.elim (F.len vs H Q E) (G.len vs H Q E), fun A outer s H args us vs Q E hr e0 b r h => ?_⟩
  rcases h with h | h
  · refine codeAny_mono (F.run A outer s H args us vs Q E hr e0 b r h) fun c t y => ?_
    match c, y with
    | .ok (.ret u), y => exact y
  · exact G.run A outer s H args us vs Q E hr e0 b r h
end

/-! ### a plan's text -/
abbrev nShow : List Str := ["plan", "turns", "many"]
theorem scShow : FnScope nShow ["plan"] (defScope sShow) := ⟨rfl, rfl, rfl, by decide +kernel, rfl, by decide +kernel, by decide +kernel⟩
def pieceT (d : PyData) : Str := pieceS (turnsD d) (sndD d)
def planS (d : PyData) : Str := Txt.join ", " (((rowsD d).getD []).map pieceT)
theorem worth_le : ∀ (ds : List PyData), (∀ d ∈ ds, 0 ≤ worth (sndD d)) → ∀ d ∈ ds, worth (sndD d) ≤ sumSnd ds := by
  intro ds
  induction ds with
  | nil => intro _ d hd; cases hd
  | cons e es ih =>
    intro h d hd
    have e1 : sumSnd (e :: es) = worth (sndD e) + sumSnd es := rfl
    have h0 := h e List.mem_cons_self
    have hs : 0 ≤ sumSnd es := by
      have : ∀ es : List PyData, (∀ d ∈ es, 0 ≤ worth (sndD d)) → 0 ≤ sumSnd es := by
        intro es
        induction es with
        | nil => intro _; exact Int.le_refl _
        | cons x xs ihx =>
          intro h
          have e2 : sumSnd (x :: xs) = worth (sndD x) + sumSnd xs := rfl
          have := h x List.mem_cons_self
          have := ihx fun d hd => h d (List.mem_cons_of_mem _ hd)
          omega
      exact this es fun d hd => h d (List.mem_cons_of_mem _ hd)
    rcases List.mem_cons.mp hd with rfl | hd
    · omega
    · have := ih (fun d hd => h d (List.mem_cons_of_mem _ hd)) d hd
      omega
theorem piece_worth {d : PyData} (h : isPiece d = true) : 0 ≤ worth (sndD d) := by
  obtain ⟨t, m, e, ht, hm⟩ := piece_parts h
  have : sndD d = m := by unfold sndD; rw [e]
  rw [this]
  cases m with
  | int i => show 0 ≤ i; simpa [isMany] using hm
  | _ => exact Int.le_refl _
/-- the parts of a plan -/
theorem plan_parts {d : PyData} (h : isPlan d = true) : ∃ ds, rowsD d = some ds ∧ 1 ≤ ds.length ∧ ds.length ≤ 8 ∧ (∀ x ∈ ds, isPiece x = true) ∧ (∀ x ∈ ds, NumD (sndD x)) ∧ sumSnd ds ≤ GREAT := by
  unfold isPlan at h
  cases e : rowsD d with
  | none => rw [e] at h; cases h
  | some ds =>
    rw [e] at h
    simp only [isPlanL, Bool.and_eq_true, decide_eq_true_eq, List.all_eq_true] at h
    obtain ⟨⟨⟨⟨h1, h2⟩, h3⟩, h4⟩, h5⟩ := h
    refine ⟨ds, rfl, h1, h2, h3, fun x hx => ?_, h5⟩
    have hw := worth_le ds (fun y hy => piece_worth (h3 y hy)) x hx
    obtain ⟨t, m, e, ht, hm⟩ := piece_parts (h3 x hx)
    have es : sndD x = m := by unfold sndD; rw [e]
    rw [es] at hw ⊢
    cases m with
    | none => exact .inl rfl
    | int i =>
      have hi : 0 ≤ i := by simpa [isMany] using hm
      exact .inr ⟨i, rfl, hi, Int.le_trans hw h5⟩
    | _ => simp [isMany] at hm
theorem turns_parts {t : PyData} (h : isTurns t = true) : ∃ ds, rowsD t = some ds ∧ 1 ≤ ds.length ∧ ds.length ≤ 8 ∧ ∀ x ∈ ds, isPatience x = true := by
  unfold isTurns at h
  cases e : rowsD t with
  | none => rw [e] at h; cases h
  | some ds =>
    rw [e] at h
    simp only [Bool.and_eq_true, decide_eq_true_eq, List.all_eq_true] at h
    exact ⟨ds, rfl, h.1.1, h.1.2, h.2⟩
theorem piece_len {ts : List PyData} {m : PyData} (h8 : ts.length ≤ 8) (hN : ∀ d ∈ ts, NumD d) (hM : NumD m) : (pieceS ts m).length ≤ 2000 := by
  have hsum : ∀ es : List PyData, (∀ d ∈ es, NumD d) → ((es.map (wordD "never")).map (·.length)).sum ≤ es.length * 200 := by
    intro es
    induction es with
    | nil => intro _; exact Nat.le_refl _
    | cons e es ih =>
      intro h
      have h1 := word_len (no := "never") (h e List.mem_cons_self) (by decide)
      have h2 := ih fun d hd => h d (List.mem_cons_of_mem _ hd)
      simp only [List.map_cons, List.sum_cons, List.length_cons]
      omega
  have h1 := hsum ts hN
  have h2 := word_len (no := "ever") hM (by decide)
  have h3 : (Str.ofString " ").length = 1 := rfl
  have h4 : (Str.ofString "x").length = 1 := rfl
  have := StrLaws.join_length_le " " (ts.map (wordD "never") ++ [("x" : Str), wordD "ever" m])
  rw [← StrLaws.glued_eq_join] at this
  refine Nat.le_trans this ?_
  simp only [List.map_append, List.sum_append, List.map_cons, List.map_nil, List.sum_cons, List.sum_nil, List.length_append, List.length_map, List.length_cons, List.length_nil, h3, h4]
  omega
def spChk (P1 P2 : Addr) : Sp := fun vs H Q _ => ∃ (v : V) (d : PyData), vs = [v] ∧ Rp H v d ∧ Tb P1 P2 H ∧ isPlan d = true ∧ ∀ H', Ex H H' → Tb P1 P2 H' → Q .non H'
def badPlan (P1 P2 B : Addr) : Sp := fun vs H _ E => ∃ (v : V) (d : PyData), vs = [v] ∧ Rp H v d ∧ Tb P1 P2 H ∧ isPlan d = false ∧ ∀ H', Ex H H' → Tb P1 P2 H' → E (.ref B) none H'
def spShow (P1 P2 : Addr) : Sp := fun vs H Q _ => ∃ (v : V) (d : PyData), vs = [v] ∧ Rp H v d ∧ Tb P1 P2 H ∧ isPlan d = true ∧ ∀ H', Ex H H' → Tb P1 P2 H' → Q (.str (planS d)) H'
section
variable {P : Program} {w : World} {K : PySem.W.Frag} {mg : Str → Option Value} {base : Heap} {P1 P2 : Addr}
theorem ok_chk {f : Addr} {fd : FuncData} (F : Fun K "check_plan" "check_plan" sCheck f fd) (CP : Cal P w K mg base 7 "is_plan" ["thing"] (spTab P1 P2 isPlan)) : FnOk P w K mg base CX0 8 f fd ["thing"] (spChk P1 P2) := by
  refine F.ok scCheck (fun vs H Q E ⟨v, d, e, _⟩ => by rw [e]; rfl) (fun cdv A outer s H vs Q E hr h => ?_)
  obtain ⟨v, d, rfl, hR, hT, hp, q⟩ := h
  refine ⟨_, (pss_one (ps_if (pt_not (pt_val (pe_cal CP hr (by rfl) (pa_cons (pv 0) pa_nil)))) (pss_one ps_never) pss_nil)), ?_⟩
  refine ⟨v, rfl, v, d, rfl, hR, hT, fun H1 e1 tb1 => ⟨isPlan d, rfl, ?_⟩⟩
  rw [hp]
  exact iteF (q H1 e1 tb1)
theorem bad_chk {f B : Addr} {fd : FuncData} (F : Fun K "check_plan" "check_plan" sCheck f fd) (XB : ExcM K mg "NoPlan" B) (CP : Cal P w K mg base 7 "is_plan" ["thing"] (spTab P1 P2 isPlan)) : FnOk P w K mg base (L2N.CX P w) 8 f fd ["thing"] (badPlan P1 P2 B) := by
  refine okN F scCheck (fun vs H Q E ⟨v, d, e, _⟩ => by rw [e]; rfl) (fun cdv A outer s H vs Q E hr h => ?_)
  obtain ⟨v, d, rfl, hR, hT, hp, q⟩ := h
  refine ⟨_, (pss_one (ps_if (pt_not (pt_val (pe_cal CP hr (by rfl) (pa_cons (pv 0) pa_nil)))) (pss_one (L2N.ps_raise rfl (L2N.takes_of rfl rfl rfl rfl) (L2N.pmk_own PySem.F.excBase_ValueError XB.x XB.g XB.k (raises_own XB.b XB.t) (by rfl)))) pss_nil)), ?_⟩
  refine ⟨v, rfl, v, d, rfl, hR, hT, fun H1 e1 tb1 => ⟨isPlan d, rfl, ?_⟩⟩
  rw [hp]
  exact iteT (q H1 e1 tb1)
theorem ok_show {f : Addr} {fd : FuncData} (F : Fun K "show_plan" "show_plan" sShow f fd) (CC : Cal P w K mg base 8 "check_plan" ["thing"] (spChk P1 P2)) (CP : Cal P w K mg base 3 "show_piece" ["turns", "many"] spPc) : FnOk P w K mg base CX0 9 f fd ["plan"] (spShow P1 P2) := by
  refine F.ok scShow (fun vs H Q E ⟨v, d, e, _⟩ => by rw [e]; rfl) (fun cdv A outer s H vs Q E hr h => ?_)
  obtain ⟨v, d, rfl, hR, hT, hp, q⟩ := h
  have nd := scShow.nd
  refine ⟨_, (pss_cons (ps_expr (pe_cal (CC.mono (by decide)) hr (by rfl) (pa_cons (pv 0) pa_nil))) (pss_one (ps_ret (pe_join pe_str (pe_lc (own := [("turns", 1), ("many", 2)]) (g := gSeq K 2 (gCons (gName 1) (gCons (gName 2) gNil))) (tt := tYes) rfl nd (pi_seqW (pv 0)) (blkOk_by (own := [("turns", 1), ("many", 2)]) (N := nShow) (sc := (defScope sShow)) (by decide +kernel)) (fun _ _ _ _ _ => pg_seq rfl (pgs_cons (pg_name (i := 1) nd rfl (.inl rfl) (.inr rfl)) (pgs_cons (pg_name (i := 2) nd rfl (.inl rfl) (.inr rfl)) pgs_nil))) (fun _ _ _ _ _ => pts_nil) (fun _ _ _ _ _ => (pe_cal (CP.mono (by decide)) hr (by rfl) (pa_cons (pv 1) (pa_cons (pv 2) pa_nil))))))))), ?_⟩
  refine ⟨v, rfl, v, d, rfl, hR, hT, hp, fun H1 e1 tb1 => ?_⟩
  dsimp only []
  obtain ⟨ds, hd, h1, h8, hpc, hnm, hsm⟩ := plan_parts hp
  have hR1 := Rp.ex e1 d v hR
  obtain ⟨a, xs, rfl, hA, hso⟩ := hR1.rows hd
  refine ⟨⟨_, rfl⟩, .ref a, rfl, a, xs, rfl, ⟨hso⟩, fun J hJ D hD => ?_⟩
  have lx : xs.length = ds.length := hA.length
  refine lc_seqW (K := K) (a := a) (xs := xs) (fun i H' => Same H1 H' ∧ H' D = some (.lst (((ds.take i).map pieceT).map V.str))) ⟨same_upd hD, upd_same⟩ (fun i H' ⟨x', _⟩ => hJ _ fun o e => x' _ _ e) (fun i x H' hx ⟨x', eD⟩ => ?_) (fun H' ⟨x', eD⟩ => ?_)
  · obtain ⟨dx, hdx, hRd⟩ := hA.get hx
    have hi : i < xs.length := (List.getElem?_eq_some_iff.mp hx).1
    have hin := List.mem_of_getElem? hdx
    obtain ⟨b, vt, vm, t, m, rfl, hS, hRt, hRm, hrow, ht, hm⟩ := piece_at2 (hpc dx hin) (Rp.sm x' hRd)
    obtain ⟨ts, hts, t1, t8, tp⟩ := turns_parts ht
    obtain ⟨c, ys, rfl, hAt, hso2⟩ := hRt.rows hts
    have hsnd : sndD dx = m := by unfold sndD; rw [hrow]
    have htur : turnsD dx = ts := by unfold turnsD; rw [hrow]; show (rowsD t).getD [] = ts; rw [hts]; rfl
    have hmn : NumD m := by rw [← hsnd]; exact hnm dx hin
    refine ⟨b, _, rfl, hS, rfl, .ref c, _, rfl, vm, _, rfl, rfl, ?_⟩
    refine ⟨rfl, yesT ⟨.ref c, rfl, vm, rfl, c, ys, ts, vm, m, rfl, ⟨hso2⟩, hAt, t8, fun z hz => NumD.of (tp z hz), hRm, hmn, fun H2 s2 => ⟨_, s2 _ _ eD, small1000 (by rw [List.length_map, List.length_map, List.length_take]; omega), same_updN (x'.trans s2) hD, ?_⟩⟩⟩
    have hpt : pieceT dx = pieceS ts m := by unfold pieceT; rw [hsnd, htur]
    rw [upd_same, List.take_add_one, hdx, List.map_append, List.map_append, ← hpt]
    rfl
  · rw [lx, List.take_length] at eD
    refine ⟨_, D, _, rfl, rfl, .inl (SqL.of eD), ?_, ?_⟩
    · have hsum : ∀ es : List PyData, (∀ x ∈ es, isPiece x = true) → (∀ x ∈ es, NumD (sndD x)) → ((es.map pieceT).map (·.length)).sum ≤ es.length * 2000 := by
        intro es
        induction es with
        | nil => intro _ _; exact Nat.le_refl _
        | cons e es ih =>
          intro h h'
          obtain ⟨t, m, hrow, ht, hm⟩ := piece_parts (h e List.mem_cons_self)
          obtain ⟨ts, hts, t1, t8, tp⟩ := turns_parts ht
          have htur : turnsD e = ts := by unfold turnsD; rw [hrow]; show (rowsD t).getD [] = ts; rw [hts]; rfl
          have h1 : (pieceT e).length ≤ 2000 := by
            unfold pieceT
            rw [htur]
            exact piece_len t8 (fun z hz => NumD.of (tp z hz)) (h' e List.mem_cons_self)
          have h2 := ih (fun d hd => h d (List.mem_cons_of_mem _ hd)) (fun d hd => h' d (List.mem_cons_of_mem _ hd))
          simp only [List.map_cons, List.sum_cons, List.length_cons]
          omega
      have h2 := hsum ds hpc hnm
      have h3 : (Str.ofString ", ").length = 2 := rfl
      rw [List.length_map, h3]
      omega
    · have hpl : planS d = Txt.join ", " (ds.map pieceT) := by unfold planS; rw [hd]; rfl
      rw [← hpl]
      exact q _ (e1.trans (Ex.of x')) (tb1.same x')
theorem bad_show {f fC B : Addr} {fd fdC : FuncData} (F : Fun K "show_plan" "show_plan" sShow f fd)
    (gC : mg "check_plan" = some (.ref fC)) (kC : PySem.W.keepIn K (.ref fC) = true) (GC : FnOk P w K mg base (L2N.CX P w) 8 fC fdC ["thing"] (badPlan P1 P2 B)) (bC : Binds K fdC ["thing"] []) : FnOk P w K mg base (L2N.CX P w) 9 f fd ["plan"] (badPlan P1 P2 B) := by
  refine okN F scShow (fun vs H Q E ⟨v, d, e, _⟩ => by rw [e]; rfl) (fun cdv A outer s H vs Q E hr h => ?_)
  obtain ⟨v, d, rfl, hR, hT, hp, q⟩ := h
  refine ⟨_, pss_cons (ps_expr (pe_callS GC (hr.mono (by decide)) (by rfl) gC kC bC (fun σ => L2N.passAt (L2N.takes_of rfl rfl rfl rfl) σ) (pa_cons (pv 0) pa_nil))) pss_never, ?_⟩
  exact ⟨v, rfl, v, d, rfl, hR, hT, hp, q⟩
end
end CL
set_option Elab.async false
set_option linter.all false
set_option pp.maxSteps 600
set_option maxRecDepth 100000
set_option maxHeartbeats 4000000
namespace CL
open PySem PySem.Spec PyProof.Rows L2 GE
abbrev sPatB : Stmt := topS 53
abbrev sPlanB : Stmt := topS 54
abbrev nPat : List Str := ["bag", "most"]
abbrev nPlanB : List Str := ["bag", "most", "wide", "found", "k", "patiences", "spot"]
theorem scPatB : FnScope nPat ["bag", "most"] (defScope sPatB) := ⟨rfl, rfl, rfl, by decide +kernel, rfl, by decide +kernel, by decide +kernel⟩
theorem scPlanB : FnScope nPlanB ["bag", "most", "wide"] (defScope sPlanB) := ⟨rfl, rfl, rfl, by decide +kernel, rfl, by decide +kernel, by decide +kernel⟩
structure Nm5 (mg : Str → Option Value) : Prop where
  range : mg "range" = none
  min : mg "min" = none
  repr : mg "repr" = none
/-! ### plans that are drawn -/
abbrev RowT := List PyData × PyData
def rowD (x : RowT) : PyData := .tuple [.list x.1, x.2]
def planD (L : List RowT) : PyData := .list (L.map rowD)
/-- how many come, drawn -/
def DrM (d : PyData) : Prop := ∃ m : Int, d = .int m ∧ 0 ≤ m ∧ m < 100000000000000000000000000000
structure RowF (x : RowT) : Prop where
  l1 : 1 ≤ x.1.length
  l8 : x.1.length ≤ 8
  pt : ∀ d ∈ x.1, isPatience d = true
structure PlanL (L : List RowT) : Prop where
  l1 : 1 ≤ L.length
  l8 : L.length ≤ 8
  rows : ∀ x ∈ L, RowF x
  many : ∀ i x, L[i]? = some x → DrM x.2 ∨ (i + 1 = L.length ∧ x.2 = .none)
def spPatB (r : Bg) : Sp := fun vs H Q _ => ∃ (most : Int) (n : Nat), vs = [.ref r.a, .int most] ∧ BagAt n H r ∧ n + 4 ≤ M60 ∧ 0 ≤ most ∧ most ≤ GREAT ∧ ∀ v d H', BagAt (n + 4) H' r → Mv r H H' → Rp (fun _ => none) v d → isPatience d = true → Q v H'
def spPlanB (r : Bg) : Sp := fun vs H Q _ => ∃ (most wide : Int) (n : Nat), vs = [.ref r.a, .int most, .int wide] ∧ BagAt n H r ∧ n + 400 ≤ M60 ∧ 1 ≤ most ∧ most ≤ 8 ∧ 0 ≤ wide ∧ wide ≤ GREAT ∧
  ∀ v L H', BagAt (n + 400) H' r → Mv r H H' → Rp (Hw (fun b => b = r.a) H') v (planD L) → PlanL L → Q v H'
/-- data of no parts are so in any heap -/
theorem rp_any {H : Hp} {v : V} {d : PyData} (h : Rp (fun _ => none) v d) : Rp H v d := Rp.sm (fun b o e => by cases e) h
theorem pat_any {H H' : Hp} {v : V} {d : PyData} (h : Rp H v d) (p : isPatience d = true) : Rp H' v d := by
  cases h with
  | non => exact .non
  | int i => exact .int i
  | _ => simp [isPatience] at p
theorem pats_any {H H' : Hp} : ∀ {vs : List V} {ds : List PyData}, RpAll H vs ds → (∀ d ∈ ds, isPatience d = true) → RpAll H' vs ds
  | _, _, .nil, _ => .nil
  | _, _, .cons h t, p => .cons (pat_any h (p _ List.mem_cons_self)) (pats_any t fun d hd => p d (List.mem_cons_of_mem _ hd))
theorem ix_last (n : Nat) : ixN (n + 1) (-1) = some n := by
  unfold ixN
  rw [if_neg (by decide), if_pos (by omega)]
  congr 1
  omega
/-! ### rows that were drawn are a plan -/
theorem DS.mv {n m : Nat} {r : Bg} {D : Addr} {G : Gam} {ds : List PyData} {H H' : Hp} (s : DS n r D G ds H) (b : BagAt m H' r) (mv : Mv r H H') : DS m r D G ds H' := by
  obtain ⟨vs, hD, hv⟩ := s.at_
  exact ⟨s.se.mv b mv, ⟨vs, mv.keep D _ s.off.a hD, RpAll.sm (mv.hw (.inl rfl)) hv⟩, s.off⟩
theorem DS.to {n m : Nat} {r : Bg} {D : Addr} {G : Gam} {ds : List PyData} {H : Hp} (s : DS n r D G ds H) (e : n ≤ m) : DS m r D G ds H := ⟨s.se.to e, s.at_, s.off⟩
theorem seqP {A B : TS} {D : Ends} {σ : L2.St} {H : Hp} (R : L2.St → Hp → Prop) (hB : ∀ σ' H', R σ' H' → B D σ' H') (hA : ∀ nx : L2.St → Hp → Prop, (∀ σ' H', R σ' H' → nx σ' H') → A { D with nx := nx } σ H) : tSeq A B D σ H := hA (B D) hB
theorem RpAll.unsnoc2 {H : Hp} : ∀ {vs : List V} {ds : List PyData} {d : PyData}, RpAll H vs (ds ++ [d]) → ∃ v0 v, vs = v0 ++ [v] ∧ RpAll H v0 ds ∧ Rp H v d
  | _, [], _, .cons h .nil => ⟨[], _, rfl, .nil, h⟩
  | _, e :: es, _, .cons h t => by
    obtain ⟨v0, v, rfl, h0, h1⟩ := RpAll.unsnoc2 (ds := es) t
    exact ⟨_ :: v0, v, rfl, .cons h h0, h1⟩
section
variable {P : Program} {w : World} {K : PySem.W.Frag} {mg : Str → Option Value} {base : Heap}
theorem ok_patB {f : Addr} {r : Bg} {fd : FuncData} (F : Fun K "_law_patience" "_law_patience" sPatB f fd) (CD : Cal P w K mg base 2 "_law_draw" ["bag", "many"] (spDraw r)) : FnOk P w K mg base CX0 3 f fd ["bag", "most"] (spPatB r) := by
  refine F.ok scPatB (fun vs H Q E ⟨most, n, e, _⟩ => by rw [e]; rfl) (fun cdv A outer s H vs Q E hr h => ?_)
  obtain ⟨most, n, rfl, hb, hn, m0, m1, q⟩ := h
  have nd := scPatB.nd
  have t140 : (2 : Int) ^ 140 = 1393796574908163946345982392040522594123776 := by decide +kernel
  have hG : GREAT = 1000000000000000000000000000000 := rfl
  refine ⟨_, (pss_one (ps_ret (pe_ix ix_list (pe_lst (pa_cons (pe_cal (CD.mono (by decide)) hr (by rfl) (pa_cons (pv 0) (pa_cons pe_int pa_nil))) (pa_cons (pe_cal (CD.mono (by decide)) hr (by rfl) (pa_cons (pv 0) (pa_cons pe_int pa_nil))) (pa_cons (pe_cal (CD.mono (by decide)) hr (by rfl) (pa_cons (pv 0) (pa_cons (pe_op op_add (pv 1) pe_int) pa_nil))) (pa_cons pe_non pa_nil))))) (pe_cal (CD.mono (by decide)) hr (by rfl) (pa_cons (pv 0) (pa_cons pe_int pa_nil))) (fun _ _ => rfl)))), ?_⟩
  have hS : Se n r (fun b => b = r.a) [] H := ⟨hb, ⟨rfl, fun b hb' => by rw [hb']; exact hb.some⟩, fun p hp => nomatch hp⟩
  have d3 : Ev 1 r (fun b => b = r.a) [] [some (.ref r.a), some (.int most)] (tCall (spDraw r) [] E0 (tCons (tVar 0) (tCons (tC (.int 3)) tNil))) (fun d => isPatience d = true) := (ev_draw (ev_int (i := 3)) rfl (by decide) (by decide)).ev fun i hi => by
    simp only [isPatience, Bool.and_eq_true, decide_eq_true_eq]; omega
  have dm : Ev 1 r (fun b => b = r.a) [] [some (.ref r.a), some (.int most)] (tCall (spDraw r) [] E0 (tCons (tVar 0) (tCons (tOp (rI0 fun i j => .int (i + j)) (tVar 1) (tC (.int 1))) tNil))) (fun d => isPatience d = true) :=
    (ev_draw (evi_add (ev_varI (i := 1) rfl) (ev_int (i := 1))) rfl (by omega) (by rw [t140]; omega)).ev fun i hi => by
    simp only [isPatience, Bool.and_eq_true, decide_eq_true_eq]; omega
  exact (ev_ix (K := K) (ev_lst (eva_cons d3 (eva_cons d3 (eva_cons dm (eva_cons (ev_non rfl) eva_nil))))) ((ev_draw (ev_int (i := 4)) rfl (by decide) (by decide)).imp fun i hi => ⟨hi.1, by have := hi.2; show i < 4; omega⟩)) n H _ (by omega) hS fun v d H' b' m' rp p => q v d H' b'.to m' (pat_any rp p) p
theorem ok_planB {f : Addr} {r : Bg} {fd : FuncData} (F : Fun K "_law_plan" "_law_plan" sPlanB f fd) (T2 : Nm5 mg) (CD : Cal P w K mg base 2 "_law_draw" ["bag", "many"] (spDraw r)) (CP : Cal P w K mg base 3 "_law_patience" ["bag", "most"] (spPatB r)) : FnOk P w K mg base CX0 4 f fd ["bag", "most", "wide"] (spPlanB r) := by
  refine F.ok scPlanB (fun vs H Q E ⟨most, wide, n, e, _⟩ => by rw [e]; rfl) (fun cdv A outer s H vs Q E hr h => ?_)
  obtain ⟨most, wide, n, rfl, hb, hn, m1, m8, w0, w1, q⟩ := h
  have nd := scPlanB.nd
  have hM : M60 = 1000000000000000000 := rfl
  have hG : GREAT = 1000000000000000000000000000000 := rfl
  have t140 : (2 : Int) ^ 140 = 1393796574908163946345982392040522594123776 := by decide +kernel
  refine ⟨_, (pss_cons (ps_set (i := 3) nd rfl (.inl rfl) (pe_lst pa_nil))
      (pss_cons (ps_for PassesOwn.never rfl (pi_range1 (by rfl) T2.range (pa_cons (pe_op op_add pe_int (pe_cal (CD.mono (by decide)) hr (by rfl) (pa_cons (pv 0) (pa_cons (pv 1) pa_nil)))) pa_nil)) (pg_name (i := 4) nd rfl (.inl rfl)) (pss_cons (ps_setLc (i := 5) (own := [("spot", 6)]) (g := (gName 6)) (tt := tYes) rfl nd rfl rfl (sw_true rfl rfl rfl (by decide +kernel)) (pi_range1 (by rfl) T2.range (pa_cons (pe_op op_add pe_int (pe_cal (CD.mono (by decide)) hr (by rfl) (pa_cons (pv 0) (pa_cons pe_int pa_nil)))) pa_nil)) (blkOk_by (own := [("spot", 6)]) (N := nPlanB) (sc := (defScope sPlanB)) (by decide +kernel)) (fun _ _ _ _ _ => (pg_name (i := 6) nd rfl (.inl rfl))) (fun _ _ _ _ _ => pts_nil) (fun _ _ _ _ _ => (pe_cal (CP.mono (by decide)) hr (by rfl) (pa_cons (pv 0) (pa_cons (pv 2) pa_nil)))))
      (pss_one (ps_expr (pe_bm PySem.F.plainAttrs_list PySem.F.slot_list_append PySem.F.type_list_append mt_append (pv 3) (pa_cons (pe_tup (pa_cons (pv 5) (pa_cons (pe_ix ix_list (pe_lst (pa_cons (pe_cal (CD.mono (by decide)) hr (by rfl) (pa_cons (pv 0) (pa_cons pe_int pa_nil))) (pa_cons (pe_cal (CD.mono (by decide)) hr (by rfl) (pa_cons (pv 0) (pa_cons (pe_op op_pow pe_int pe_int) pa_nil))) pa_nil))) (pe_cal (CD.mono (by decide)) hr (by rfl) (pa_cons (pv 0) (pa_cons pe_int pa_nil))) (fun _ _ => rfl)) pa_nil))) pa_nil))))))
      (pss_cons (ps_if (pt_cmpR op_eq (pe_cal (CD.mono (by decide)) hr (by rfl) (pa_cons (pv 0) (pa_cons pe_int pa_nil))) pe_int (nomark _)) (pss_one (ps_asg (pe_tup (pa_cons (pe_ix ix_tup (pe_ix ix_list (pv 3) (pe_un un_neg pe_int) (fun _ _ => rfl)) pe_int (fun _ _ => rfl)) (pa_cons pe_non pa_nil))) (pg_sub (pv 3) (pe_un un_neg pe_int) set_list))) pss_nil)
      (pss_one (ps_ret (pv 3)))))), ?_⟩
  refine ⟨Nat.zero_le _, fun pf npf => ?_⟩
  have hS : Se n r (fun b => b = r.a) [] H := ⟨hb, ⟨rfl, fun b hb' => by rw [hb']; exact hb.some⟩, fun p hp => nomatch hp⟩
  have D1 : DS n r pf [] (([] : List RowT).map rowD) (upd H pf (.lst [])) := DS.mk' hS npf .nil
  have v1 : Mv r H (upd H pf (.lst [])) := Mv.of (same_upd npf)
  generalize upd H pf (.lst []) = H1 at D1 v1 ⊢
  dsimp only [gName]
  show tSeq _ _ _ [some (.ref r.a), some (.int most), some (.int wide), some (.ref pf), none, none, none] H1
  refine ⟨.ref r.a, rfl, .int most, rfl, most, n, rfl, D1.se.re, by omega, m1, by rw [t140]; omega, fun x H2 b2 v2 x0 x1 => ⟨1, x, rfl, rfl, 1 + x, rfl, by omega, by omega, ?_⟩⟩
  obtain ⟨sz, hsz⟩ : ∃ sz : Nat, 1 + x = (sz : Int) := ⟨(1 + x).toNat, by omega⟩
  rw [hsz]
  have D2 := D1.mv b2 v2
  refine for_range (lo := 0) (n := ((sz : Int)).toNat) (fun i σ H4 => ∃ L y4 y5, σ = [some (.ref r.a), some (.int most), some (.int wide), some (.ref pf), y4, y5, none] ∧ DS (n + 1 + 40 * i) r pf [] (L.map rowD) H4 ∧ Mv r H H4 ∧ L.length = i ∧ (∀ x ∈ L, RowF x) ∧ ∀ x ∈ L, DrM x.2)
    ⟨[], none, none, rfl, D2, v1.trans v2, rfl, fun x hx => (nomatch hx), fun x hx => (nomatch hx)⟩ (fun i σ H4 hi hP => ?_) (fun σ H4 hP => ?_)
  · obtain ⟨L, y4, y5, rfl, D4, v4, hL, hF, hMn⟩ := hP
    have hi8 : i < 8 := by omega
    dsimp only [gName]
    show tSeq _ _ _ [some (.ref r.a), some (.int most), some (.int wide), some (.ref pf), some (.int (0 + (i : Int))), y5, none] H4
    refine ⟨.ref r.a, rfl, 8, _, rfl, D4.se.re, by omega, by decide, by decide, fun y H5 b5 v5 y0 y1 => ⟨1, y, rfl, rfl, 1 + y, rfl, by omega, by omega, fun D hD => ?_⟩⟩
    have Dr := (b5.new hD).a
    have D5 := D4.mv b5 v5
    refine lc_range (lo := 0) (n := (1 + y).toNat) (fun j H6 => ∃ ts vs, BagAt (n + 1 + 40 * i + 1 + 4 * j) H6 r ∧ Mv r H5 H6 ∧ H6 D = some (.lst vs) ∧ RpAll (fun _ => none) vs ts ∧ ts.length = j ∧ ∀ d ∈ ts, isPatience d = true)
      ⟨[], [], b5.store (b5.new hD), (Mv.refl r H5).upd hD, upd_same, .nil, rfl, fun d hd => (nomatch hd)⟩ (fun j H6 hj ⟨ts, vs, b6, m6, eD, hv, lt, hp⟩ => ?_) (fun H6 ⟨ts, vs, b6, m6, eD, hv, lt, hp⟩ => ?_)
    · have hj8 : j < 8 := by omega
      refine ⟨rfl, yesT ⟨.ref r.a, rfl, .int wide, rfl, wide, _, rfl, b6, by omega, w0, w1, fun v d H7 b7 m7 rp p => ⟨vs, m7.keep D _ Dr eD, small1000 (by rw [hv.length]; omega), ts ++ [d], vs ++ [v], (b7.mono (by omega)).store (b5.new hD), (m6.trans m7).upd hD, upd_same, hv.snoc rp, by rw [List.length_append, lt]; rfl, fun e he => ?_⟩⟩⟩
      rcases List.mem_append.mp he with he | he
      · exact hp e he
      · rw [List.mem_singleton.mp he]; exact p
    have hl1 : 1 ≤ ts.length ∧ ts.length ≤ 8 := by omega
    have D6 := (D5.mv b6 m6).to (m := n + 1 + 40 * i + 34) (by omega)
    dsimp only [gName]
    show tDrop _ _ [some (.ref r.a), some (.int most), some (.int wide), some (.ref pf), some (.int (0 + (i : Int))), some (.ref D), none] H6
    obtain ⟨fvs, hpf, _⟩ := D6.at_
    refine ⟨.ref pf, rfl, .inl ⟨rfl, _, SqL.of hpf⟩, .ref D, rfl, ?_⟩
    have em : Ev 3 r (fun b => b = r.a ∨ b = pf) [] [some (.ref r.a), some (.int most), some (.int wide), some (.ref pf), some (.int (0 + (i : Int))), some (.ref D), none]
        (tOp (rIxL K) (tLst (tCons (tCall (spDraw r) [] E0 (tCons (tVar 0) (tCons (tC (.int 30)) tNil))) (tCons (tCall (spDraw r) [] E0 (tCons (tVar 0) (tCons (tOp (rI CPow fun i j => .int (i ^ j.toNat)) (tC (.int 10)) (tC (.int 29))) tNil))) tNil))) (tCall (spDraw r) [] E0 (tCons (tVar 0) (tCons (tC (.int 2)) tNil)))) DrM :=
      ev_ix (ev_lst (eva_cons ((ev_draw (ev_int (i := 30)) rfl (by decide) (by decide)).ev fun i hi => ⟨i, rfl, hi.1, by have := hi.2; omega⟩)
        (eva_cons ((ev_draw (evi_pow ⟨by decide, by decide, by decide⟩) rfl (by decide +kernel) (by decide +kernel)).ev fun i hi => ⟨i, rfl, hi.1, Int.lt_of_lt_of_le hi.2 (by decide +kernel)⟩) eva_nil))) ((ev_draw (ev_int (i := 2)) rfl (by decide) (by decide)).imp fun i hi => ⟨hi.1, by have := hi.2; show i < 2; omega⟩)
    refine em _ H6 _ (by omega) D6.se fun vm dm H7 b7 m7 rpm hdm => ?_
    refine ⟨small_le (by show 2 ≤ 1000; decide), fun u nu => ?_⟩
    have D7 := D6.mv b7 m7
    have eD7 := m7.keep D _ Dr eD
    have s8 := same_upd (o := .tup [.ref D, vm]) nu
    have uW := D7.se.wk.out nu
    have D8 := D7.mv (b7.same s8) (Mv.of s8)
    have eu : (upd H7 u (.tup [.ref D, vm])) u = some (.tup [.ref D, vm]) := upd_same
    have eD8 := s8 _ _ eD7
    have v8 : Mv r H (upd H7 u (.tup [.ref D, vm])) := (v4.trans v5).trans ((m6.trans m7).trans (Mv.of s8))
    generalize upd H7 u (.tup [.ref D, vm]) = H8 at s8 D8 eu eD8 v8 ⊢
    have Dpf : D ≠ pf := fun z => by
      obtain ⟨gv, hg, _⟩ := D5.at_
      rw [z, hg] at hD
      cases hD
    have DW : ¬ (D = r.a ∨ D = pf) := fun z => z.elim Dr Dpf
    obtain ⟨d', rfl, d0, d1⟩ := hdm
    obtain ⟨fv, hfv, lf, D9⟩ := D8.app (D := pf) D8.se.re (Mv.refl r H8) (v := .ref u) (d := rowD (ts, .int d')) (.tup (by rw [Hw.at (W := fun b => b = r.a ∨ b = pf) uW]; exact eu) (.cons (.lst (by rw [Hw.at (W := fun b => b = r.a ∨ b = pf) DW]; exact eD8) (pats_any hv hp)) (.cons (by cases rpm; exact .int d') .nil)))
    refine ⟨pf, fv, .ref u, rfl, rfl, hfv, small1000 (by rw [lf, List.length_map]; omega), L ++ [(ts, .int d')], _, _, rfl, ?_, v8.upd npf, by rw [List.length_append, hL]; rfl, fun x hx => ?_, fun x hx => ?_⟩
    · rw [List.map_append]
      exact D9.to (by omega)
    · rcases List.mem_append.mp hx with hx | hx
      · exact hF x hx
      · rw [List.mem_singleton.mp hx]
        exact ⟨hl1.1, hl1.2, hp⟩
    · rcases List.mem_append.mp hx with hx | hx
      · exact hMn x hx
      · rw [List.mem_singleton.mp hx]
        exact ⟨d', rfl, d0, d1⟩
  · obtain ⟨L, y4, y5, rfl, D4, v4, hL, hF, hMn⟩ := hP
    have hsz8 : 1 ≤ L.length ∧ L.length ≤ 8 := by omega
    have D4 := D4.to (m := n + 399) (by omega)
    dsimp only []
    show tSeq (tIfS _ _ _) _ _ [some (.ref r.a), some (.int most), some (.int wide), some (.ref pf), y4, y5, none] H4
    refine seqP (fun σ' H' => ∃ L, σ' = [some (.ref r.a), some (.int most), some (.int wide), some (.ref pf), y4, y5, none] ∧ DS (n + 400) r pf [] (L.map rowD) H' ∧ Mv r H H' ∧ PlanL L) (fun σ' H' hR => ?_) (fun nx hnx => ?_)
    · obtain ⟨L, rfl, D5, v5, hP⟩ := hR
      exact ⟨.ref pf, rfl, q (.ref pf) L H' D5.se.re v5 (D5.back.ok (.ref pf, .list (L.map rowD)) List.mem_cons_self) hP⟩
    · refine ⟨.ref r.a, rfl, 2, _, rfl, D4.se.re, by omega, by decide, by decide, fun z H5 b5 v5 z0 z1 => ⟨rfl, _, rfl, ite2 (fun c => ?_) (fun c => ?_)⟩⟩
      rotate_left
      · exact hnx _ _ ⟨L, rfl, D4.mv b5 v5, v4.trans v5, hsz8.1, hsz8.2, hF, fun i x hx => .inl (hMn x (List.mem_of_getElem? hx))⟩
      clear c
      have D5 := D4.mv b5 v5
      have v5 := v4.trans v5
      obtain ⟨L0, ⟨ts, mm⟩, rfl⟩ : ∃ L0 x, L = L0 ++ [x] := ⟨L.dropLast, L.getLast (by intro z; rw [z] at hsz8; exact absurd hsz8.1 (by decide)), (List.dropLast_concat_getLast _).symm⟩
      obtain ⟨gvs, hgv, hrp⟩ := D5.at_
      rw [List.map_append, List.map_cons, List.map_nil] at hrp
      obtain ⟨fv0, vl, rfl, hrp0, hrpl⟩ := hrp.unsnoc2
      cases hrpl with
      | @tup b _ _ hb hall =>
      cases hall with
      | cons ht hall =>
      cases hall with
      | cons hm hall =>
      cases hall
      cases ht with
      | @lst t tv _ ht htv =>
      have hb' := Hw.sub _ _ _ _ hb
      have ht' := Hw.sub _ _ _ _ ht
      have tW := Hw.ne ht
      refine ⟨.ref pf, rfl, 1, rfl, pf, _, -1, .ref b, rfl, rfl, SqL.of hgv, atI_last _ _, b, _, 0, .ref t, rfl, rfl, SqT.of hb', rfl, small_le (by show 2 ≤ 1000; decide), fun u nu => ?_⟩
      have s6 := same_upd (o := .tup [.ref t, .non]) nu
      have eu : (upd H5 u (.tup [.ref t, .non])) u = some (.tup [.ref t, .non]) := upd_same
      have uW := D5.se.wk.out nu
      have ht6 := s6 _ _ ht'
      have b6 := b5.same s6
      have v6 := v5.trans (Mv.of s6)
      have hgv6 := s6 _ _ hgv
      have hrp06 := RpAll.sm (Same.hw (W := fun b => b = r.a ∨ b = pf) s6) hrp0
      have htv6 := RpAll.sm (Same.hw (W := fun b => b = r.a ∨ b = pf) s6) htv
      generalize upd H5 u (.tup [.ref t, .non]) = H6 at s6 eu ht6 b6 v6 hgv6 hrp06 htv6 ⊢
      have hixl : ixN (fv0 ++ [V.ref b]).length (-1) = some fv0.length := by
        rw [List.length_append, List.length_singleton]
        exact ix_last _
      refine ⟨.ref pf, rfl, 1, rfl, pf, _, -1, fv0.length, rfl, rfl, hgv6, hixl, ?_⟩
      have eset : (fv0 ++ [V.ref b]).set fv0.length (V.ref u) = fv0 ++ [.ref u] := by rw [List.set_append_right _ _ (Nat.le_refl _), Nat.sub_self]; rfl
      rw [eset]
      have off := D5.off
      have hF0 : RowF (ts, mm) := hF _ (List.mem_append_right _ List.mem_cons_self)
      refine hnx _ _ ⟨L0 ++ [(ts, .none)], rfl, ⟨⟨b6.store off, ⟨.inl rfl, fun c hc => ?_⟩, fun p hp => nomatch hp⟩, ⟨_, upd_same, ?_⟩, off⟩, v6.upd npf, ?_⟩
      · rcases hc with e | e
        · rw [e, upd_ne (Ne.symm off.a)]; exact b6.some
        · rw [e, upd_same]; exact nofun
      · rw [hw_upd (W := fun b => b = r.a ∨ b = pf) (a := pf) (.inr rfl), List.map_append]
        exact hrp06.snoc (.tup (by rw [Hw.at (W := fun b => b = r.a ∨ b = pf) uW]; exact eu) (.cons (.lst (by rw [Hw.at (W := fun b => b = r.a ∨ b = pf) tW]; exact ht6) htv6) (.cons .non .nil)))
      · rw [List.length_append] at hsz8
        refine ⟨by rw [List.length_append]; exact hsz8.1, by rw [List.length_append]; exact hsz8.2, fun x hx => ?_, fun i x hx => ?_⟩
        · rcases List.mem_append.mp hx with hx | hx
          · exact hF x (List.mem_append_left _ hx)
          · rw [List.mem_singleton.mp hx]
            exact ⟨hF0.l1, hF0.l8, hF0.pt⟩
        · by_cases hi : i < L0.length
          · rw [List.getElem?_append_left hi] at hx
            exact .inl (hMn x (List.mem_append_left _ (List.mem_of_getElem? hx)))
          · rw [List.getElem?_append_right (by omega)] at hx
            have h0 : i - L0.length = 0 := by
              have := (List.getElem?_eq_some_iff.mp hx).1
              rw [List.length_singleton] at this
              omega
            rw [h0] at hx
            cases hx
            exact .inr ⟨by rw [List.length_append, List.length_singleton]; omega, rfl⟩
end
end CL
set_option Elab.async false
set_option linter.all false
set_option pp.maxSteps 600
set_option maxRecDepth 100000
set_option maxHeartbeats 4000000
namespace CL
open PySem PySem.Spec PyProof.Rows L2 GE
/-! ### evaluation to what is known in full -/
section
variable {c c1 c2 : Nat} {r : Bg} {W : Addr → Prop} {G : Gam} {σ : L2.St}
def EvL (c : Nat) (r : Bg) (W : Addr → Prop) (G : Gam) (σ : L2.St) (ta : TA) (ds : List PyData) : Prop := ∀ n H Q, n + c ≤ M60 → Se n r W G H → (∀ vs H', BagAt (n + c) H' r → Mv r H H' → RpAll (Hw W H') vs ds → Q vs H') → ta σ H Q
theorem evl_nil : EvL 0 r W G σ tNil [] := fun n H Q l s q => q [] H s.re (Mv.refl r H) .nil
theorem evl_cons {te : TE} {ta : TA} {d : PyData} {ds : List PyData} (e : Ev c1 r W G σ te (· = d)) (a : EvL c2 r W G σ ta ds) : EvL (c1 + c2) r W G σ (tCons te ta) (d :: ds) := fun n H Q l s q =>
  e n H _ (by omega) s fun v d' H1 re1 m1 rp1 p1 => a (n + c1) H1 _ (by omega) (s.mv re1 m1) fun vs H2 re2 m2 rp2 => q (v :: vs) H2 re2.to (m1.trans m2) (.cons (Rp.sm (m2.hw s.wk.bag) (by rw [← p1]; exact rp1)) rp2)
theorem RpAll.len {H : Hp} {vs : List V} {ds : List PyData} (h : RpAll H vs ds) : vs.length = ds.length := h.length
theorem evx_lst {ta : TA} {ds : List PyData} (a : EvL c r W G σ ta ds) (hn : ds.length ≤ 1000 := by decide) : Ev c r W G σ (tLst ta) (· = .list ds) := fun n H Q l s q =>
  a n H _ l s fun vs H1 re1 m1 rp1 => ⟨small_le (by rw [rp1.length]; exact hn), fun p np => q (.ref p) (.list ds) _ (re1.same (same_upd np)) (m1.trans (Mv.of (same_upd np)))
    (.lst (by rw [Hw.at ((s.wk.mv re1 m1).out np)]; exact upd_same) (RpAll.sm (Same.hw (same_upd np)) rp1)) rfl⟩
theorem evx_tup {ta : TA} {ds : List PyData} (a : EvL c r W G σ ta ds) (hn : ds.length ≤ 1000 := by decide) : Ev c r W G σ (tTup ta) (· = .tuple ds) := fun n H Q l s q =>
  a n H _ l s fun vs H1 re1 m1 rp1 => ⟨small_le (by rw [rp1.length]; exact hn), fun p np => q (.ref p) (.tuple ds) _ (re1.same (same_upd np)) (m1.trans (Mv.of (same_upd np)))
    (.tup (by rw [Hw.at ((s.wk.mv re1 m1).out np)]; exact upd_same) (RpAll.sm (Same.hw (same_upd np)) rp1)) rfl⟩
theorem evx_cat {ta tb : TE} {ds es : List PyData} (a : Ev c1 r W G σ ta (· = .list ds)) (b : Ev c2 r W G σ tb (· = .list es)) (hn : ds.length ≤ 1000) (hm : es.length ≤ 1000) : Ev (c1 + c2) r W G σ (tOp rCat ta tb) (· = .list (ds ++ es)) :=
  ev_catG a b fun _ _ e1 e2 => ⟨ds, es, e1, e2, hn, hm, rfl⟩
theorem xi (i : Int) : Ev 0 r W G σ (tC (.int i)) (· = .int i) := (ev_int (i := i)).ev fun j e => by rw [e]
theorem xn : Ev 0 r W G σ (tC .non) (· = .none) := ev_non rfl
theorem xb (b : Bool) : Ev 0 r W G σ (tC (.bl b)) (· = .bool b) := ev_bl rfl
theorem xs (x : Str) : Ev 0 r W G σ (tC (.str x)) (· = .str x) := ev_str rfl
/-- the first ones, the others -/
theorem evx_to {K : PySem.W.Frag} {te ti : TE} {ds : List PyData} {k : Nat} (a : Ev c1 r W G σ te (· = .list ds)) (b : EvI c2 r W G σ ti (· = (k : Int))) : Ev (c1 + 0 + c2) r W G σ (tSl (rSlL K) te tNoPart (tPart ti)) (· = .list (ds.take k)) :=
  ev_slG (K := K) (PL := fun l => l = none) (PH := fun l => ∃ i, l = some i ∧ i = (k : Int)) a part_none (part_some b) fun d l u e1 e2 ⟨i, e3, e4⟩ => ⟨ds, e1, by
    subst e2 e3 e4
    have e0 : HT.sIx ds.length 0 none = 0 := rfl
    have e1 : HT.sIx ds.length ds.length (some (k : Int)) = min k ds.length := by
      show (if (k : Int) < 0 then ((k : Int) + (ds.length : Int)).toNat else min ((k : Int)).toNat ds.length) = _
      rw [if_neg (by omega), Int.toNat_natCast]
    rw [e0, e1, List.drop_zero, Nat.sub_zero, ← List.take_eq_take_min]⟩
theorem evx_from {K : PySem.W.Frag} {te ti : TE} {ds : List PyData} {k : Nat} (a : Ev c1 r W G σ te (· = .list ds)) (b : EvI c2 r W G σ ti (· = (k : Int))) (hk : k ≤ ds.length) : Ev (c1 + c2 + 0) r W G σ (tSl (rSlL K) te (tPart ti) tNoPart) (· = .list (ds.drop k)) :=
  ev_slG (K := K) (PL := fun l => ∃ i, l = some i ∧ i = (k : Int)) (PH := fun l => l = none) a (part_some b) part_none fun d l u e1 ⟨i, e3, e4⟩ e2 => ⟨ds, e1, by
    subst e2 e3 e4
    have e0 : HT.sIx ds.length ds.length none = ds.length := rfl
    have e1 : HT.sIx ds.length 0 (some (k : Int)) = k := by
      show (if (k : Int) < 0 then ((k : Int) + (ds.length : Int)).toNat else min ((k : Int)).toNat ds.length) = _
      rw [if_neg (by omega), Int.toNat_natCast]
      omega
    rw [e0, e1, List.take_of_length_le (by rw [List.length_drop]; exact Nat.le_refl _)]⟩
theorem evl_cons0 {te : TE} {ta : TA} {d : PyData} {ds : List PyData} (e : Ev 0 r W G σ te (· = d)) (a : EvL 0 r W G σ ta ds) : EvL 0 r W G σ (tCons te ta) (d :: ds) := evl_cons e a
theorem evx_cat0 {ta tb : TE} {ds es : List PyData} (a : Ev 0 r W G σ ta (· = .list ds)) (b : Ev 0 r W G σ tb (· = .list es)) (hn : ds.length ≤ 1000) (hm : es.length ≤ 1000) : Ev 0 r W G σ (tOp rCat ta tb) (· = .list (ds ++ es)) := evx_cat a b hn hm
theorem evi_add0 {ta tb : TE} {x y : Int} (a : EvI 0 r W G σ ta (· = x)) (b : EvI 0 r W G σ tb (· = y)) : EvI 0 r W G σ (tOp (rI0 fun i j => .int (i + j)) ta tb) (· = x + y) := evi_add a b
theorem evi_sub0 {ta tb : TE} {x y : Int} (a : EvI 0 r W G σ ta (· = x)) (b : EvI 0 r W G σ tb (· = y)) : EvI 0 r W G σ (tOp (rI0 fun i j => .int (i - j)) ta tb) (· = x - y) := evi_sub a b
theorem evx_rep {ta : TE} {ds : List PyData} {k : Nat} (a : Ev c r W G σ ta (· = .list ds)) (hn : ds.length ≤ 100) (hk : k ≤ 10) : Ev c r W G σ (tOp rRep ta (tC (.int (k : Int)))) (· = .list (List.replicate k ds).flatten) := fun n H Q l s q =>
  a n H _ l s fun v d H1 b1 m1 rp e => by
    subst e
    obtain ⟨p, xs, rfl, hp, hx⟩ := rp_list rp
    have lx := hx.length
    have h1 : xs.length * k ≤ 1000 := Nat.le_trans (Nat.mul_le_mul (lx ▸ hn) hk) (by decide)
    refine ⟨p, k, xs, rfl, rfl, Hw.sub _ _ _ _ hp, by omega, by omega, small_le (by rw [Int.toNat_natCast]; exact h1), fun t nt => q (.ref t) _ _ (b1.same (same_upd nt)) (m1.trans (Mv.of (same_upd nt))) (.lst (by rw [Hw.at ((s.wk.mv b1 m1).out nt)]; exact upd_same) (RpAll.sm (Same.hw (same_upd nt)) ?_)) rfl⟩
    rw [Int.toNat_natCast]
    clear h1 hk nt q lx
    induction k with
    | zero => exact .nil
    | succ k ih =>
      rw [List.replicate_succ, List.replicate_succ, List.flatten_cons, List.flatten_cons]
      exact hx.append ih
theorem evi_mul {ta tb : TE} {x y : Int} (a : EvI c1 r W G σ ta (· = x)) (b : EvI c2 r W G σ tb (· = y)) (h : CMul x y) : EvI (c1 + c2) r W G σ (tOp (rI CMul fun i j => .int (i * j)) ta tb) (· = x * y) := fun n H Q l s q =>
  a n H _ (by omega) s fun i H1 re1 m1 e1 => b (n + c1) H1 _ (by omega) (s.mv re1 m1) fun j H2 re2 m2 e2 => ⟨i, j, rfl, rfl, by rw [e1, e2]; exact h, q _ H2 re2.to (m1.trans m2) (by rw [e1, e2])⟩
theorem evi_mul0 {ta tb : TE} {x y : Int} (a : EvI 0 r W G σ ta (· = x)) (b : EvI 0 r W G σ tb (· = y)) (h : CMul x y) : EvI 0 r W G σ (tOp (rI CMul fun i j => .int (i * j)) ta tb) (· = x * y) := evi_mul a b h
/-- a comprehension over a list that is known, nothing drawn within -/
theorem ev_lcL {K : PySem.W.Frag} {i : Nat} {tl te : TE} {ds : List PyData} {f : PyData → PyData} (hn : ds.length ≤ 999) (e : Ev c r W G σ tl (· = .list ds))
    (he : ∀ (W' : Addr → Prop) (G' : Gam) (v : V) (d : PyData), d ∈ ds → (∀ p ∈ G, p ∈ G') → Ev 0 r W' ((v, d) :: G') ((σ.set i none).set i (some v)) te (· = f d)) : Ev c r W G σ (tLc (iList K tl) (gName i) tYes te [i]) (· = .list (ds.map f)) := fun n H Q l s q =>
  e n H _ l s fun v d H1 b1 m1 rp e1 => by
    subst e1
    obtain ⟨a, xs, rfl, ha, hx⟩ := rp_list rp
    have ha1 := Hw.sub _ _ _ _ ha
    have aW : ¬ W a := Hw.ne ha
    have s1 := s.mv b1 m1
    refine ⟨a, rfl, ⟨xs, SqL.of ha1⟩, fun D nD => ?_⟩
    have off := b1.new nD
    have nW := s1.wk.out nD
    have aD : a ≠ D := fun z => by rw [← z, ha1] at nD; cases nD
    have ar : a ≠ r.a := fun z => aW (by rw [z]; exact s.wk.bag)
    have lx := hx.length
    refine lc_list (K := K) (a := a) (xs := xs) (fun k H3 => ∃ vs, BagAt (n + c) H3 r ∧ Mv r H1 H3 ∧ H3 D = some (.lst vs) ∧ RpAll (Hw (fun b => W b ∨ b = D) H3) vs ((ds.take k).map f))
      ⟨[], b1.same (same_upd nD), Mv.of (same_upd nD), upd_same, .nil⟩ (fun k H3 _ ⟨vs, b3, m3, _⟩ => SqL.of (m3.keep a _ ar ha1)) (fun k x H3 hxk ⟨vs, b3, m3, eD, hv⟩ => ?_) (fun H3 ⟨vs, b3, m3, eD, hv⟩ => ?_)
    · have hk : k < xs.length := (List.getElem?_eq_some_iff.mp hxk).1
      have lv := hv.length
      rw [List.length_map, List.length_take] at lv
      have S3 : Se (n + c) r (fun b => W b ∨ b = D) ((.ref a, .list ds) :: G) H3 := by
        refine ⟨b3, ⟨.inl s.wk.bag, fun b hb => hb.elim (fun z => (s1.wk.mv b3 m3).trk b z) fun z => by rw [z, eD]; exact nofun⟩, fun p hp => Rp.sm (H := Hw W H1) (fun b o e => ?_) ((s1.ok.cons rp) p hp)⟩
        have nb := Hw.ne e
        have e' := Hw.sub W H1 b o e
        rw [Hw.at (W := fun b => W b ∨ b = D) (fun z => z.elim nb fun z => by rw [z, nD] at e'; cases e')]
        exact m3.keep b o (fun z => nb (by rw [z]; exact s.wk.bag)) e'
      obtain ⟨a', ys, ea, ha3, hx3⟩ := rp_list (S3.ok (.ref a, .list ds) List.mem_cons_self)
      cases ea
      have e3 := Hw.sub _ _ _ _ ha3
      rw [m3.keep a _ ar ha1] at e3
      cases e3
      obtain ⟨dx, hdx, hRx⟩ := hx3.get hxk
      refine ⟨?_, yesT (he (fun b => W b ∨ b = D) ((.ref a, .list ds) :: G) x dx (List.mem_of_getElem? hdx) (fun p hp => List.mem_cons_of_mem _ hp) (n + c) H3 _ (by omega) ⟨S3.re, S3.wk, S3.ok.cons hRx⟩ fun v d H4 b4 m4 rp p => ?_)⟩
      · show ((σ.set i none).set i (some x)).set i none = σ.set i none
        rw [List.set_set, List.set_set]
      · subst p
        refine ⟨vs, m4.keep D _ off.a eD, small1000 (by omega), vs ++ [v], (b4.store off).mono (by omega), (m3.trans m4).upd nD, upd_same, ?_⟩
        rw [hw_upd (W := fun b => W b ∨ b = D) (.inr rfl), List.take_add_one, hdx, List.map_append]
        exact (RpAll.sm (m4.hw (W := fun b => W b ∨ b = D) (.inl s.wk.bag)) hv).snoc rp
    · rw [lx, List.take_length] at hv
      exact q (.ref D) (.list (ds.map f)) H3 b3 (m1.trans m3) (.lst (by rw [Hw.at nW]; exact eD) (RpAll.sm (Hw.less fun b hb => .inl hb) hv)) rfl
end
end CL
set_option Elab.async false
set_option linter.all false
set_option maxRecDepth 100000
set_option maxHeartbeats 4000000
set_option exponentiation.threshold 200000
namespace CL
open PySem PySem.Spec PyProof.Rows L2 GE TL
abbrev sIsN : Stmt := topS 10
abbrev sBy : Stmt := topS 11
abbrev sIsO : Stmt := topS 13
abbrev sNor : Stmt := topS 14
abbrev nIsN : List Str := ["word"]
abbrev nIsO : List Str := ["word", "none"]
abbrev nNor : List Str := ["word", "none"]
abbrev nBy : List Str := ["figures", "head", "number", "at"]
theorem scIsN : FnScope nIsN ["word"] (defScope sIsN) := ⟨rfl, rfl, rfl, by decide +kernel, rfl, by decide +kernel, by decide +kernel⟩
theorem scIsO : FnScope nIsO ["word", "none"] (defScope sIsO) := ⟨rfl, rfl, rfl, by decide +kernel, rfl, by decide +kernel, by decide +kernel⟩
theorem scNor : FnScope nNor ["word", "none"] (defScope sNor) := ⟨rfl, rfl, rfl, by decide +kernel, rfl, by decide +kernel, by decide +kernel⟩
theorem scBy : FnScope nBy ["figures"] (defScope sBy) := ⟨rfl, rfl, rfl, by decide +kernel, rfl, by decide +kernel, by decide +kernel⟩
/-! ### numbers as texts -/
def dig (c : Nat) : Bool := decide (48 ≤ c) && decide (c ≤ 57)
/-- figures without noughts ahead -/
def numSigns (l : List Nat) : Bool := l.all dig && !l.isEmpty && (decide (l = [48]) || !decide (l.head? = some 48))
def isNumS (w : Str) : Bool := numSigns (tl w)
theorem isDigit_ascii : ∀ c, c < 128 → Unicode.isDigit c = dig c := by decide +kernel
theorem str_size {n : Nat} (h : n ≤ 40000) : n ≤ sizeLine := Nat.le_trans h (by rw [sizeLine_eq]; decide)
theorem zero_tl : tl (Str.ofString "0") = [48] := by decide +kernel
theorem str_zero {w : Str} : w = Str.ofString "0" ↔ tl w = [48] := ⟨fun e => by rw [e, zero_tl], fun e => ext_tl (by rw [e, zero_tl])⟩
theorem ascii_of {w : Str} : Txt.isascii w = (tl w).all (fun c => decide (c < 128)) := by
  show w.cps.all _ = w.cps.toList.all _
  rw [Array.all_toList]
theorem isdigit_of {w : Str} : Txt.isdigit w = (!(tl w).isEmpty && (tl w).all Unicode.isDigit) := by
  show (decide (w.length > 0) && w.cps.all _) = (!w.cps.toList.isEmpty && w.cps.toList.all _)
  rw [Array.all_toList]
  congr 1
  have : w.length = w.cps.toList.length := len_tl w
  rw [this]
  cases w.cps.toList with
  | nil => rfl
  | cons a l => simp
theorem ascii_dig {w : Str} : (Txt.isascii w && Txt.isdigit w) = ((tl w).all dig && !(tl w).isEmpty) := by
  rw [ascii_of, isdigit_of]
  generalize tl w = l
  rw [Bool.eq_iff_iff]
  simp only [Bool.and_eq_true, List.all_eq_true, decide_eq_true_eq]
  constructor
  · rintro ⟨h1, h2, h3⟩
    exact ⟨fun c hc => by rw [← isDigit_ascii c (h1 c hc)]; exact h3 c hc, h2⟩
  · rintro ⟨h1, h2⟩
    have hlt : ∀ c ∈ l, c < 128 := fun c hc => by
      have := h1 c hc
      simp only [dig, Bool.and_eq_true, decide_eq_true_eq] at this
      omega
    exact ⟨hlt, h2, fun c hc => by rw [isDigit_ascii c (hlt c hc)]; exact h1 c hc⟩
theorem isNum_parts {w : Str} (h : isNumS w = true) : NumText.AllDigits (tl w) ∧ tl w ≠ [] := by
  simp only [isNumS, numSigns, Bool.and_eq_true, List.all_eq_true] at h
  refine ⟨fun c hc => ?_, fun z => ?_⟩
  · have := h.1.1 c hc
    simpa [dig] using this
  · have := h.1.2
    rw [z] at this
    cases this
def numV (no w : Str) : V := if w = no then .non else .int ((NumText.digitsVal (tl w) : Nat) : Int)
def spIsN : Sp := fun vs H Q _ => ∃ w : Str, vs = [.str w] ∧ w.length ≤ 40000 ∧ ∀ H', Same H H' → Q (.bl (isNumS w)) H'
def spIsO : Sp := fun vs H Q _ => ∃ w no : Str, vs = [.str w, .str no] ∧ w.length ≤ 40000 ∧ ∀ H', Same H H' → Q (.bl (decide (w = no) || isNumS w)) H'
def spBy : Sp := fun vs H Q _ => ∃ w : Str, vs = [.str w] ∧ w.length ≤ 40000 ∧ isNumS w = true ∧ ∀ H', Same H H' → Q (.int ((NumText.digitsVal (tl w) : Nat) : Int)) H'
def spNor : Sp := fun vs H Q _ => ∃ w no : Str, vs = [.str w, .str no] ∧ w.length ≤ 40000 ∧ (decide (w = no) || isNumS w) = true ∧ ∀ H', Same H H' → Q (numV no w) H'
theorem digits_app (a b : List Nat) : NumText.digitsVal (a ++ b) = NumText.digitsVal a * 10 ^ b.length + NumText.digitsVal b := by
  have gen : ∀ (b : List Nat) (x : Nat), b.foldl (fun acc c => acc * 10 + (c - 48)) x = x * 10 ^ b.length + b.foldl (fun acc c => acc * 10 + (c - 48)) 0 := by
    intro b
    induction b with
    | nil => intro x; simp
    | cons c b ih =>
      intro x
      rw [List.foldl_cons, List.foldl_cons, ih, ih (0 * 10 + (c - 48)), List.length_cons, Nat.pow_succ]
      rw [Nat.add_mul, Nat.zero_mul, Nat.zero_add, Nat.mul_assoc, Nat.mul_comm 10 (10 ^ b.length), Nat.add_assoc]
  unfold NumText.digitsVal
  rw [List.foldl_append]
  exact gen b _
theorem digits_lt : ∀ (l : List Nat), NumText.AllDigits l → NumText.digitsVal l < 10 ^ l.length := by
  have gen : ∀ (k : Nat) (l : List Nat), l.length = k → NumText.AllDigits l → NumText.digitsVal l < 10 ^ l.length := by
    intro k
    induction k with
    | zero => intro l hk _; rw [List.eq_nil_of_length_eq_zero hk]; decide
    | succ k ih =>
    intro l0 hk h
    obtain ⟨l, c, rfl⟩ : ∃ l c, l0 = l ++ [c] := ⟨l0.dropLast, l0.getLast (by intro z; rw [z] at hk; cases hk), (List.dropLast_concat_getLast _).symm⟩
    have h1 := ih l (by rw [List.length_append, List.length_singleton] at hk; omega) fun d hd => h d (List.mem_append_left _ hd)
    have h2 := h c (List.mem_append_right _ (List.mem_singleton.mpr rfl))
    have hp : 10 ^ (l ++ [c]).length = 10 ^ l.length * 10 := by rw [List.length_append]; show 10 ^ (l.length + 1) = _; exact Nat.pow_succ ..
    have e1 : NumText.digitsVal [c] = 0 * 10 + (c - 48) := rfl
    have e3 : 10 ^ [c].length = 10 := rfl
    rw [digits_app, hp, e1, e3]
    omega
  exact fun l h => gen _ l rfl h
theorem rgC50 {h n : Nat} (hl : h + 50 * n ≤ 60000) : RgC (h : Int) ((h + 50 * n : Nat) : Int) 50 n := by
  have e : Builtin.Range.rangeSize (h : Int) ((h + 50 * n : Nat) : Int) 50 = n := by
    unfold Builtin.Range.rangeSize
    rw [if_pos (by decide)]
    split
    · omega
    · omega
  refine ⟨by decide, by decide, ?_, e⟩
  have fits : ∀ i : Int, -100000 ≤ i → i ≤ 100000 → Builtin.Range.rangeFitsLong i = true := fun i h1 h2 => by
    unfold Builtin.Range.rangeFitsLong
    rw [Bool.and_eq_true, decide_eq_true_eq, decide_eq_true_eq]
    have p63 : (2 : Int) ^ 63 = 9223372036854775808 := by decide +kernel
    rw [p63]
    omega
  unfold Builtin.Range.small
  rw [e, fits _ (by omega) (by omega), fits _ (by omega) (by omega), fits 50 (by decide) (by decide), fits _ (by omega) (by omega)]
  rw [if_pos (by decide), fits _ (by omega) (by omega)]
  simp
section
variable {P : Program} {w : World} {K : PySem.W.Frag} {mg : Str → Option Value} {base : Heap}
theorem ok_isN {f : Addr} {fd : FuncData} (F : Fun K "is_number" "is_number" sIsN f fd) : FnOk P w K mg base CX0 1 f fd ["word"] spIsN := by
  refine F.ok scIsN (fun vs H Q E ⟨w, e, _⟩ => by rw [e]; rfl) (fun cdv A outer s H vs Q E hr h => ?_)
  obtain ⟨x, rfl, hl, q⟩ := h
  have nd := scIsN.nd
  refine ⟨_, (pss_one (ps_ret (pe_and (pe_m0 PySem.F.slot_str_isascii PySem.F.type_str_isascii mt_isascii (pv 0)) (pe_and (pe_m0 PySem.F.slot_str_isdigit PySem.F.type_str_isdigit mt_isdigit (pv 0)) (pe_one (pe_or (pe_cmpR op_eq (pv 0) pe_str (nomark _)) (pe_one (pe_cmpR op_ne (pe_ix ix_str (pv 0) pe_int (fun _ _ => rfl)) pe_str (nomark _))))))))), ?_⟩
  have q := q H (Same.refl H)
  have key := ascii_dig (w := x)
  refine ⟨.str x, rfl, ⟨x, rfl⟩, x, rfl, rfl, trivial, Txt.isascii x, rfl, ite2 (fun e => ?_) (fun e => ?_)⟩
  · refine ⟨.str x, rfl, ⟨x, rfl⟩, x, rfl, rfl, trivial, Txt.isdigit x, rfl, ite2 (fun e2 => ?_) (fun e2 => ?_)⟩
    · rw [e, e2] at key
      have hv : isNumS x = (decide (tl x = [48]) || !decide ((tl x).head? = some 48)) := by
        show ((tl x).all dig && !(tl x).isEmpty && _) = _
        rw [← key]
        rfl
      refine ⟨.str x, rfl, rfl, decide (V.str x = V.str (Str.ofString "0")), rfl, ite2 (fun e3 => ?_) (fun e3 => ?_)⟩
      · have : tl x = [48] := str_zero.mp (V.str.inj (of_decide_eq_true e3))
        rw [hv, decide_eq_true this] at q
        exact q
      · have hn : tl x ≠ [48] := fun z => e3 (decide_eq_true (congrArg V.str (str_zero.mpr z)))
        have hne : tl x ≠ [] := fun z => by rw [z] at key; cases key
        obtain ⟨c, l, hc⟩ : ∃ c l, tl x = c :: l := by cases h : tl x with
          | nil => exact absurd h hne
          | cons c l => exact ⟨c, l, rfl⟩
        have ec : (V.str (⟨#[c]⟩ : Str) = V.str (Str.ofString "0")) ↔ c = 48 := by
          constructor
          · intro z
            have z := str_zero.mp (V.str.inj z)
            have z : [c] = [48] := z
            exact List.cons.inj z |>.1
          · intro z
            rw [z]
            exact congrArg V.str (str_zero.mpr rfl)
        refine ⟨.str x, rfl, x, 0, c, rfl, rfl, str_size hl, (by show atI (tl x) 0 = some c; rw [hc]; exact atI_nat (j := 0) rfl), rfl, ?_⟩
        have ev : isNumS x = (!decide (V.str (⟨#[c]⟩ : Str) = V.str (Str.ofString "0"))) := by
          rw [hv, decide_eq_false hn, hc, Bool.false_or]
          congr 1
          exact decide_eq_decide.mpr ⟨fun z => ec.mpr (Option.some.inj z), fun z => by rw [ec.mp z]; rfl⟩
        rw [ev] at q
        exact q
    · have e2 := Bool.eq_false_iff.mpr e2
      rw [e, e2] at key
      have hv : isNumS x = false := by
        show ((tl x).all dig && !(tl x).isEmpty && _) = _
        rw [← key]
        rfl
      rw [hv] at q
      exact q
  · have e := Bool.eq_false_iff.mpr e
    rw [e] at key
    have hv : isNumS x = false := by
      show ((tl x).all dig && !(tl x).isEmpty && _) = _
      rw [← key]
      rfl
    rw [hv] at q
    exact q
theorem ok_isO {f : Addr} {fd : FuncData} (F : Fun K "is_number_or" "is_number_or" sIsO f fd) (CN : Cal P w K mg base 1 "is_number" ["word"] spIsN) : FnOk P w K mg base CX0 2 f fd ["word", "none"] spIsO := by
  refine F.ok scIsO (fun vs H Q E ⟨w, no, e, _⟩ => by rw [e]; rfl) (fun cdv A outer s H vs Q E hr h => ?_)
  obtain ⟨x, no, rfl, hl, q⟩ := h
  have nd := scIsO.nd
  refine ⟨_, (pss_one (ps_ret (pe_or (pe_cmpR op_eq (pv 0) (pv 1) (nomark _)) (pe_one (pe_cal (CN.mono (by decide)) hr (by rfl) (pa_cons (pv 0) pa_nil)))))), ?_⟩
  have ed : decide (V.str x = V.str no) = decide (x = no) := decide_eq_decide.mpr ⟨V.str.inj, congrArg V.str⟩
  refine ⟨.str x, rfl, .str no, rfl, rfl, decide (V.str x = V.str no), rfl, ite2 (fun e => ?_) (fun e => ?_)⟩
  · rw [ed] at e
    have q := q H (Same.refl H)
    rw [e] at q
    exact q
  · rw [ed] at e
    refine ⟨.str x, rfl, x, rfl, hl, fun H' s' => ?_⟩
    have q := q H' s'
    rw [Bool.eq_false_iff.mpr e] at q
    exact q
theorem ok_nor {f : Addr} {fd : FuncData} (F : Fun K "number_or" "number_or" sNor f fd) (CB : Cal P w K mg base 1 "number_by" ["figures"] spBy) : FnOk P w K mg base CX0 2 f fd ["word", "none"] spNor := by
  refine F.ok scNor (fun vs H Q E ⟨w, no, e, _⟩ => by rw [e]; rfl) (fun cdv A outer s H vs Q E hr h => ?_)
  obtain ⟨x, no, rfl, hl, hg, q⟩ := h
  have nd := scNor.nd
  refine ⟨_, (pss_one (ps_ret (pe_ifExp (pt_cmpR op_eq (pv 0) (pv 1) (nomark _)) pe_non (pe_cal (CB.mono (by decide)) hr (by rfl) (pa_cons (pv 0) pa_nil))))), ?_⟩
  have ed : decide (V.str x = V.str no) = decide (x = no) := decide_eq_decide.mpr ⟨V.str.inj, congrArg V.str⟩
  refine ⟨.str x, rfl, .str no, rfl, rfl, decide (V.str x = V.str no), rfl, ite2 (fun e => ?_) (fun e => ?_)⟩
  · rw [ed] at e
    have q := q H (Same.refl H)
    unfold numV at q
    rw [if_pos (of_decide_eq_true e)] at q
    exact q
  · rw [ed] at e
    rw [Bool.eq_false_iff.mpr e] at hg
    refine ⟨.str x, rfl, x, rfl, hl, hg, fun H' s' => ?_⟩
    have q := q H' s'
    unfold numV at q
    rw [if_neg (fun z => e (decide_eq_true z))] at q
    exact q
theorem ok_by {f : Addr} {fd : FuncData} (F : Fun K "number_by" "number_by" sBy f fd) (T : Nm mg) (N4 : Nm4 mg) (N5 : Nm5 mg) : FnOk P w K mg base CX0 1 f fd ["figures"] spBy := by
  refine F.ok scBy (fun vs H Q E ⟨w, e, _⟩ => by rw [e]; rfl) (fun cdv A outer s H vs Q E hr h => ?_)
  obtain ⟨x, rfl, hl, hg, q⟩ := h
  obtain ⟨tpl, hpl⟩ := N4.partL
  obtain ⟨tpw, hpw⟩ := N4.partW
  have nd := scBy.nd
  refine ⟨_, (pss_cons (ps_set (i := 1) nd rfl (.inl rfl) (pe_op op_mod (pe_callB call_len_str (by rfl) T.len PySem.boot_len (pa_cons (pv 0) pa_nil)) (pe_glob (v := .int 50) (by rfl) hpl ⟨_, rfl⟩)))
      (pss_cons (ps_set (i := 2) nd rfl (.inl rfl) (pe_callTy call_int_str (by rfl) T.int (by decide +kernel) (pa_cons (pe_op op_add_str pe_str (pe_slice sl_str (pv 0) po_none (po_some (pv 1)))) pa_nil)))
      (pss_cons (ps_for PassesOwn.never rfl (pi_range3 (by rfl) N5.range (pa_cons (pv 1) (pa_cons (pe_callB call_len_str (by rfl) T.len PySem.boot_len (pa_cons (pv 0) pa_nil)) (pa_cons (pe_glob (v := .int 50) (by rfl) hpl ⟨_, rfl⟩) pa_nil)))) (pg_name (i := 3) nd rfl (.inl rfl)) (pss_one (ps_set (i := 2) nd rfl (.inl rfl) (pe_op op_add (pe_op op_mulW (pv 2) (pe_glob (v := .int FIFTY) (by rfl) hpw ⟨_, rfl⟩)) (pe_callTy call_int_str (by rfl) T.int (by decide +kernel) (pa_cons (pe_slice sl_str (pv 0) (po_some (pv 3)) (po_some (pe_op op_add (pv 3) (pe_glob (v := .int 50) (by rfl) hpl ⟨_, rfl⟩)))) pa_nil))))))
      (pss_one (ps_ret (pv 2)))))), ?_⟩
  obtain ⟨hd, hne⟩ := isNum_parts hg
  have hlen : x.length = (tl x).length := len_tl x
  -- the head, and so many parts
  obtain ⟨hh, n, e1, h50⟩ : ∃ hh n, x.length = hh + 50 * n ∧ hh < 50 := ⟨x.length % 50, x.length / 50, by omega, Nat.mod_lt _ (by decide)⟩
  have em : ((x.length : Int)) % 50 = (hh : Int) := by omega
  have cut_tl : ∀ (lo hi : Nat), lo ≤ hi → hi ≤ x.length → tl (cutS x (some (lo : Int)) (some (hi : Int))) = ((tl x).drop lo).take (hi - lo) := fun lo hi h1 h2 => by
    show ((x.cps.toList.drop (HT.sIx x.length 0 (some (lo : Int)))).take (HT.sIx x.length x.length (some (hi : Int)) - HT.sIx x.length 0 (some (lo : Int)))).toArray.toList = _
    rw [HT.sIx_nat, HT.sIx_nat, Nat.min_eq_left (Nat.le_trans h1 h2), Nat.min_eq_left h2]
  have cut0_tl : ∀ (hi : Nat), hi ≤ x.length → tl (cutS x none (some (hi : Int))) = (tl x).take hi := fun hi h2 => by
    show ((x.cps.toList.drop (HT.sIx x.length 0 none)).take (HT.sIx x.length x.length (some (hi : Int)) - HT.sIx x.length 0 none)).toArray.toList = _
    rw [HT.sIx_nat, Nat.min_eq_left h2]
    rfl
  refine ⟨.str x, rfl, x, rfl, str_size hl, (x.length : Int), 50, rfl, rfl, (by show (0 : Int) < 50; decide), ?_⟩
  show tSeq _ _ _ [some (.str x), some (.int (((x.length : Int)) % 50)), none, none] H
  rw [em]
  have hdt : NumText.AllDigits ((tl x).take hh) := fun c hc => hd c (List.mem_of_mem_take hc)
  have ltk : ((tl x).take hh).length = hh := by rw [List.length_take]; omega
  have t0 : tl (Str.ofString "0" ++ cutS x none (some (hh : Int))) = 48 :: (tl x).take hh := by rw [tl_append, zero_tl, cut0_tl hh (by omega)]; rfl
  have v0 : NumText.digitsVal (48 :: (tl x).take hh) = NumText.digitsVal ((tl x).take hh) := rfl
  have i0 : intText? (Str.ofString "0" ++ cutS x none (some (hh : Int))) = some ((NumText.digitsVal ((tl x).take hh) : Nat) : Int) := by
    have := intText_digits (x := Str.ofString "0" ++ cutS x none (some (hh : Int))) (by show NumText.AllDigits (tl _); rw [t0]; intro c hc; rcases List.mem_cons.mp hc with rfl | hc; exact ⟨by decide, by decide⟩; exact hdt c hc) (by show tl _ ≠ []; rw [t0]; exact nofun) (by rw [len_tl, t0, List.length_cons, ltk]; omega)
    rw [this]
    show some ((NumText.digitsVal (tl _) : Nat) : Int) = _
    rw [t0, v0]
  have l1 : (cutS x none (some (hh : Int))).length = hh := by rw [len_tl, cut0_tl hh (by omega), ltk]
  refine ⟨.str x, rfl, .int (hh : Int), rfl, (hh : Int), rfl, x, rfl, str_size hl, Str.ofString "0", cutS x none (some (hh : Int)), rfl, rfl, str_size (by rw [l1]; show 1 + hh ≤ 40000; omega), _, _, rfl, i0, (by rw [len_tl, t0, List.length_cons, ltk]; omega), ?_⟩
  dsimp only [gName]
  show tSeq _ _ _ [some (.str x), some (.int (hh : Int)), some (.int ((NumText.digitsVal ((tl x).take hh) : Nat) : Int)), none] H
  refine ⟨.int (hh : Int), rfl, .str x, rfl, x, rfl, str_size hl, (hh : Int), (x.length : Int), 50, n, rfl, by rw [e1]; exact rgC50 (by omega), ?_⟩
  refine for_rangeC (lo := (hh : Int)) (c := 50) (n := n) (fun i σ H' => H' = H ∧ ∃ y3, σ = [some (.str x), some (.int (hh : Int)), some (.int ((NumText.digitsVal ((tl x).take (hh + 50 * i)) : Nat) : Int)), y3]) ⟨rfl, none, rfl⟩ (fun i σ H' hi ⟨eH, y3, eσ⟩ => ?_) (fun σ H' ⟨eH, y3, eσ⟩ => ?_)
  · subst eH eσ
    have hi1 : hh + 50 * i + 50 ≤ x.length := by omega
    have hb : (((hh + 50 * i : Nat) : Int) + 50) = ((hh + 50 * i + 50 : Nat) : Int) := by omega
    have ha : ((hh : Int) + (i : Nat) * 50) = ((hh + 50 * i : Nat) : Int) := by omega
    dsimp only [gName]
    show tAsg _ _ _ [some (.str x), some (.int (hh : Int)), some (.int ((NumText.digitsVal ((tl x).take (hh + 50 * i)) : Nat) : Int)), some (.int ((hh : Int) + (i : Nat) * 50))] H'
    rw [ha]
    have hdi : NumText.AllDigits ((tl x).take (hh + 50 * i)) := fun c hc => hd c (List.mem_of_mem_take hc)
    have tc := cut_tl (hh + 50 * i) (hh + 50 * i + 50) (by omega) hi1
    rw [show hh + 50 * i + 50 - (hh + 50 * i) = 50 by omega] at tc
    have hdc : NumText.AllDigits (((tl x).drop (hh + 50 * i)).take 50) := fun c hc => hd c (List.mem_of_mem_drop (List.mem_of_mem_take hc))
    have lc : (((tl x).drop (hh + 50 * i)).take 50).length = 50 := by rw [List.length_take, List.length_drop]; omega
    have ic : intText? (cutS x (some ((hh + 50 * i : Nat) : Int)) (some ((hh + 50 * i + 50 : Nat) : Int))) = some ((NumText.digitsVal (((tl x).drop (hh + 50 * i)).take 50) : Nat) : Int) := by
      have := intText_digits (x := cutS x (some ((hh + 50 * i : Nat) : Int)) (some ((hh + 50 * i + 50 : Nat) : Int))) (by show NumText.AllDigits (tl _); rw [tc]; exact hdc) (by show tl _ ≠ []; rw [tc]; intro z; rw [z] at lc; cases lc) (by rw [len_tl, tc, lc]; decide)
      rw [this]
      show some ((NumText.digitsVal (tl _) : Nat) : Int) = _
      rw [tc]
    have lt : NumText.digitsVal ((tl x).take (hh + 50 * i)) < 10 ^ 40000 := by
      refine Nat.lt_of_lt_of_le (digits_lt _ hdi) (Nat.pow_le_pow_right (by decide) ?_)
      rw [List.length_take]
      omega
    have lt2 : NumText.digitsVal ((tl x).take (hh + 50 * i)) < 2 ^ 160000 := Nat.lt_of_lt_of_le lt (by
      have : (10 : Nat) ^ 40000 ≤ (2 ^ 4) ^ 40000 := Nat.pow_le_pow_left (by decide) _
      rw [← Nat.pow_mul] at this
      exact this)
    refine ⟨_, rfl, _, FIFTY, rfl, rfl, wide_mul (a := 160000) (b := 200) (by rw [Int.natAbs_natCast]; exact lt2) (by decide +kernel) (by decide) (by decide) (by decide), .str x, rfl, .int ((hh + 50 * i : Nat) : Int), rfl, _, rfl, .int ((hh + 50 * i : Nat) : Int), rfl, _, 50, rfl, rfl, _, rfl, x, rfl, str_size hl, _, ((NumText.digitsVal (((tl x).drop (hh + 50 * i)).take 50) : Nat) : Int), rfl, (by rw [hb]; exact ic), (by rw [hb, len_tl, tc, lc]; decide), _, _, rfl, rfl, rfl, some (.int ((hh + 50 * i : Nat) : Int)), ?_⟩
    have ev : ((NumText.digitsVal ((tl x).take (hh + 50 * i)) : Nat) : Int) * FIFTY + ((NumText.digitsVal (((tl x).drop (hh + 50 * i)).take 50) : Nat) : Int) = ((NumText.digitsVal ((tl x).take (hh + 50 * (i + 1))) : Nat) : Int) := by
      have et : (tl x).take (hh + 50 * (i + 1)) = (tl x).take (hh + 50 * i) ++ ((tl x).drop (hh + 50 * i)).take 50 := by
        rw [show hh + 50 * (i + 1) = (hh + 50 * i) + 50 by omega]
        exact List.take_add ..
      have e50 : (((10 ^ 50 : Nat)) : Int) = FIFTY := by decide +kernel
      rw [et, digits_app, lc, Int.natCast_add, Int.natCast_mul, e50]
    show [some (V.str x), some (V.int (hh : Int)), some (V.int _), some (V.int _)] = _
    rw [← ev]
  · subst eH eσ
    rw [show hh + 50 * n = (tl x).length by omega, List.take_length]
    exact ⟨_, rfl, q _ (Same.refl _)⟩
end
end CL
set_option Elab.async false
set_option linter.all false
set_option pp.maxSteps 700
set_option maxRecDepth 100000
set_option maxHeartbeats 4000000
namespace CL
open PySem PySem.Spec PyProof.Rows L2 GE TL
abbrev sForm : Stmt := topS 46
abbrev sRead : Stmt := topS 47
abbrev nForm : List Str := ["words"]
abbrev nRead : List Str := ["text", "plan", "sign", "piece", "words", "turns", "word"]
theorem scForm : FnScope nForm ["words"] (defScope sForm) := ⟨rfl, rfl, rfl, by decide +kernel, rfl, by decide +kernel, by decide +kernel⟩
theorem scRead : FnScope nRead ["text"] (defScope sRead) := ⟨rfl, rfl, rfl, by decide +kernel, rfl, by decide +kernel, by decide +kernel⟩
structure Nm6 (mg : Str → Option Value) : Prop where
  enum : mg "enumerate" = none
theorem size20 {n : Nat} (h : n ≤ 40001) : n < sizeLine := Nat.lt_of_le_of_lt h (by rw [sizeLine_eq]; decide)
/-! ### what a text tells -/
def okW (no w : Str) : Bool := decide (w = no) || isNumS w
def formS (ws : List Str) : Bool := decide (3 ≤ ws.length) && decide (ws[ws.length - 2]? = some (Str.ofString "x")) && (ws[ws.length - 1]?.any (okW "ever")) && (ws.take (ws.length - 2)).all (okW "never")
def numD (no w : Str) : PyData := if w = no then .none else .int ((NumText.digitsVal (tl w) : Nat) : Int)
def valD : PyData → V
  | .int i => .int i
  | _ => .non
theorem num_val (no w : Str) : numV no w = valD (numD no w) := by
  unfold numV numD
  split <;> rfl
def rowS (ws : List Str) : RowT := ((ws.take (ws.length - 2)).map (numD "never"), numD "ever" (ws.getD (ws.length - 1) Str.empty))
def rowsS (t : Str) : List RowT := (Txt.split t ", ").map fun p => rowS (Txt.split p " ")
/-- how far a text goes that is read here -/
structure Fits (t : Str) : Prop where
  len : t.length ≤ 40000
  many : (Txt.split t ", ").length ≤ 40001
  piece : ∀ p ∈ Txt.split t ", ", p.length ≤ 40000 ∧ (Txt.split p " ").length ≤ 40001 ∧ ∀ w ∈ Txt.split p " ", w.length ≤ 40000
/-- a plan that was told: all its lists are new, each its own -/
structure Told (H0 H : Hp) (p : Addr) (bs ts : List Addr) (L : List RowT) : Prop where
  p0 : H0 p = none
  e : H p = some (.lst (bs.map V.ref))
  lb : bs.length = L.length
  lt : ts.length = L.length
  row : ∀ (i : Nat) (b t : Addr) (x : RowT), bs[i]? = some b → ts[i]? = some t → L[i]? = some x → H b = some (.tup [.ref t, valD x.2]) ∧ H t = some (.lst (x.1.map valD))
  b0 : ∀ b ∈ bs, H0 b = none
  t0 : ∀ t ∈ ts, H0 t = none
  nd : ts.Nodup
  tp : ∀ t ∈ ts, t ≠ p
theorem Told.ex {H0 H H' : Hp} {p : Addr} {bs ts : List Addr} {L : List RowT} (T : Told H0 H p bs ts L) (x : Ex H H') : Told H0 H' p bs ts L :=
  ⟨T.p0, x.lst T.e, T.lb, T.lt, fun i b t y h1 h2 h3 => ⟨x.tup (T.row i b t y h1 h2 h3).1, x.lst (T.row i b t y h1 h2 h3).2⟩, T.b0, T.t0, T.nd, T.tp⟩
theorem Told.push {H0 H : Hp} {p b t : Addr} {bs ts : List Addr} {L : List RowT} {x : RowT} (T : Told H0 H p bs ts L) (eb : H b = some (.tup [.ref t, valD x.2])) (et : H t = some (.lst (x.1.map valD))) (b0 : H0 b = none) (t0 : H0 t = none) (nt : t ∉ ts) (tp : t ≠ p) :
    Told H0 (upd H p (.lst (bs.map V.ref ++ [.ref b]))) p (bs ++ [b]) (ts ++ [t]) (L ++ [x]) := by
  have keepT : ∀ c o, c ≠ p → H c = some o → (upd H p (.lst (bs.map V.ref ++ [.ref b]))) c = some o := fun c o ne e => by rw [upd_ne ne]; exact e
  have bp : ∀ c ys, H c = some (.tup ys) → c ≠ p := fun c ys e z => by rw [z, T.e] at e; cases e
  refine ⟨T.p0, by rw [upd_same, List.map_append]; rfl, by rw [List.length_append, List.length_append, T.lb]; rfl, by rw [List.length_append, List.length_append, T.lt]; rfl, fun i c u y h1 h2 h3 => ?_, fun c hc => ?_, fun c hc => ?_, ?_, fun c hc => ?_⟩
  · by_cases hi : i < L.length
    · rw [List.getElem?_append_left (by rw [T.lb]; exact hi)] at h1
      rw [List.getElem?_append_left (by rw [T.lt]; exact hi)] at h2
      rw [List.getElem?_append_left hi] at h3
      obtain ⟨r1, r2⟩ := T.row i c u y h1 h2 h3
      refine ⟨keepT c _ (bp c _ r1) r1, ?_⟩
      exact keepT u _ (T.tp u (List.mem_of_getElem? h2)) r2
    · have h3l := (List.getElem?_eq_some_iff.mp h3).1
      rw [List.length_append, List.length_singleton] at h3l
      obtain rfl : i = L.length := by omega
      rw [List.getElem?_append_right (by rw [T.lb]; exact Nat.le_refl _), T.lb, Nat.sub_self] at h1
      rw [List.getElem?_append_right (by rw [T.lt]; exact Nat.le_refl _), T.lt, Nat.sub_self] at h2
      rw [List.getElem?_append_right (Nat.le_refl _), Nat.sub_self] at h3
      cases h1
      cases h2
      cases h3
      exact ⟨keepT _ _ (bp _ _ eb) eb, keepT _ _ tp et⟩
  · rcases List.mem_append.mp hc with hc | hc
    · exact T.b0 c hc
    · rw [List.mem_singleton.mp hc]; exact b0
  · rcases List.mem_append.mp hc with hc | hc
    · exact T.t0 c hc
    · rw [List.mem_singleton.mp hc]; exact t0
  · rw [List.nodup_append]
    exact ⟨T.nd, by simp, fun a ha b hb z => by rw [List.mem_singleton.mp hb] at z; exact nt (z ▸ ha)⟩
  · rcases List.mem_append.mp hc with hc | hc
    · exact T.tp c hc
    · rw [List.mem_singleton.mp hc]; exact tp
/-- None or a number -/
def Plain (d : PyData) : Prop := d = .none ∨ ∃ i, d = .int i
theorem Plain.rp {H : Hp} {d : PyData} (h : Plain d) : Rp H (valD d) d := by
  rcases h with rfl | ⟨i, rfl⟩
  · exact .non
  · exact .int i
theorem plain_rps {H : Hp} : ∀ {ds : List PyData}, (∀ d ∈ ds, Plain d) → RpAll H (ds.map valD) ds
  | [], _ => .nil
  | d :: ds, h => .cons (h d List.mem_cons_self).rp (plain_rps fun e he => h e (List.mem_cons_of_mem _ he))
theorem num_plain (no w : Str) : Plain (numD no w) := by
  unfold numD
  split
  · exact .inl rfl
  · exact .inr ⟨_, rfl⟩
def PlainR (x : RowT) : Prop := (∀ d ∈ x.1, Plain d) ∧ Plain x.2
theorem rowS_plain (ws : List Str) : PlainR (rowS ws) := ⟨fun d hd => by
  obtain ⟨w, _, rfl⟩ := List.mem_map.mp hd
  exact num_plain _ _, num_plain _ _⟩
theorem Told.rp {H0 H : Hp} {p : Addr} {bs ts : List Addr} {L : List RowT} (T : Told H0 H p bs ts L) (hp : ∀ x ∈ L, PlainR x) : Rp H (.ref p) (planD L) := by
  refine .lst T.e ?_
  have gen : ∀ (n : Nat), n ≤ L.length → RpAll H ((bs.take n).map V.ref) ((L.take n).map rowD) := by
    intro n
    induction n with
    | zero => intro _; exact .nil
    | succ n ih =>
      intro hn
      obtain ⟨b, hb⟩ : ∃ b, bs[n]? = some b := ⟨_, List.getElem?_eq_getElem (by rw [T.lb]; omega)⟩
      obtain ⟨t, ht⟩ : ∃ t, ts[n]? = some t := ⟨_, List.getElem?_eq_getElem (by rw [T.lt]; omega)⟩
      obtain ⟨x, hx⟩ : ∃ x, L[n]? = some x := ⟨_, List.getElem?_eq_getElem (by omega)⟩
      obtain ⟨r1, r2⟩ := T.row n b t x hb ht hx
      have hpx := hp x (List.mem_of_getElem? hx)
      rw [List.take_add_one, hb, List.map_append, List.take_add_one, hx, List.map_append]
      exact (ih (by omega)).append (.cons (.tup r1 (.cons (.lst r2 (plain_rps hpx.1)) (.cons hpx.2.rp .nil))) .nil)
  have := gen L.length (Nat.le_refl _)
  rw [List.take_length, ← T.lb, List.take_length] at this
  exact this
theorem form_parts {ws : List Str} (h : formS ws = true) : 3 ≤ ws.length ∧ (∀ w ∈ ws.take (ws.length - 2), okW "never" w = true) ∧ okW "ever" (ws.getD (ws.length - 1) Str.empty) = true := by
  unfold formS at h
  simp only [Bool.and_eq_true, decide_eq_true_eq, List.all_eq_true] at h
  refine ⟨h.1.1.1, h.2, ?_⟩
  have h2 := h.1.2
  rw [List.getD_eq_getElem?_getD]
  cases e : ws[ws.length - 1]? with
  | none => rw [e] at h2; cases h2
  | some w => rw [e] at h2; exact h2
theorem ex_updN {H H1 : Hp} {b : Addr} {o : HO} (e : Ex H H1) (n : H b = none) : Ex H (upd H1 b o) := fun c o' h => by
  have ne : c ≠ b := fun z => by rw [z, n] at h; cases h
  rw [upd_ne ne]
  exact e c o' h
def spForm (P3 : Addr) : Sp := fun vs H Q _ => ∃ (a : Addr) (ws : List Str), vs = [.ref a] ∧ H a = some (.lst (ws.map V.str)) ∧ ws.length ≤ 40001 ∧ (∀ w ∈ ws, w.length ≤ 40000) ∧ GxR.TabG H P3 ∧ ∀ H', Ex H H' → Q (.bl (formS ws)) H'
def spRead (P1 P2 P3 : Addr) : Sp := fun vs H Q _ => ∃ t : Str, vs = [.str t] ∧ Fits t ∧ (∀ p ∈ Txt.split t ", ", formS (Txt.split p " ") = true) ∧ isPlan (planD (rowsS t)) = true ∧ Tb P1 P2 H ∧ GxR.TabG H P3 ∧
  ∀ p bs ts H', Ex H H' → Told H H' p bs ts (rowsS t) → Q (.ref p) H'
theorem cut_end (xs : List V) (h : 2 ≤ xs.length) : cutV xs none (some (-2)) = xs.take (xs.length - 2) := by
  unfold cutV
  have e0 : HT.sIx xs.length 0 none = 0 := rfl
  have e1 : HT.sIx xs.length xs.length (some (-2)) = xs.length - 2 := by
    show (if (-2 : Int) < 0 then ((-2 : Int) + (xs.length : Int)).toNat else min (-2 : Int).toNat xs.length) = _
    rw [if_pos (by decide)]
    omega
  rw [e0, e1, List.drop_zero, Nat.sub_zero]
section
variable {P : Program} {w : World} {K : PySem.W.Frag} {mg : Str → Option Value} {base : Heap}
theorem ok_form {f c P3 : Addr} {fd : FuncData} (F : FunC K "has_form" "has_form" sForm f fd c) (T : Nm mg) (N4 : Nm4 mg) (TB : GxR.TabB base mg c P3) (CI : Cal P w K mg base 2 "is_number_or" ["word", "none"] spIsO) : FnOk P w K mg base CX0 4 f fd ["words"] (spForm P3) := by
  refine F.ok scForm (fun vs H Q E ⟨a, ws, e, _⟩ => by rw [e]; rfl) (fun A outer s H vs Q E hr h => ?_)
  obtain ⟨a, ws, rfl, hA, hl, hw, hT, q⟩ := h
  obtain ⟨tn, hnv⟩ := N4.never
  obtain ⟨te, hev⟩ := N4.ever
  refine ⟨_, (pss_cons (ps_if (PW.pt (pw_or (pt_cmpR op_lt (pe_callB call_len_seq (by rfl) T.len PySem.boot_len (pa_cons (pv 0) pa_nil)) pe_int (nomark _)) (pw_or (pt_cmpR op_ne (pe_ix ix_list (pv 0) (pe_un un_neg pe_int) (fun _ _ => rfl)) pe_str (nomark _)) (pw_or1 (pt_not (pt_val (pe_cal (CI.mono (by decide)) hr (by rfl) (pa_cons (pe_ix ix_list (pv 0) (pe_un un_neg pe_int) (fun _ _ => rfl)) (pa_cons (pe_glob (v := .str "ever") (by rfl) hev ⟨_, rfl⟩) pa_nil))))))))) (pss_one (ps_ret pe_bl)) pss_nil)
      (pss_one (ps_ret (pe_allG (N := ["word"]) hr (by rfl) T.all TB rfl (by exact ⟨rfl, rfl, by decide +kernel, rfl⟩) (pi_seq (pe_slice sl_list (pv 0) po_none (po_some (pe_un un_neg pe_int))))
      (fun A s H C code fp pn rY => pg_name (i := 0) nd1 rfl (.inl rfl) (.inr rfl)) (fun A s H C code fp pn rY => pts_nil)
      (fun A s H C code fp pn rY => pe_cal CI rY (by rfl) (pa_cons (pv 0) (pa_cons (pe_glob (v := .str "never") (by rfl) hnv ⟨_, rfl⟩) pa_nil))))))), ?_⟩
  have lm : (ws.map V.str).length = ws.length := List.length_map ..
  have q0 : ∀ b, formS ws = b → ∀ H', Ex H H' → Q (.bl b) H' := fun b e H' x => by rw [← e]; exact q H' x
  refine ⟨.ref a, rfl, a, _, rfl, .inl (SqL.of hA), _, 3, rfl, rfl, _, rfl, ite2 (fun e => ?_) (fun e => ?_)⟩
  · have e := of_decide_eq_true e
    exact q0 false (by unfold formS; rw [decide_eq_false (by omega)]; rfl) H (Ex.refl H)
  · have h3 : 3 ≤ ws.length := by
      have : ¬ (((ws.map V.str).length : Int) < 3) := fun z => e (decide_eq_true z)
      omega
    obtain ⟨pre, x, m, rfl⟩ : ∃ pre x m, ws = pre ++ [x, m] := by
      refine ⟨ws.take (ws.length - 2), ws[ws.length - 2], ws[ws.length - 1], ?_⟩
      have : ws.drop (ws.length - 2) = [ws[ws.length - 2], ws[ws.length - 1]] := by
        rw [List.drop_eq_getElem_cons (by omega), List.drop_eq_getElem_cons (by omega), List.drop_eq_nil_of_le (by omega)]
        congr 3
        omega
      rw [← this, List.take_append_drop]
    have lw : (pre ++ [x, m]).length = pre.length + 2 := by rw [List.length_append]; rfl
    have fv : formS (pre ++ [x, m]) = (decide (x = Str.ofString "x") && okW "ever" m && pre.all (okW "never")) := by
      unfold formS
      rw [decide_eq_true h3, lw, Nat.add_sub_cancel, List.take_left, List.getElem?_append_right (Nat.le_refl _), Nat.sub_self, List.getElem?_append_right (by omega), show pre.length + 2 - 1 - pre.length = 1 by omega]
      show (true && decide (some x = some (Str.ofString "x")) && (some m).any (okW "ever") && _) = _
      rw [Bool.true_and, show decide (some x = some (Str.ofString "x")) = decide (x = Str.ofString "x") from decide_eq_decide.mpr ⟨Option.some.inj, congrArg some⟩]
      rfl
    have em : (pre ++ [x, m]).map V.str = pre.map V.str ++ [V.str x, V.str m] := List.map_append ..
    rw [em] at hA
    have at2 : atI (pre.map V.str ++ [V.str x, V.str m]) (-2) = some (V.str x) := by
      have hl2 : (pre.map V.str ++ [V.str x, V.str m]).length = pre.length + 2 := by rw [List.length_append, List.length_map]; rfl
      have e : ixN (pre.map V.str ++ [V.str x, V.str m]).length (-2) = some pre.length := by
        unfold ixN
        rw [hl2, if_neg (by decide), if_pos (by omega)]
        congr 1
        omega
      unfold atI
      rw [e]
      show (pre.map V.str ++ [V.str x, V.str m])[pre.length]? = _
      rw [List.getElem?_append_right (by rw [List.length_map]; exact Nat.le_refl _), List.length_map, Nat.sub_self]
      rfl
    have at1 : atI (pre.map V.str ++ [V.str x, V.str m]) (-1) = some (V.str m) := by
      have := atI_last (pre.map V.str ++ [V.str x]) (V.str m)
      rw [List.append_assoc] at this
      exact this
    have ed : decide (V.str x = V.str (Str.ofString "x")) = decide (x = Str.ofString "x") := decide_eq_decide.mpr ⟨V.str.inj, congrArg V.str⟩
    refine ⟨.ref a, rfl, 2, rfl, a, _, -2, .str x, rfl, rfl, SqL.of hA, at2, rfl, _, rfl, ?_⟩
    rw [ed]
    refine ite2 (fun e2 => ?_) (fun e2 => ?_)
    · exact q0 false (by rw [fv, show decide (x = Str.ofString "x") = false by simpa using e2]; rfl) H (Ex.refl H)
    · have e2 : decide (x = Str.ofString "x") = true := by simpa using e2
      refine ⟨.ref a, rfl, 1, rfl, a, _, -1, .str m, rfl, rfl, SqL.of hA, at1, m, "ever", rfl, hw m (by simp), fun H1 s1 => ⟨_, rfl, ?_⟩⟩
      cases ek : okW "ever" m with
      | false =>
        rw [show (decide (m = Str.ofString "ever") || isNumS m) = false from ek]
        exact iteT (q0 false (by rw [fv, ek, Bool.and_false, Bool.false_and]) H1 (Ex.of s1))
      | true =>
        rw [show (decide (m = Str.ofString "ever") || isNumS m) = true from ek]
        refine iteF ?_
        have fv2 : formS (pre ++ [x, m]) = pre.all (okW "never") := by rw [fv, e2, ek]; rfl
        have hA1 := s1 _ _ hA
        have hT1 := tabG_same s1 hT
        refine ⟨.ref a, rfl, 2, rfl, -2, rfl, a, _, rfl, SqL.of hA1, fun D nD => ?_⟩
        have ecut : cutV (pre.map V.str ++ [V.str x, V.str m]) none (some (-2)) = pre.map V.str := by
          rw [cut_end _ (by rw [List.length_append]; show 2 ≤ _ + 2; omega), List.length_append]
          show (pre.map V.str ++ _).take (_ + 2 - 2) = _
          rw [Nat.add_sub_cancel, List.take_left]
        rw [ecut]
        have x2 : Ex H1 (upd H1 D (.lst (pre.map V.str))) := Ex.of (same_upd nD)
        have eD : (upd H1 D (.lst (pre.map V.str))) D = some (.lst (pre.map V.str)) := upd_same
        have hT2 := tabG_same (same_upd (o := .lst (pre.map V.str)) nD) hT1
        generalize upd H1 D (.lst (pre.map V.str)) = H2 at x2 eD hT2 ⊢
        have x02 := (Ex.of s1).trans x2
        refine ⟨D, _, rfl, ⟨.inl eD⟩, fun J hJ => ⟨hT2, fun H3 tb => ⟨_, ⟨(pre.map V.str).length, rfl, Nat.zero_le _, ex_tabbed hT2 tb, rfl⟩, turn_by (xs := pre.map V.str) (fun _ i H => Ex H2 H ∧ (pre.take i).all (okW "never") = true)
          (fun _ i H ⟨eH, _⟩ => hJ H eH) (fun _ i z H3 hz ⟨eH, aH⟩ => ?_) (fun _ H3 ⟨eH, aH⟩ => ?_)⟩⟩⟩
        · rw [List.getElem?_map] at hz
          obtain ⟨y, hy, rfl⟩ := Option.map_eq_some_iff.mp hz
          refine name_yes ?_
          refine ⟨.str y, rfl, y, "never", rfl, hw y (List.mem_append_left _ (List.mem_of_getElem? hy)), fun H4 s4 => ⟨_, rfl, ite2 (fun e4 => ?_) (fun e4 => ?_)⟩⟩
          · exact ⟨eH.trans (Ex.of s4), by rw [List.take_add_one, hy, List.all_append, aH]; show (true && (okW "never" y && true)) = true; rw [show okW "never" y = true from e4]; rfl⟩
          · refine q0 false ?_ H4 (x02.trans (eH.trans (Ex.of s4)))
            rw [fv2]
            cases ea : pre.all (okW "never") with
            | false => rfl
            | true => exact absurd (List.all_eq_true.mp ea y (List.mem_of_getElem? hy)) e4
        · rw [List.length_map, List.take_length] at aH
          exact q0 true (by rw [fv2, aH]) H3 (x02.trans eH)
theorem ok_read {f P1 P2 P3 : Addr} {fd : FuncData} (F : Fun K "read_plan" "read_plan" sRead f fd) (T : Nm mg) (N4 : Nm4 mg) (N6 : Nm6 mg) (CF : Cal P w K mg base 4 "has_form" ["words"] (spForm P3)) (CO : Cal P w K mg base 2 "number_or" ["word", "none"] spNor) (CC : Cal P w K mg base 8 "check_plan" ["thing"] (spChk P1 P2)) :
    FnOk P w K mg base CX0 9 f fd ["text"] (spRead P1 P2 P3) := by
  refine F.ok scRead (fun vs H Q E ⟨t, e, _⟩ => by rw [e]; rfl) (fun cdv A outer s H vs Q E hr h => ?_)
  obtain ⟨t, rfl, hF, hform, hplan, hT, hT3, q⟩ := h
  obtain ⟨tn, hnv⟩ := N4.never
  obtain ⟨te, hev⟩ := N4.ever
  have nd := scRead.nd
  refine ⟨_, (pss_cons (ps_if (pt_not (pt_val (pe_callB call_isi (by rfl) T.isi (by decide +kernel) (pa_cons (pv 0) (pa_cons (pe_bltn (v := .ty "str") (by rfl) N4.str PyProof.Rows.boot_str rfl) pa_nil))))) (pss_one ps_never) pss_nil)
      (pss_cons (ps_set (i := 1) nd rfl (.inl rfl) (pe_lst pa_nil))
      (pss_cons (ps_for PassesOwn.never rfl (pi_enum (by rfl) N6.enum (pa_cons (pe_split (pv 0) pe_str) pa_nil)) (pg_tup rfl (pgs_cons (pg_name (i := 2) nd rfl (.inl rfl)) (pgs_cons (pg_name (i := 3) nd rfl (.inl rfl)) pgs_nil))) (pss_cons (ps_set (i := 4) nd rfl (.inl rfl) (pe_split (pv 3) pe_str))
      (pss_cons (ps_if (pt_not (pt_val (pe_cal (CF.mono (by decide)) hr (by rfl) (pa_cons (pv 4) pa_nil)))) (pss_one ps_never) pss_nil)
      (pss_cons (ps_setLc (i := 5) (own := [("word", 6)]) (g := (gName 6)) (tt := tYes) rfl nd rfl rfl (sw_true rfl rfl rfl (by decide +kernel)) (pi_list (pe_slice sl_list (pv 4) po_none (po_some (pe_un un_neg pe_int)))) (blkOk_by (own := [("word", 6)]) (N := nRead) (sc := (defScope sRead)) (by decide +kernel)) (fun _ _ _ _ _ => (pg_name (i := 6) nd rfl (.inl rfl))) (fun _ _ _ _ _ => pts_nil) (fun _ _ _ _ _ => (pe_cal (CO.mono (by decide)) hr (by rfl) (pa_cons (pv 6) (pa_cons (pe_glob (v := .str "never") (by rfl) hnv ⟨_, rfl⟩) pa_nil)))))
      (pss_one (ps_expr (pe_bm PySem.F.plainAttrs_list PySem.F.slot_list_append PySem.F.type_list_append mt_append (pv 1) (pa_cons (pe_tup (pa_cons (pv 5) (pa_cons (pe_cal (CO.mono (by decide)) hr (by rfl) (pa_cons (pe_ix ix_list (pv 4) (pe_un un_neg pe_int) (fun _ _ => rfl)) (pa_cons (pe_glob (v := .str "ever") (by rfl) hev ⟨_, rfl⟩) pa_nil))) pa_nil))) pa_nil))))))))
      (pss_cons (ps_expr (pe_cal (CC.mono (by decide)) hr (by rfl) (pa_cons (pv 1) pa_nil)))
      (pss_one (ps_ret (pv 1))))))), ?_⟩
  refine ⟨.str t, rfl, .str t, .ty "str", _, _, true, rfl, .ty _, .base (.str t), kit_ty (by decide +kernel), true, rfl, iteF ?_⟩
  dsimp only [tNext]
  show tSeq _ _ _ [some (.str t), none, none, none, none, none, none] H
  refine ⟨Nat.zero_le _, fun D nD => ?_⟩
  have T1 : Told H (upd H D (.lst [])) D [] [] [] := ⟨nD, upd_same, rfl, rfl, fun i b t x h => by simp at h, fun b hb => (nomatch hb), fun b hb => (nomatch hb), List.nodup_nil, fun b hb => (nomatch hb)⟩
  have x1 : Ex H (upd H D (.lst [])) := Ex.of (same_upd nD)
  generalize upd H D (.lst []) = H1 at T1 x1 ⊢
  dsimp only [gName]
  show tSeq _ _ _ [some (.str t), some (.ref D), none, none, none, none, none] H1
  refine ⟨.str t, rfl, ⟨t, rfl⟩, t, ", ", rfl, rfl, rfl, Nat.le_trans (Nat.add_le_add_right hF.len 2) (by rw [sizeLine_eq]; decide), fun p np => ?_⟩
  have pD : p ≠ D := fun z => by rw [z, T1.e] at np; cases np
  have x2a : Ex H1 (upd H1 p (.lst ((Txt.split t ", ").map V.str))) := Ex.of (same_upd np)
  have ep : (upd H1 p (.lst ((Txt.split t ", ").map V.str))) p = some (.lst ((Txt.split t ", ").map V.str)) := upd_same
  have T2 := T1.ex x2a
  have x2 := x1.trans x2a
  clear x2a
  generalize upd H1 p (.lst ((Txt.split t ", ").map V.str)) = H2 at x2 ep T2 ⊢
  unfold rowsS at q hplan
  have hmany := hF.many
  have hpiece := hF.piece
  generalize Txt.split t ", " = pcs at *
  have lm : (pcs.map V.str).length = pcs.length := List.length_map ..
  refine ⟨p, _, rfl, SqL.of ep, for_it (walk_enum (xs := pcs.map V.str)) (fun i σ H3 => ∃ y2 y3 y4 y5 bs ts, σ = [some (.str t), some (.ref D), y2, y3, y4, y5, none] ∧ Told H H3 D bs ts ((pcs.take i).map fun p => rowS (Txt.split p " ")) ∧ Ex H H3 ∧ H3 p = some (.lst (pcs.map V.str)))
    ⟨none, none, none, none, [], [], rfl, T2, x2, ep⟩ (fun i σ H3 _ hP => by obtain ⟨_, _, _, _, _, _, _, _, _, e⟩ := hP; exact SqL.of e) (fun i x σ H3 H4 hi hP hY => ?_) (fun σ H3 hP => ?_)⟩
  · obtain ⟨y2, y3, y4, y5, bs, ts, rfl, T3, x3, ep3⟩ := hP
    obtain ⟨Tt, xi, xc, rfl, nT, rfl, hxi, hxc⟩ := hY
    cases hxi
    have hxc : (pcs.map V.str)[i]? = some xc := hxc
    rw [List.getElem?_map] at hxc
    obtain ⟨pc, hpc, rfl⟩ := Option.map_eq_some_iff.mp hxc
    have hmem := List.mem_of_getElem? hpc
    obtain ⟨hl, hwn, hww⟩ := hpiece pc hmem
    have hfm := hform pc hmem
    obtain ⟨h3, hnev, hev2⟩ := form_parts hfm
    have x34 : Ex H3 (upd H3 Tt (.tup [.int (i : Nat), .str pc])) := Ex.of (same_upd nT)
    have e4 : (upd H3 Tt (.tup [.int (i : Nat), .str pc])) Tt = some (.tup [.int (i : Nat), .str pc]) := upd_same
    have T4 := T3.ex x34
    have x4 := x3.trans x34
    have ep4 := x34.lst ep3
    generalize upd H3 Tt (.tup [.int (i : Nat), .str pc]) = H4 at x34 e4 T4 x4 ep4 ⊢
    clear T3 x3 ep3 x34
    refine ⟨Tt, _, rfl, SqT.of e4, rfl, .int (i : Nat), _, rfl, .str pc, _, rfl, rfl, ?_⟩
    show tSeq _ _ _ [some (.str t), some (.ref D), some (.int (i : Nat)), some (.str pc), y4, y5, none] H4
    refine ⟨.str pc, rfl, ⟨pc, rfl⟩, pc, " ", rfl, rfl, rfl, Nat.le_trans (Nat.add_le_add_right hl 2) (by rw [sizeLine_eq]; decide), fun Wd nW => ?_⟩
    generalize hws : Txt.split pc " " = ws at hfm h3 hnev hev2 hwn hww
    have x45 : Ex H4 (upd H4 Wd (.lst (ws.map V.str))) := Ex.of (same_upd nW)
    have eW : (upd H4 Wd (.lst (ws.map V.str))) Wd = some (.lst (ws.map V.str)) := upd_same
    have T5 := T4.ex x45
    have x5 := x4.trans x45
    have ep5 := x45.lst ep4
    generalize upd H4 Wd (.lst (ws.map V.str)) = H5 at x45 eW T5 x5 ep5 ⊢
    clear T4 x4 ep4 x45
    dsimp only [gName]
    show tSeq _ _ _ [some (.str t), some (.ref D), some (.int (i : Nat)), some (.str pc), some (.ref Wd), y5, none] H5
    refine ⟨.ref Wd, rfl, Wd, ws, rfl, eW, hwn, hww, tabG_ex hT3 x5, fun H6 x6 => ⟨formS ws, rfl, ?_⟩⟩
    rw [hfm]
    refine iteF ?_
    have T6 := T5.ex x6
    have eW6 := x6.lst eW
    have ep6 := x6.lst ep5
    have x6 := x5.trans x6
    clear T5 x5 ep5 eW
    dsimp only [tNext]
    show tSeq _ _ _ [some (.str t), some (.ref D), some (.int (i : Nat)), some (.str pc), some (.ref Wd), y5, none] H6
    refine ⟨.ref Wd, rfl, 2, rfl, -2, rfl, Wd, _, rfl, SqL.of eW6, fun S nS => ?_⟩
    have lw : (ws.map V.str).length = ws.length := List.length_map ..
    rw [cut_end _ (by rw [lw]; omega), lw, ← List.map_take]
    have x67 : Ex H6 (upd H6 S (.lst ((ws.take (ws.length - 2)).map V.str))) := Ex.of (same_upd nS)
    have eS : (upd H6 S (.lst ((ws.take (ws.length - 2)).map V.str))) S = some (.lst ((ws.take (ws.length - 2)).map V.str)) := upd_same
    have T7 := T6.ex x67
    have eW7 := x67.lst eW6
    have ep7 := x67.lst ep6
    have x7 := x6.trans x67
    generalize upd H6 S (.lst ((ws.take (ws.length - 2)).map V.str)) = H7 at x67 eS T7 eW7 ep7 x7 ⊢
    clear T6 eW6 ep6 x6 x67
    refine ⟨S, rfl, ⟨_, SqL.of eS⟩, fun U nU => ?_⟩
    have lpre : (ws.take (ws.length - 2)).length ≤ 40001 := by rw [List.length_take]; omega
    have hwp : ∀ w ∈ ws.take (ws.length - 2), w.length ≤ 40000 := fun w hw => hww w (List.mem_of_mem_take hw)
    generalize hpre : ws.take (ws.length - 2) = pre at eS hnev lpre hwp ⊢
    refine lc_list (K := K) (a := S) (xs := pre.map V.str) (fun k H8 => Same H7 H8 ∧ H8 U = some (.lst ((pre.take k).map fun w => valD (numD "never" w)))) ⟨same_upd nU, upd_same⟩ (fun k H8 _ ⟨s8, _⟩ => SqL.of (s8 _ _ eS)) (fun k x H8 hx ⟨s8, eU⟩ => ?_) (fun H8 ⟨s8, eU⟩ => ?_)
    · rw [List.getElem?_map] at hx
      obtain ⟨w, hw, rfl⟩ := Option.map_eq_some_iff.mp hx
      have hwm := List.mem_of_getElem? hw
      have hk : k < pre.length := (List.getElem?_eq_some_iff.mp hw).1
      refine ⟨rfl, yesT ⟨.str w, rfl, w, "never", rfl, hwp w hwm, hnev w hwm, fun H9 s9 => ⟨_, s9 _ _ eU, size20 (by rw [List.length_map, List.length_take]; omega), same_updN (s8.trans s9) nU, ?_⟩⟩⟩
      rw [upd_same, List.take_add_one, hw, List.map_append, num_val]
      rfl
    · rw [List.length_map, List.take_length] at eU
      have T8 := T7.ex (Ex.of s8)
      have eW8 := s8 _ _ eW7
      have ep8 := s8 _ _ ep7
      have x8 := x7.trans (Ex.of s8)
      have U0 : H U = none := by cases z : H U with
        | none => rfl
        | some o =>
          have := x7.free nU
          rw [z] at this
          cases this
      have Uts : U ∉ ts := fun z => by
        obtain ⟨j, hj⟩ := List.getElem?_of_mem z
        have jl := (List.getElem?_eq_some_iff.mp hj).1
        rw [T7.lt] at jl
        obtain ⟨b, hb⟩ : ∃ b, bs[j]? = some b := ⟨_, List.getElem?_eq_getElem (by rw [T7.lb]; exact jl)⟩
        have := (T7.row j b U _ hb hj (List.getElem?_eq_getElem jl)).2
        rw [nU] at this
        cases this
      have UD : U ≠ D := fun z => by rw [z, T7.e] at nU; cases nU
      dsimp only [gName]
      show tDrop _ _ [some (.str t), some (.ref D), some (.int (i : Nat)), some (.str pc), some (.ref Wd), some (.ref U), none] H8
      have hlast : (ws.map V.str) = (ws.take (ws.length - 1)).map V.str ++ [V.str (ws.getD (ws.length - 1) Str.empty)] := by
        have : ws = ws.take (ws.length - 1) ++ [ws.getD (ws.length - 1) Str.empty] := by
          rw [List.getD_eq_getElem?_getD, List.getElem?_eq_getElem (show ws.length - 1 < ws.length by omega)]
          show ws = ws.take (ws.length - 1) ++ [ws[ws.length - 1]]
          have : ws.drop (ws.length - 1) = [ws[ws.length - 1]] := by rw [List.drop_eq_getElem_cons (by omega), List.drop_eq_nil_of_le (by omega)]
          rw [← this, List.take_append_drop]
        conv => lhs; rw [this]
        rw [List.map_append]
        rfl
      have hlm : ws.getD (ws.length - 1) Str.empty ∈ ws := by
        rw [List.getD_eq_getElem?_getD, List.getElem?_eq_getElem (show ws.length - 1 < ws.length by omega)]
        exact List.getElem_mem _
      refine ⟨.ref D, rfl, .inl ⟨rfl, _, SqL.of T8.e⟩, .ref U, rfl, .ref Wd, rfl, 1, rfl, Wd, _, -1, .str (ws.getD (ws.length - 1) Str.empty), rfl, rfl, SqL.of eW8, by rw [hlast]; exact atI_last _ _, _, "ever", rfl, hww _ hlm, hev2, fun H9 s9 => ⟨small_le (by show 2 ≤ 1000; decide), fun b nb => ?_⟩⟩
      have x9 := Ex.of (s9.trans (same_upd (o := .tup [.ref U, numV "ever" (ws.getD (ws.length - 1) Str.empty)]) nb))
      have T9 := T8.ex x9
      have eU9 := x9.lst eU
      have ep9 := x9.lst ep8
      have eb : (upd H9 b (.tup [.ref U, numV "ever" (ws.getD (ws.length - 1) Str.empty)])) b = some (.tup [.ref U, valD (rowS ws).2]) := by rw [upd_same, num_val]; rfl
      have b0 : H b = none := by cases z : H b with
        | none => rfl
        | some o =>
          have := (x8.trans (Ex.of s9)).free nb
          rw [z] at this
          cases this
      have x9 := x8.trans x9
      generalize upd H9 b (.tup [.ref U, numV "ever" (ws.getD (ws.length - 1) Str.empty)]) = H10 at T9 eU9 ep9 eb x9 ⊢
      have eU9 : H10 U = some (.lst ((rowS ws).1.map valD)) := by
        rw [eU9]
        show _ = some (HO.lst (((ws.take (ws.length - 2)).map (numD "never")).map valD))
        rw [hpre, List.map_map]
        rfl
      have lb : bs.length ≤ 40001 := by rw [T9.lb, List.length_map, List.length_take]; omega
      refine ⟨D, _, .ref b, rfl, rfl, T9.e, size20 (by rw [List.length_map]; omega), _, _, _, _, bs ++ [b], ts ++ [U], rfl, ?_, ex_updN x9 T9.p0, by rw [upd_ne pD]; exact ep9⟩
      rw [List.take_add_one, hpc, List.map_append]
      show Told _ _ _ _ _ (_ ++ [rowS (Txt.split pc " ")])
      rw [hws]
      exact T9.push eb eU9 b0 U0 Uts UD
  · obtain ⟨y2, y3, y4, y5, bs, ts, rfl, T3, x3, ep3⟩ := hP
    rw [lm, List.take_length] at T3
    dsimp only []
    show tSeq _ _ _ [some (.str t), some (.ref D), y2, y3, y4, y5, none] H3
    refine ⟨.ref D, rfl, .ref D, _, rfl, T3.rp (fun x hx => by obtain ⟨pc, _, rfl⟩ := List.mem_map.mp hx; exact rowS_plain _), ⟨tabG_ex hT.1 x3, tabG_ex hT.2 x3⟩, hplan, fun H4 x4 _ => ?_⟩
    exact ⟨.ref D, rfl, q D bs ts H4 (x3.trans x4) (T3.ex x4)⟩
end
end CL
set_option Elab.async false
set_option linter.all false
set_option maxRecDepth 100000
set_option maxHeartbeats 4000000
namespace CL
open PySem PySem.Spec PyProof.Rows L2 GE TL
/-! ### a plan's text, read back -/
def wordsR (x : RowT) : List Str := x.1.map (wordD "never") ++ [Str.ofString "x", wordD "ever" x.2]
def pieceR (x : RowT) : Str := Txt.join " " (wordsR x)
theorem planS_rows (L : List RowT) : planS (planD L) = Txt.join ", " (L.map pieceR) := by
  show Txt.join ", " ((L.map rowD).map pieceT) = _
  rw [List.map_map]
  rfl
theorem mem_joinL {c : Nat} {S : List Nat} : ∀ {ps : List (List Nat)}, c ∈ joinL S ps → c ∈ S ∨ ∃ p ∈ ps, c ∈ p
  | [], h => by cases h
  | [p], h => .inr ⟨p, List.mem_cons_self, h⟩
  | p :: q :: r, h => by
    have h : c ∈ p ++ (S ++ joinL S (q :: r)) := h
    rcases List.mem_append.mp h with h | h
    · exact .inr ⟨p, List.mem_cons_self, h⟩
    · rcases List.mem_append.mp h with h | h
      · exact .inl h
      · rcases mem_joinL h with h | ⟨p', hp, h⟩
        · exact .inl h
        · exact .inr ⟨p', List.mem_cons_of_mem _ hp, h⟩
/-- a number's word -/
theorem word_num {no : Str} {i : Int} (h : 0 ≤ i) : tl (wordD no (.int i)) = numL i.toNat := by
  obtain ⟨n, rfl⟩ : ∃ n : Nat, i = (n : Int) := ⟨i.toNat, by omega⟩
  exact tl_num n
theorem numL_head : ∀ n : Nat, 1 ≤ n → (numL n).head? ≠ some 48 := by
  intro n
  induction n using Nat.strongRecOn with
  | _ n ih =>
    intro h
    by_cases h10 : n < 10
    · rw [numL_lt h10]
      simp
      omega
    · have := ih (n / 10) (by omega) (by omega)
      rw [numL_step (by omega)]
      cases e : numL (n / 10) with
      | nil => exact absurd e (numL_ne _)
      | cons a l => rw [e] at this; exact this
theorem numL_signs (n : Nat) : numSigns (numL n) = true := by
  have h1 : (numL n).all dig = true := List.all_eq_true.mpr fun c hc => by
    have := numL_digits n c hc
    simpa [dig] using this
  have h2 : (numL n).isEmpty = false := by
    cases e : numL n with
    | nil => exact absurd e (numL_ne n)
    | cons a l => rfl
  unfold numSigns
  rw [h1, h2]
  by_cases h : n = 0
  · rw [h]
    decide
  · rw [decide_eq_false (numL_head n (by omega))]
    simp
theorem tl_never : tl (Str.ofString "never") = [110, 101, 118, 101, 114] := by decide +kernel
theorem tl_ever : tl (Str.ofString "ever") = [101, 118, 101, 114] := by decide +kernel
/-- a word that stands for None -/
structure NoW (no : Str) : Prop where
  head : ∃ c l, tl no = c :: l ∧ 57 < c
  free : ∀ c ∈ tl no, c ≠ 32 ∧ c ≠ 44
theorem no_never : NoW "never" := ⟨⟨_, _, tl_never, by decide⟩, by rw [tl_never]; decide⟩
theorem no_ever : NoW "ever" := ⟨⟨_, _, tl_ever, by decide⟩, by rw [tl_ever]; decide⟩
theorem word_free {no : Str} {d : PyData} (N : NoW no) (h : NumD d) : ∀ c ∈ tl (wordD no d), c ≠ 32 ∧ c ≠ 44 := by
  rcases h with rfl | ⟨i, rfl, h0, _⟩
  · exact N.free
  · intro c hc
    rw [word_num h0] at hc
    have := numL_digits _ c hc
    omega
theorem word_ne {no : Str} {i : Int} (N : NoW no) (h : 0 ≤ i) : wordD no (.int i) ≠ no := fun z => by
  obtain ⟨c, l, e, hc⟩ := N.head
  have z2 := congrArg tl z
  rw [word_num h, e] at z2
  have := numL_digits i.toNat c (by rw [z2]; exact List.mem_cons_self)
  omega
theorem word_ok {no : Str} {d : PyData} (h : NumD d) : okW no (wordD no d) = true := by
  unfold okW
  rcases h with rfl | ⟨i, rfl, h0, _⟩
  · show (decide (no = no) || _) = true
    rw [decide_eq_true rfl]
    rfl
  · rw [show isNumS (wordD no (.int i)) = true by unfold isNumS; rw [word_num h0]; exact numL_signs _, Bool.or_true]
theorem word_back {no : Str} {d : PyData} (N : NoW no) (h : NumD d) : numD no (wordD no d) = d := by
  unfold numD
  rcases h with rfl | ⟨i, rfl, h0, _⟩
  · exact if_pos rfl
  · rw [if_neg (word_ne N h0), word_num h0, numL_val]
    congr 1
    omega
structure RowN (x : RowT) : Prop where
  ne : x.1 ≠ []
  l8 : x.1.length ≤ 8
  pt : ∀ d ∈ x.1, NumD d
  mn : NumD x.2
theorem words_free {x : RowT} (h : RowN x) : ∀ w ∈ wordsR x, ∀ c ∈ tl w, c ≠ 32 ∧ c ≠ 44 := by
  intro w hw
  rcases List.mem_append.mp hw with hw | hw
  · obtain ⟨d, hd, rfl⟩ := List.mem_map.mp hw
    exact word_free no_never (h.pt d hd)
  · simp only [List.mem_cons, List.not_mem_nil, or_false] at hw
    rcases hw with rfl | rfl
    · have : tl (Str.ofString "x") = [120] := by decide +kernel
      rw [this]
      decide
    · exact word_free no_ever h.mn
theorem words_ne (x : RowT) : wordsR x ≠ [] := fun z => by
  have := congrArg List.length z
  unfold wordsR at this
  rw [List.length_append] at this
  simp at this
theorem piece_split {x : RowT} (h : RowN x) : Txt.split (pieceR x) " " = wordsR x :=
  split_join (y := " ") (s := 32) (S := []) (by decide +kernel) (by decide +kernel) (words_ne x) fun w hw z => (words_free h w hw 32 z).1 rfl
theorem piece_free {x : RowT} (h : RowN x) : 44 ∉ tl (pieceR x) := fun z => by
  have e : tl (pieceR x) = joinL (tl " ") ((wordsR x).map tl) := by
    show tl (Txt.join " " (wordsR x)) = _
    rw [join_eq, tl_join]
  rw [e] at z
  rcases mem_joinL z with z | ⟨p, hp, z⟩
  · have : tl (Str.ofString " ") = [32] := by decide +kernel
    rw [this] at z
    simp at z
  · obtain ⟨w, hw, rfl⟩ := List.mem_map.mp hp
    exact (words_free h w hw 44 z).2 rfl
theorem plan_split {L : List RowT} (hL : L ≠ []) (h : ∀ x ∈ L, RowN x) : Txt.split (planS (planD L)) ", " = L.map pieceR := by
  rw [planS_rows]
  refine split_join (y := ", ") (s := 44) (S := [32]) (by decide +kernel) (by decide +kernel) (fun z => hL (List.map_eq_nil_iff.mp z)) fun p hp => ?_
  obtain ⟨x, hx, rfl⟩ := List.mem_map.mp hp
  exact piece_free (h x hx)
theorem words_len (x : RowT) : (wordsR x).length = x.1.length + 2 := by
  unfold wordsR
  rw [List.length_append, List.length_map]
  rfl
theorem words_take (x : RowT) : (wordsR x).take ((wordsR x).length - 2) = x.1.map (wordD "never") := by
  rw [words_len, Nat.add_sub_cancel]
  unfold wordsR
  have : x.1.length = (x.1.map (wordD "never")).length := (List.length_map ..).symm
  rw [this, List.take_left]
theorem words_form {x : RowT} (h : RowN x) : formS (wordsR x) = true := by
  have l := words_len x
  have l1 : 1 ≤ x.1.length := List.length_pos_iff.mpr h.ne
  unfold formS
  rw [decide_eq_true (by omega), words_take]
  have e2 : (wordsR x)[(wordsR x).length - 2]? = some (Str.ofString "x") := by
    rw [l, Nat.add_sub_cancel]
    unfold wordsR
    rw [List.getElem?_append_right (by rw [List.length_map]; exact Nat.le_refl _), List.length_map, Nat.sub_self]
    rfl
  have e1 : (wordsR x)[(wordsR x).length - 1]? = some (wordD "ever" x.2) := by
    rw [l, show x.1.length + 2 - 1 = x.1.length + 1 by omega]
    unfold wordsR
    rw [List.getElem?_append_right (by rw [List.length_map]; omega), List.length_map, show x.1.length + 1 - x.1.length = 1 by omega]
    rfl
  rw [e2, e1, decide_eq_true rfl]
  show (true && true && okW "ever" (wordD "ever" x.2) && _) = true
  rw [word_ok h.mn, List.all_eq_true.mpr fun w hw => by
    obtain ⟨d, hd, rfl⟩ := List.mem_map.mp hw
    exact word_ok (h.pt d hd)]
  rfl
theorem words_row {x : RowT} (h : RowN x) : rowS (wordsR x) = x := by
  have l := words_len x
  unfold rowS
  rw [words_take, List.map_map, l, show x.1.length + 2 - 1 = x.1.length + 1 by omega]
  have e1 : (wordsR x).getD (x.1.length + 1) Str.empty = wordD "ever" x.2 := by
    rw [List.getD_eq_getElem?_getD]
    unfold wordsR
    rw [List.getElem?_append_right (by rw [List.length_map]; omega), List.length_map, show x.1.length + 1 - x.1.length = 1 by omega]
    rfl
  rw [e1, word_back no_ever h.mn]
  have : x.1.map (numD "never" ∘ wordD "never") = x.1 := by
    conv => rhs; rw [← List.map_id x.1]
    exact List.map_congr_left fun d hd => word_back no_never (h.pt d hd)
  rw [this]
theorem rows_back {L : List RowT} (hL : L ≠ []) (h : ∀ x ∈ L, RowN x) : rowsS (planS (planD L)) = L := by
  unfold rowsS
  rw [plan_split hL h, List.map_map]
  conv => rhs; rw [← List.map_id L]
  exact List.map_congr_left fun x hx => by
    show rowS (Txt.split (pieceR x) " ") = x
    rw [piece_split (h x hx), words_row (h x hx)]
theorem text_inj {L L' : List RowT} (hL : L ≠ []) (h : ∀ x ∈ L, RowN x) (hL' : L' ≠ []) (h' : ∀ x ∈ L', RowN x) (e : planS (planD L) = planS (planD L')) : L = L' := by
  rw [← rows_back hL h, e, rows_back hL' h']
theorem pieceR_len {x : RowT} (h : RowN x) : (pieceR x).length ≤ 2000 := piece_len h.l8 h.pt h.mn
theorem fits_plan {L : List RowT} (hL : L ≠ []) (l8 : L.length ≤ 8) (h : ∀ x ∈ L, RowN x) : Fits (planS (planD L)) := by
  refine ⟨?_, by rw [plan_split hL h, List.length_map]; omega, fun p hp => ?_⟩
  · rw [planS_rows]
    have hs : ∀ M : List RowT, (∀ x ∈ M, RowN x) → ((M.map pieceR).map (·.length)).sum ≤ M.length * 2000 := by
      intro M
      induction M with
      | nil => intro _; exact Nat.le_refl _
      | cons e es ih =>
        intro h
        have h1 := pieceR_len (h e List.mem_cons_self)
        have h2 := ih fun d hd => h d (List.mem_cons_of_mem _ hd)
        simp only [List.map_cons, List.sum_cons, List.length_cons]
        omega
    have h1 := hs L h
    have h2 := StrLaws.join_length_le ", " (L.map pieceR)
    rw [← StrLaws.glued_eq_join, List.length_map] at h2
    have h3 : (Str.ofString ", ").length = 2 := rfl
    rw [h3] at h2
    refine Nat.le_trans h2 ?_
    omega
  · rw [plan_split hL h] at hp
    obtain ⟨x, hx, rfl⟩ := List.mem_map.mp hp
    have hx := h x hx
    rw [piece_split hx]
    refine ⟨Nat.le_trans (pieceR_len hx) (by decide), by rw [words_len]; have := hx.l8; omega, fun w hw => ?_⟩
    rcases List.mem_append.mp hw with hw | hw
    · obtain ⟨d, hd, rfl⟩ := List.mem_map.mp hw
      exact Nat.le_trans (word_len (hx.pt d hd) (by decide)) (by decide)
    · simp only [List.mem_cons, List.not_mem_nil, or_false] at hw
      rcases hw with rfl | rfl
      · decide
      · exact Nat.le_trans (word_len hx.mn (by decide)) (by decide)
theorem forms_plan {L : List RowT} (hL : L ≠ []) (h : ∀ x ∈ L, RowN x) : ∀ p ∈ Txt.split (planS (planD L)) ", ", formS (Txt.split p " ") = true := by
  rw [plan_split hL h]
  intro p hp
  obtain ⟨x, hx, rfl⟩ := List.mem_map.mp hp
  rw [piece_split (h x hx)]
  exact words_form (h x hx)
end CL
set_option Elab.async false
set_option linter.all false
set_option pp.maxSteps 700
set_option maxRecDepth 100000
set_option maxHeartbeats 4000000
namespace CL
open PySem PySem.Spec PyProof.Rows L2 GE TL
section
variable {X : Cx} {s : Shared} {H : Hp} {scope : Scope} {cenv : Env} {fp : List Addr}
theorem ct_blk : CallR (X.blk s H scope cenv fp) (.type "tuple") (fun xs H Q => ∃ p ys, xs = [.ref p] ∧ ((SqL X.K H p ys ∧ ∀ l, H l = none → Q (.ref l) (upd H l (.tup ys))) ∨ (SqT X.K H p ys ∧ Q (.ref p) H))) := call_tuple_of
theorem lo_blk : CallR (X.blk s H scope cenv fp) (.type "list") (fun xs H Q => ∃ p ys, xs = [.ref p] ∧ (SqL X.K H p ys ∨ SqT X.K H p ys) ∧ ∀ l, H l = none → Q (.ref l) (upd H l (.lst ys))) := call_list_of
end
/-- a row as it is, or as lists, or as tuples -/
def Dr (x : RowT) (d : PyData) : Prop := d = rowD x ∨ d = .list [.list x.1, x.2] ∨ d = .tuple [.tuple x.1, x.2]
inductive DrA : List RowT → List PyData → Prop
  | nil : DrA [] []
  | cons {x : RowT} {d : PyData} {L : List RowT} {D : List PyData} (h : Dr x d) (t : DrA L D) : DrA (x :: L) (d :: D)
theorem DrA.refl : ∀ L : List RowT, DrA L (L.map rowD)
  | [] => .nil
  | _ :: L => .cons (.inl rfl) (DrA.refl L)
theorem DrA.snoc {x : RowT} {d : PyData} : ∀ {L : List RowT} {D : List PyData}, DrA L D → Dr x d → DrA (L ++ [x]) (D ++ [d])
  | _, _, .nil, h => .cons h .nil
  | _, _, .cons a t, h => .cons a (t.snoc h)
theorem DrA.len : ∀ {L : List RowT} {D : List PyData}, DrA L D → D.length = L.length
  | _, _, .nil => rfl
  | _, _, .cons _ t => congrArg (· + 1) t.len
theorem Dr.parts {x : RowT} {d : PyData} (h : Dr x d) : isPiece d = isPiece (rowD x) ∧ turnsD d = x.1 ∧ sndD d = x.2 ∧ rowsD d ≠ none := by
  rcases h with rfl | rfl | rfl
  · exact ⟨rfl, rfl, rfl, nofun⟩
  · exact ⟨rfl, rfl, rfl, nofun⟩
  · exact ⟨rfl, rfl, rfl, nofun⟩
theorem DrA.map {α : Type} {f : PyData → α} (hf : ∀ x d, Dr x d → f d = f (rowD x)) : ∀ {L : List RowT} {D : List PyData}, DrA L D → D.map f = (L.map rowD).map f
  | _, _, .nil => rfl
  | _, _, .cons h t => by
    rw [List.map_cons, List.map_cons, List.map_cons, hf _ _ h, DrA.map hf t]
/-- what is dressed is the same plan, told by the same text -/
theorem DrA.same {L : List RowT} {D : List PyData} (h : DrA L D) : isPlanL D = isPlanL (L.map rowD) ∧ D.map pieceT = (L.map rowD).map pieceT := by
  have hl : D.length = (L.map rowD).length := by rw [h.len, List.length_map]
  have hp := h.map (f := isPiece) fun x d hd => hd.parts.1
  have hs := h.map (f := sndD) fun x d hd => by rw [hd.parts.2.2.1]; rfl
  refine ⟨?_, h.map (f := pieceT) fun x d hd => by unfold pieceT; rw [hd.parts.2.1, hd.parts.2.2.1]; rfl⟩
  have all_map : ∀ ds : List PyData, ds.all isPiece = (ds.map isPiece).all id := fun ds => by rw [List.all_map]; rfl
  have any_map : ∀ (ds : List PyData) (n : Nat), ((ds.take n).any fun d => isNone (sndD d)) = ((ds.map sndD).take n).any isNone := fun ds n => by rw [← List.map_take, List.any_map]; rfl
  have sum_map : ∀ ds : List PyData, sumSnd ds = ((ds.map sndD).map worth).sum := fun ds => by unfold sumSnd; rw [List.map_map]; rfl
  unfold isPlanL
  rw [all_map, all_map, any_map, any_map, sum_map, sum_map, hp, hs, hl]
end CL
set_option Elab.async false
set_option linter.all false
set_option pp.maxSteps 700
set_option maxRecDepth 100000
set_option maxHeartbeats 4000000
namespace CL
open PySem PySem.Spec PyProof.Rows L2 GE TL
/-! ### plans compared -/
mutual
theorem rp_dp {K : PySem.W.Frag} {H : Hp} : ∀ {v : V} {d : PyData}, Rp H v d → d.canLay0 = true → Dp K H v d
  | _, _, .non, _ => .non
  | _, _, .bl b, _ => .bl b
  | _, _, .int i, _ => .int i
  | _, _, .str x, _ => .str x
  | _, _, .lst h a, c => .lst (SqL.of h) (rp_dps a (by simpa [PyData.canLay0] using c))
  | _, _, .tup h a, c => .tup (SqT.of h) (rp_dps a (by simpa [PyData.canLay0] using c))
  | _, _, .dct _, c => by simp [PyData.canLay0] at c
theorem rp_dps {K : PySem.W.Frag} {H : Hp} : ∀ {vs : List V} {ds : List PyData}, RpAll H vs ds → PyData.canLayAll0 ds = true → DpAll K H vs ds
  | _, _, .nil, _ => .nil
  | _, _, .cons h t, c => by
    simp only [PyData.canLayAll0, Bool.and_eq_true] at c
    exact .cons (rp_dp h c.1) (rp_dps t c.2)
end
theorem plain_lay {d : PyData} (h : Plain d) : d.canLay0 = true ∧ d.depth = 0 := by
  rcases h with rfl | ⟨i, rfl⟩
  · exact ⟨by simp [PyData.canLay0], rfl⟩
  · exact ⟨by simp [PyData.canLay0], rfl⟩
theorem all_lay {k : Nat} : ∀ ds : List PyData, (∀ d ∈ ds, d.canLay0 = true ∧ d.depth ≤ k) → PyData.canLayAll0 ds = true ∧ PyData.depthAll ds ≤ k
  | [], _ => ⟨by simp [PyData.canLayAll0], Nat.zero_le _⟩
  | d :: ds, h => by
    have h1 := h d List.mem_cons_self
    have h2 := all_lay ds fun x hx => h x (List.mem_cons_of_mem _ hx)
    refine ⟨by simp [PyData.canLayAll0, h1.1, h2.1], ?_⟩
    show max (PyData.depth d) (PyData.depthAll ds) ≤ k
    omega
theorem row_lay {x : RowT} (h : PlainR x) : (rowD x).canLay0 = true ∧ (rowD x).depth ≤ 2 := by
  have h1 := all_lay (k := 0) x.1 fun d hd => ⟨(plain_lay (h.1 d hd)).1, Nat.le_of_eq (plain_lay (h.1 d hd)).2⟩
  have hl : (PyData.list x.1).canLay0 = true ∧ (PyData.list x.1).depth ≤ 1 := ⟨by simp [PyData.canLay0, h1.1], by show PyData.depthAll x.1 + 1 ≤ 1; omega⟩
  have h2 := all_lay (k := 1) [.list x.1, x.2] fun d hd => by
    simp only [List.mem_cons, List.not_mem_nil, or_false] at hd
    rcases hd with rfl | rfl
    · exact hl
    · exact ⟨(plain_lay h.2).1, by rw [(plain_lay h.2).2]; decide⟩
  exact ⟨by unfold rowD; simp only [PyData.canLay0]; exact h2.1, by show PyData.depthAll [.list x.1, x.2] + 1 ≤ 2; have := h2.2; omega⟩
theorem plan_lay {L : List RowT} (h : ∀ x ∈ L, PlainR x) : (planD L).canLay0 = true ∧ SeqAt.shaped (planD L) = true := by
  have h1 := all_lay (k := 2) (L.map rowD) fun d hd => by
    obtain ⟨x, hx, rfl⟩ := List.mem_map.mp hd
    exact row_lay (h x hx)
  have h2 : (planD L).canLay0 = true := by unfold planD; simp only [PyData.canLay0]; exact h1.1
  refine ⟨h2, ?_⟩
  unfold SeqAt.shaped
  rw [h2, decide_eq_true (by show PyData.depthAll (L.map rowD) + 1 ≤ 64; omega)]
  rfl
theorem plain_eqv {d e : PyData} (h : Plain d) (h' : Plain e) : PyData.eqv d e = true ↔ d = e := by
  rcases h with rfl | ⟨i, rfl⟩ <;> rcases h' with rfl | ⟨j, rfl⟩ <;> simp [PyData.eqv]
theorem all_eqv {R : PyData → Prop} (hR : ∀ d e, R d → R e → (PyData.eqv d e = true ↔ d = e)) : ∀ ds es : List PyData, (∀ d ∈ ds, R d) → (∀ e ∈ es, R e) → (PyData.eqvAll ds es = true ↔ ds = es)
  | [], [], _, _ => by simp [PyData.eqvAll]
  | [], e :: es, _, _ => by simp [PyData.eqvAll]
  | d :: ds, [], _, _ => by simp [PyData.eqvAll]
  | d :: ds, e :: es, h, h' => by
    have h1 := hR d e (h d List.mem_cons_self) (h' e List.mem_cons_self)
    have h2 := all_eqv hR ds es (fun x hx => h x (List.mem_cons_of_mem _ hx)) (fun x hx => h' x (List.mem_cons_of_mem _ hx))
    simp only [PyData.eqvAll, Bool.and_eq_true, h1, h2, List.cons.injEq]
theorem row_eqv {x y : RowT} (h : PlainR x) (h' : PlainR y) : PyData.eqv (rowD x) (rowD y) = true ↔ x = y := by
  have h1 := all_eqv (R := Plain) (fun d e => plain_eqv) x.1 y.1 h.1 h'.1
  have h2 := plain_eqv h.2 h'.2
  unfold rowD
  simp only [PyData.eqv, PyData.eqvAll, Bool.and_eq_true, h1, h2]
  constructor
  · rintro ⟨e1, e2, _⟩
    exact Prod.ext e1 e2
  · rintro rfl
    exact ⟨rfl, rfl, trivial⟩
theorem rowD_inj {x y : RowT} (e : rowD x = rowD y) : x = y := by
  unfold rowD at e
  injection e with e
  injection e with e1 e2
  injection e1 with e1
  injection e2 with e2
  exact Prod.ext e1 e2
theorem rows_inj : ∀ {L L' : List RowT}, L.map rowD = L'.map rowD → L = L'
  | [], [], _ => rfl
  | [], _ :: _, e => by simp at e
  | _ :: _, [], e => by simp at e
  | x :: L, y :: L', e => by
    simp only [List.map_cons, List.cons.injEq] at e
    rw [rowD_inj e.1, rows_inj e.2]
theorem plan_eqv {L L' : List RowT} (h : ∀ x ∈ L, PlainR x) (h' : ∀ x ∈ L', PlainR x) : PyData.eqv (planD L) (planD L') = true ↔ L = L' := by
  have h1 := all_eqv (R := fun d => ∃ x, d = rowD x ∧ PlainR x) (fun d e ⟨x, ex, hx⟩ ⟨y, ey, hy⟩ => by
    subst ex ey
    rw [row_eqv hx hy]
    exact ⟨fun e => by rw [e], rowD_inj⟩) (L.map rowD) (L'.map rowD) (fun d hd => by obtain ⟨x, hx, rfl⟩ := List.mem_map.mp hd; exact ⟨x, rfl, h x hx⟩) (fun d hd => by obtain ⟨x, hx, rfl⟩ := List.mem_map.mp hd; exact ⟨x, rfl, h' x hx⟩)
  unfold planD
  simp only [PyData.eqv, h1]
  exact ⟨rows_inj, fun e => by rw [e]⟩
/-! ### rows that are drawn -/
theorem NumD.plain {d : PyData} (h : NumD d) : Plain d := h.imp id fun ⟨i, e, _⟩ => ⟨i, e⟩
theorem RowN.plain {x : RowT} (h : RowN x) : PlainR x := ⟨fun d hd => (h.pt d hd).plain, h.mn.plain⟩
theorem planL_row {L : List RowT} (h : PlanL L) : L ≠ [] ∧ ∀ x ∈ L, RowN x := by
  refine ⟨fun z => by have := h.l1; rw [z] at this; simp at this, fun x hx => ?_⟩
  have hr := h.rows x hx
  refine ⟨fun z => by have := hr.l1; rw [z] at this; simp at this, hr.l8, fun d hd => NumD.of (hr.pt d hd), ?_⟩
  obtain ⟨i, hi⟩ := List.getElem?_of_mem hx
  rcases h.many i x hi with ⟨m, e, m0, m1⟩ | ⟨_, e⟩
  · rw [e]; exact .inr ⟨m, rfl, m0, by show m ≤ 1000000000000000000000000000000; omega⟩
  · rw [e]; exact .inl rfl
theorem DrM.many {d : PyData} (h : DrM d) : isMany d = true ∧ 0 ≤ worth d ∧ worth d ≤ 100000000000000000000000000000 := by
  obtain ⟨m, rfl, h0, h1⟩ := h
  exact ⟨by simp [isMany]; omega, h0, by show m ≤ _; omega⟩
theorem sum_le {b : Int} : ∀ ds : List PyData, (∀ d ∈ ds, worth (sndD d) ≤ b) → sumSnd ds ≤ ds.length * b
  | [], _ => by simp [sumSnd]
  | d :: ds, h => by
    have e : sumSnd (d :: ds) = worth (sndD d) + sumSnd ds := rfl
    have h1 := h d List.mem_cons_self
    have h2 := sum_le ds fun x hx => h x (List.mem_cons_of_mem _ hx)
    rw [e, List.length_cons]
    have : ((ds.length + 1 : Nat) : Int) * b = (ds.length : Int) * b + b := by push_cast; rw [Int.add_mul, Int.one_mul]
    omega
theorem row_piece {x : RowT} (h : RowF x) (hm : isMany x.2 = true) : isPiece (rowD x) = true := by
  show isPiece (.tuple [.list x.1, x.2]) = true
  have : isTurns (.list x.1) = true := by
    show (decide (1 ≤ x.1.length) && decide (x.1.length ≤ 8) && x.1.all isPatience) = true
    rw [Bool.and_eq_true, Bool.and_eq_true, decide_eq_true_eq, decide_eq_true_eq, List.all_eq_true]
    exact ⟨⟨h.l1, h.l8⟩, h.pt⟩
  show (isTurns (.list x.1) && isMany x.2) = true
  rw [this, hm]
  rfl
theorem planL_plan {L : List RowT} (h : PlanL L) : isPlan (planD L) = true := by
  have hmany : ∀ x ∈ L, isMany x.2 = true ∧ 0 ≤ worth x.2 ∧ worth x.2 ≤ 100000000000000000000000000000 := fun x hx => by
    obtain ⟨i, hi⟩ := List.getElem?_of_mem hx
    rcases h.many i x hi with z | ⟨_, z⟩
    · exact z.many
    · rw [z]; exact ⟨rfl, by decide, by decide⟩
  show isPlanL (L.map rowD) = true
  have hl : (L.map rowD).length = L.length := List.length_map ..
  have hs : sumSnd (L.map rowD) ≤ GREAT := by
    have := sum_le (b := 100000000000000000000000000000) (L.map rowD) fun d hd => by
      obtain ⟨x, hx, rfl⟩ := List.mem_map.mp hd
      exact (hmany x hx).2.2
    rw [hl] at this
    have l8 := h.l8
    have hG : GREAT = 1000000000000000000000000000000 := rfl
    omega
  have hn : (((L.map rowD).take ((L.map rowD).length - 1)).any fun d => isNone (sndD d)) = false := by
    cases e : (((L.map rowD).take ((L.map rowD).length - 1)).any fun d => isNone (sndD d)) with
    | false => rfl
    | true =>
      obtain ⟨d, hd, hN⟩ := List.any_eq_true.mp e
      obtain ⟨i, hi⟩ := List.getElem?_of_mem hd
      rw [List.getElem?_take] at hi
      split at hi
      case isFalse => cases hi
      case isTrue hlt =>
        rw [List.getElem?_map] at hi
        obtain ⟨x, hx, rfl⟩ := Option.map_eq_some_iff.mp hi
        rcases h.many i x hx with ⟨m, z, _⟩ | ⟨z, _⟩
        · have : isNone x.2 = true := hN
          rw [z] at this
          cases this
        · omega
  unfold isPlanL
  rw [hn, hl]
  have h1 := h.l1
  have h8 := h.l8
  simp only [Bool.and_eq_true, decide_eq_true_eq, List.all_eq_true, Bool.not_false]
  refine ⟨⟨⟨⟨h1, h8⟩, fun d hd => ?_⟩, trivial⟩, hs⟩
  obtain ⟨x, hx, rfl⟩ := List.mem_map.mp hd
  exact row_piece (h.rows x hx) (hmany x hx).1
/-- another last row -/
theorem PlanL.last {L : List RowT} {x y : RowT} (h : PlanL (L ++ [x])) (hy : RowF y) (hm : y.2 = x.2 ∨ y.2 = .none) : PlanL (L ++ [y]) := by
  have l1 := h.l1
  have l8 := h.l8
  rw [List.length_append, List.length_singleton] at l1 l8
  refine ⟨by rw [List.length_append, List.length_singleton]; exact l1, by rw [List.length_append, List.length_singleton]; exact l8, fun z hz => ?_, fun i z hz => ?_⟩
  · rcases List.mem_append.mp hz with hz | hz
    · exact h.rows z (List.mem_append_left _ hz)
    · rw [List.mem_singleton.mp hz]; exact hy
  · by_cases hi : i < L.length
    · rw [List.getElem?_append_left hi] at hz
      rcases h.many i z (by rw [List.getElem?_append_left hi]; exact hz) with a | ⟨a, b⟩
      · exact .inl a
      · rw [List.length_append, List.length_singleton] at a
        omega
    · have hil := (List.getElem?_eq_some_iff.mp hz).1
      rw [List.length_append, List.length_singleton] at hil
      obtain rfl : i = L.length := by omega
      rw [List.getElem?_append_right (Nat.le_refl _), Nat.sub_self] at hz
      cases hz
      rcases hm with e | e
      · have := h.many L.length x (by rw [List.getElem?_append_right (Nat.le_refl _), Nat.sub_self]; rfl)
        rw [e]
        rw [List.length_append] at this ⊢
        exact this
      · exact .inr ⟨by rw [List.length_append, List.length_singleton], e⟩
/-- another first patience -/
theorem PlanL.head {L : List RowT} {x : RowT} {ts : List PyData} (h : PlanL (x :: L)) (hy : RowF (ts, x.2)) : PlanL ((ts, x.2) :: L) := by
  refine ⟨h.l1, h.l8, fun z hz => ?_, fun i z hz => ?_⟩
  · rcases List.mem_cons.mp hz with rfl | hz
    · exact hy
    · exact h.rows z (List.mem_cons_of_mem _ hz)
  · cases i with
    | zero =>
      cases hz
      exact h.many 0 x rfl
    | succ i => exact h.many (i + 1) z hz
/-! ### a plan held as lists, each its own -/
def heldR (x : RowT) : PyData := .list [.list x.1, x.2]
theorem held_dr : ∀ L : List RowT, DrA L (L.map heldR)
  | [] => .nil
  | _ :: L => .cons (.inr (.inl rfl)) (held_dr L)
structure Held (H0 H : Hp) (p : Addr) (bs ts : List Addr) (L : List RowT) : Prop where
  p0 : H0 p = none
  e : H p = some (.lst (bs.map V.ref))
  lb : bs.length = L.length
  lt : ts.length = L.length
  row : ∀ (i : Nat) (b t : Addr) (x : RowT), bs[i]? = some b → ts[i]? = some t → L[i]? = some x → H b = some (.lst [.ref t, valD x.2]) ∧ H t = some (.lst (x.1.map valD))
  b0 : ∀ b ∈ bs, H0 b = none ∧ b ≠ p
  t0 : ∀ t ∈ ts, H0 t = none ∧ t ≠ p
  nb : bs.Nodup
  nt : ts.Nodup
  bt : ∀ b ∈ bs, ∀ t ∈ ts, b ≠ t
theorem Held.ex {H0 H H' : Hp} {p : Addr} {bs ts : List Addr} {L : List RowT} (T : Held H0 H p bs ts L) (x : Ex H H') : Held H0 H' p bs ts L :=
  ⟨T.p0, x.lst T.e, T.lb, T.lt, fun i b t y h1 h2 h3 => ⟨x.lst (T.row i b t y h1 h2 h3).1, x.lst (T.row i b t y h1 h2 h3).2⟩, T.b0, T.t0, T.nb, T.nt, T.bt⟩
theorem Held.rp {H0 H : Hp} {p : Addr} {bs ts : List Addr} {L : List RowT} (T : Held H0 H p bs ts L) (hp : ∀ x ∈ L, PlainR x) : Rp H (.ref p) (.list (L.map heldR)) := by
  refine .lst T.e ?_
  have gen : ∀ (n : Nat), n ≤ L.length → RpAll H ((bs.take n).map V.ref) ((L.take n).map heldR) := by
    intro n
    induction n with
    | zero => intro _; exact .nil
    | succ n ih =>
      intro hn
      obtain ⟨b, hb⟩ : ∃ b, bs[n]? = some b := ⟨_, List.getElem?_eq_getElem (by rw [T.lb]; omega)⟩
      obtain ⟨t, ht⟩ : ∃ t, ts[n]? = some t := ⟨_, List.getElem?_eq_getElem (by rw [T.lt]; omega)⟩
      obtain ⟨x, hx⟩ : ∃ x, L[n]? = some x := ⟨_, List.getElem?_eq_getElem (by omega)⟩
      obtain ⟨r1, r2⟩ := T.row n b t x hb ht hx
      have hpx := hp x (List.mem_of_getElem? hx)
      rw [List.take_add_one, hb, List.map_append, List.take_add_one, hx, List.map_append]
      exact (ih (by omega)).append (.cons (.lst r1 (.cons (.lst r2 (plain_rps hpx.1)) (.cons hpx.2.rp .nil))) .nil)
  have := gen L.length (Nat.le_refl _)
  rw [List.take_length, ← T.lb, List.take_length] at this
  exact this
theorem Held.push {H0 H : Hp} {p b t : Addr} {bs ts : List Addr} {L : List RowT} {x : RowT} (T : Held H0 H p bs ts L) (eb : H b = some (.lst [.ref t, valD x.2])) (et : H t = some (.lst (x.1.map valD))) (b0 : H0 b = none) (t0 : H0 t = none) (bp : b ≠ p) (tp : t ≠ p)
    (nb : b ∉ bs ∧ b ∉ ts) (nt : t ∉ bs ∧ t ∉ ts) (ne : b ≠ t) : Held H0 (upd H p (.lst (bs.map V.ref ++ [.ref b]))) p (bs ++ [b]) (ts ++ [t]) (L ++ [x]) := by
  have keepT : ∀ c o, c ≠ p → H c = some o → (upd H p (.lst (bs.map V.ref ++ [.ref b]))) c = some o := fun c o ne e => by rw [upd_ne ne]; exact e
  refine ⟨T.p0, by rw [upd_same, List.map_append]; rfl, by rw [List.length_append, List.length_append, T.lb]; rfl, by rw [List.length_append, List.length_append, T.lt]; rfl, fun i c u y h1 h2 h3 => ?_, fun c hc => ?_, fun c hc => ?_, ?_, ?_, fun c hc u hu => ?_⟩
  · by_cases hi : i < L.length
    · rw [List.getElem?_append_left (by rw [T.lb]; exact hi)] at h1
      rw [List.getElem?_append_left (by rw [T.lt]; exact hi)] at h2
      rw [List.getElem?_append_left hi] at h3
      obtain ⟨r1, r2⟩ := T.row i c u y h1 h2 h3
      exact ⟨keepT _ _ (T.b0 c (List.mem_of_getElem? h1)).2 r1, keepT _ _ (T.t0 u (List.mem_of_getElem? h2)).2 r2⟩
    · have h3l := (List.getElem?_eq_some_iff.mp h3).1
      rw [List.length_append, List.length_singleton] at h3l
      obtain rfl : i = L.length := by omega
      rw [List.getElem?_append_right (by rw [T.lb]; exact Nat.le_refl _), T.lb, Nat.sub_self] at h1
      rw [List.getElem?_append_right (by rw [T.lt]; exact Nat.le_refl _), T.lt, Nat.sub_self] at h2
      rw [List.getElem?_append_right (Nat.le_refl _), Nat.sub_self] at h3
      cases h1
      cases h2
      cases h3
      exact ⟨keepT _ _ bp eb, keepT _ _ tp et⟩
  · rcases List.mem_append.mp hc with hc | hc
    · exact T.b0 c hc
    · rw [List.mem_singleton.mp hc]; exact ⟨b0, bp⟩
  · rcases List.mem_append.mp hc with hc | hc
    · exact T.t0 c hc
    · rw [List.mem_singleton.mp hc]; exact ⟨t0, tp⟩
  · rw [List.nodup_append]
    exact ⟨T.nb, by simp, fun a ha c hc z => by rw [List.mem_singleton.mp hc] at z; exact nb.1 (z ▸ ha)⟩
  · rw [List.nodup_append]
    exact ⟨T.nt, by simp, fun a ha c hc z => by rw [List.mem_singleton.mp hc] at z; exact nt.2 (z ▸ ha)⟩
  · rcases List.mem_append.mp hc with hc | hc <;> rcases List.mem_append.mp hu with hu | hu
    · exact T.bt c hc u hu
    · rw [List.mem_singleton.mp hu]; exact fun z => nt.1 (z ▸ hc)
    · rw [List.mem_singleton.mp hc]; exact fun z => nb.2 (z ▸ hu)
    · rw [List.mem_singleton.mp hc, List.mem_singleton.mp hu]; exact ne
theorem nodup_at {α : Type} {l : List α} (h : l.Nodup) {i j : Nat} {a : α} (hi : l[i]? = some a) (hj : l[j]? = some a) : i = j :=
  (List.getElem?_inj (List.getElem?_eq_some_iff.mp hi).1 h).mp (hi.trans hj.symm)
/-- a patience of a row changed -/
theorem Held.setT {H0 H : Hp} {p b t : Addr} {bs ts : List Addr} {L : List RowT} {x : RowT} {i : Nat} {ys : List PyData} (T : Held H0 H p bs ts L) (hb : bs[i]? = some b) (ht : ts[i]? = some t) (hx : L[i]? = some x) : Held H0 (upd H t (.lst (ys.map valD))) p bs ts (L.set i (ys, x.2)) := by
  have tm := List.mem_of_getElem? ht
  refine ⟨T.p0, by rw [upd_ne (Ne.symm (T.t0 t tm).2)]; exact T.e, by rw [List.length_set]; exact T.lb, by rw [List.length_set]; exact T.lt, fun j c u y h1 h2 h3 => ?_, T.b0, T.t0, T.nb, T.nt, T.bt⟩
  have ct : c ≠ t := T.bt c (List.mem_of_getElem? h1) t tm
  rw [upd_ne ct]
  by_cases hj : i = j
  · subst hj
    rw [List.getElem?_set_self (List.getElem?_eq_some_iff.mp hx).1] at h3
    cases h3
    rw [ht] at h2
    cases h2
    exact ⟨(T.row i c t x h1 ht hx).1, upd_same⟩
  · rw [List.getElem?_set_ne hj] at h3
    have ut : u ≠ t := fun z => hj (nodup_at T.nt ht (by rw [h2, z]))
    rw [upd_ne ut]
    exact T.row j c u y h1 h2 h3
theorem Held.setB {H0 H : Hp} {p b t : Addr} {bs ts : List Addr} {L : List RowT} {x : RowT} {i : Nat} {m : PyData} (T : Held H0 H p bs ts L) (hb : bs[i]? = some b) (ht : ts[i]? = some t) (hx : L[i]? = some x) : Held H0 (upd H b (.lst [.ref t, valD m])) p bs ts (L.set i (x.1, m)) := by
  have bm := List.mem_of_getElem? hb
  refine ⟨T.p0, by rw [upd_ne (Ne.symm (T.b0 b bm).2)]; exact T.e, by rw [List.length_set]; exact T.lb, by rw [List.length_set]; exact T.lt, fun j c u y h1 h2 h3 => ?_, T.b0, T.t0, T.nb, T.nt, T.bt⟩
  have ub : u ≠ b := fun z => T.bt b bm u (List.mem_of_getElem? h2) z.symm
  rw [upd_ne ub]
  by_cases hj : i = j
  · subst hj
    rw [List.getElem?_set_self (List.getElem?_eq_some_iff.mp hx).1] at h3
    cases h3
    rw [hb] at h1
    cases h1
    rw [ht] at h2
    cases h2
    exact ⟨upd_same, (T.row i b t x hb ht hx).2⟩
  · rw [List.getElem?_set_ne hj] at h3
    have cb : c ≠ b := fun z => hj (nodup_at T.nb hb (by rw [h1, z]))
    rw [upd_ne cb]
    exact T.row j c u y h1 h2 h3
end CL
set_option Elab.async false
set_option linter.all false
set_option pp.maxSteps 700
set_option maxRecDepth 100000
set_option maxHeartbeats 4000000
/-! ### Base.__init__(self, ..), Base a class of the module over ValueError -/
namespace L2
open PySem PySem.Spec PyProof.Rows
theorem pe_leinit {X : Cx} {C0 : Addr} {x : Str} {e : Expr} {es : List Expr} {ta : TA} {p1 p2 pos : Pos} {pl : Sem Bool} (hg : Gl X x) (hm : X.mg x = some (.ref C0)) (hr : PySem.W.readsIn X.K C0 (.type "type") = true)
    (sg : PySem.W.specialIn X.K (.ref C0) "__getattribute__" = some (some (.builtin "type.__getattribute__"))) (vV : PySem.W.findCls X.K (.ref C0) (.type "type") "__init__" = some (.val (.builtin "ValueError.__init__"))) (ha : PA X (e :: es) ta)
    (hdb : (x == ("__debug__" : Str)) = false := by decide)
    (hc : eval (.Call (.Attribute (.Name x p1) "__init__" p2) (e :: es) [] pos) X.env = (do
      let ov ← eval (.Name x p1) X.env
      standAt p2.atName
      let (f, first) ← holding [ov] (getMethod ov "__init__" pl)
      callWith pos f first (backTo pos (starEach (e :: es) X.env)) (backToKw pos (keywordEach [] X.env))) := by rfl)
    (he : starEach (e :: es) X.env = (false, eval e X.env) :: starEach es X.env := by rfl) (hpl : (backTo pos (starEach es X.env)).any (·.1) = false := by rfl) :
    PE X (.Call (.Attribute (.Name x p1) "__init__" p2) (e :: es) [] pos) (tVeI X.K ta) := by
  refine ⟨fun pins s σ H Q I h => ?_⟩
  refine PySem.W.methodCall_KW (ld_glob I hg hm ?_ hdb) hc
  refine PySem.W.method_cls I.kIn sg (PySem.W.cls_value I.kIn hr vV (by decide +kernel) ?_)
  show wpAny _ _ (callWith pos (Value.builtin "ValueError.__init__") [] (backTo pos (starEach (e :: es) X.env)) []) _ _ _
  refine PyProof.Rows.callWith_method1 (thn (ha.run pos pins _ σ H _ (I.tok _) h) fun us s1 ⟨vs, H1, I1, r1, a, C, ws, ev, hl, T, ea, q⟩ => ?_) he hpl
  subst ev
  cases r1 with
  | @cons _ u0 _ ur ra rw' =>
    obtain rfl : u0 = Value.ref a := ra
    have hlen : ur.length ≤ sizeLine := by
      rw [← Paired.length rw', sizeLine_eq]
      omega
    exact oinit_ok T I1 ea hlen fun s' J => ⟨.non, H1, J, rfl, q⟩
end L2
namespace CL
open PySem PySem.Spec PyProof.Rows L2 GE TL

abbrev sNT : Stmt := topS 6
abbrev sInitNT : Stmt := inClass sNT 0
theorem scInitNT : FnScope ["self", "sign"] ["self", "sign"] (defScope sInitNT) := ⟨rfl, rfl, rfl, by decide +kernel, rfl, by decide +kernel, by decide +kernel⟩
/-- what the classes of refusals say: LineError at LE, NoText at CT, its own __init__ at fI -/
structure NTx (K : PySem.W.Frag) (mg : Str → Option Value) (LE CT : Addr) : Prop where
  gL : mg "LineError" = some (.ref LE)
  rd : PySem.W.readsIn K LE (.type "type") = true
  sg : PySem.W.specialIn K (.ref LE) "__getattribute__" = some (some (.builtin "type.__getattribute__"))
  ini : PySem.W.findCls K (.ref LE) (.type "type") "__init__" = some (.val (.builtin "ValueError.__init__"))
  gT : mg "NoText" = some (.ref CT)
  ox : OexC K CT
  no : PySem.W.findIn K (.ref CT) "sign" = some none
def spInitNT (CT : Addr) : Sp := fun vs H Q _ => ∃ (a : Addr) (x : V), vs = [.ref a, x] ∧ H a = some (exo a CT none) ∧ ∀ dx, H dx = none → dx ≠ a → Q .non (upd (upd H dx (exd dx [(Str.ofString "sign", x)])) a (exo a CT (some dx)))
section
variable {P : Program} {w : World} {K : PySem.W.Frag} {mg : Str → Option Value} {base : Heap}
theorem ok_initNT {f LE CT : Addr} {fd : FuncData} (F : Fun K "__init__" "NoText.__init__" sInitNT f fd) (N : NTx K mg LE CT) : FnOk P w K mg base CX0 1 f fd ["self", "sign"] (spInitNT CT) := by
  refine F.ok scInitNT (fun vs H Q E ⟨a, x, e, _⟩ => by rw [e]; rfl) (fun cdv A outer s H vs Q E hr h => ?_)
  obtain ⟨a, x, rfl, ha, q⟩ := h
  refine ⟨_, (pss_cons (ps_expr (pe_leinit (by rfl) N.gL N.rd N.sg N.ini (pa_cons (pv 0) (pa_cons pe_str pa_nil)))) (pss_one (ps_ost (pv 0) (pv 1)))), ?_⟩
  refine ⟨.ref a, rfl, a, CT, _, rfl, by decide, N.ox, ha, ?_⟩
  exact ⟨x, rfl, .ref a, rfl, a, CT, rfl, N.ox, N.no, .inl ⟨ha, fun dx hd hn => q dx hd hn⟩⟩
end
end CL
set_option Elab.async false
set_option linter.all false
set_option pp.maxSteps 700
set_option maxRecDepth 100000
set_option maxHeartbeats 4000000
namespace CL
open PySem PySem.Spec PyProof.Rows L2 GE TL
/-! ### how great the parts of a text are -/
theorem joinL_len {S : List Nat} : ∀ {ps : List (List Nat)}, ps ≠ [] → (joinL S ps).length + S.length = (ps.map (·.length)).sum + ps.length * S.length
  | [], h => absurd rfl h
  | [p], _ => by show p.length + S.length = (p.length + 0) + 1 * S.length; omega
  | p :: q :: r, _ => by
    have ih := joinL_len (S := S) (ps := q :: r) (by simp)
    show (p ++ (S ++ joinL S (q :: r))).length + S.length = p.length + ((q :: r).map (·.length)).sum + ((q :: r).length + 1) * S.length
    rw [List.length_append, List.length_append, Nat.add_mul, Nat.one_mul]
    omega
theorem le_sum : ∀ {ps : List (List Nat)} {p : List Nat}, p ∈ ps → p.length ≤ (ps.map (·.length)).sum
  | q :: ps, p, h => by
    rw [List.map_cons, List.sum_cons]
    rcases List.mem_cons.mp h with rfl | h
    · omega
    · have := le_sum h
      omega
theorem split_sizes {x y : Str} (hy : 1 ≤ y.length) : (∀ p ∈ Txt.split x y, p.length ≤ x.length) ∧ (Txt.split x y).length ≤ x.length + 1 := by
  have e := congrArg tl (StrLaws.join_split x y)
  rw [tl_join] at e
  generalize Txt.split x y = ps at e
  cases ps with
  | nil => exact ⟨fun p hp => (nomatch hp), Nat.zero_le _⟩
  | cons a r =>
    have hl := joinL_len (S := tl y) (ps := (a :: r).map tl) (by simp)
    rw [e, ← len_tl, ← len_tl, List.length_map] at hl
    have h1 : (a :: r).length = r.length + 1 := rfl
    have h2 : r.length ≤ r.length * y.length := Nat.le_mul_of_pos_right _ hy
    rw [h1, Nat.add_mul, Nat.one_mul] at hl
    refine ⟨fun p hp => ?_, by rw [h1]; omega⟩
    have := le_sum (List.mem_map.mpr ⟨p, hp, rfl⟩ : tl p ∈ (a :: r).map tl)
    rw [← len_tl] at this
    omega
theorem fits_of {t : Str} (h : t.length ≤ 40000) : Fits t := by
  obtain ⟨h1, h2⟩ := split_sizes (x := t) (y := ", ") (by decide)
  refine ⟨h, by omega, fun p hp => ?_⟩
  obtain ⟨h3, h4⟩ := split_sizes (x := p) (y := " ") (by decide)
  have := h1 p hp
  exact ⟨by omega, by omega, fun w hw => by have := h3 w hw; omega⟩
theorem ex_raise {H H1 : Hp} {a d : Addr} {o1 o2 o3 o4 : HO} (x : Ex H H1) (na : H1 a = none) (nd : H1 d = none) : Ex H (upd (del (upd (upd (upd H1 a o1) d o2) a o3) a) d o4) := fun b o e => by
  have ba : b ≠ a := fun z => by
    have := x.free na
    rw [← z, e] at this
    cases this
  have bd : b ≠ d := fun z => by
    have := x.free nd
    rw [← z, e] at this
    cases this
  rw [upd_ne bd, del_ne ba, upd_ne ba, upd_ne bd, upd_ne ba]
  exact x b o e
/-- a text of any kind: told, or refused -/
def spReadX (P1 P2 P3 CT C : Addr) : Sp := fun vs H Q E => ∃ t : Str, vs = [.str t] ∧ Fits t ∧ Tb P1 P2 H ∧ GxR.TabG H P3 ∧
  ((∃ p ∈ Txt.split t ", ", formS (Txt.split p " ") = false) → ∀ d H', Ex H H' → E (.ref CT) (some d) H') ∧
  ((∀ p ∈ Txt.split t ", ", formS (Txt.split p " ") = true) → isPlan (planD (rowsS t)) = false → ∀ H', Ex H H' → E (.ref C) none H') ∧
  ((∀ p ∈ Txt.split t ", ", formS (Txt.split p " ") = true) → isPlan (planD (rowsS t)) = true → ∀ p bs ts H', Ex H H' → Told H H' p bs ts (rowsS t) → Q (.ref p) H')
section
variable {P : Program} {w : World} {K : PySem.W.Frag} {mg : Str → Option Value} {base : Heap}
theorem ok_readX {f fI P1 P2 P3 LE CT C : Addr} {fd fdI : FuncData} (F : Fun K "read_plan" "read_plan" sRead f fd) (T : Nm mg) (N4 : Nm4 mg) (N6 : Nm6 mg) (CF : Cal P w K mg base 4 "has_form" ["words"] (spForm P3)) (CO : Cal P w K mg base 2 "number_or" ["word", "none"] spNor) (CC : CalX P w K mg base 8 "check_plan" ["thing"] (spCheck P1 P2 C)) (NX : NTx K mg LE CT) (iC : PySem.W.findIn K (.ref CT) "__init__" = some (some (.ref fI))) (tI : PySem.W.typeIn K (.ref fI) = some (.type "function")) (GI : FnOk P w K mg base CX0 1 fI fdI ["self", "sign"] (spInitNT CT)) (bI : Binds K fdI ["self", "sign"] []) :
    FnOk P w K mg base (L2.CX P w) 9 f fd ["text"] (spReadX P1 P2 P3 CT C) := by
  refine F.okX scRead (fun vs H Q E ⟨t, e, _⟩ => by rw [e]; rfl) (fun cdv A outer s H vs Q E hr h => ?_)
  obtain ⟨t, rfl, hF, hT, hT3, qT, qP, q⟩ := h
  obtain ⟨tn, hnv⟩ := N4.never
  obtain ⟨te, hev⟩ := N4.ever
  have nd := scRead.nd
  refine ⟨_, (pss_cons (ps_if (pt_not (pt_val (pe_callB call_isi (by rfl) T.isi (by decide +kernel) (pa_cons (pv 0) (pa_cons (pe_bltn (v := .ty "str") (by rfl) N4.str PyProof.Rows.boot_str rfl) pa_nil))))) (pss_one ps_never) pss_nil)
      (pss_cons (ps_set (i := 1) nd rfl (.inl rfl) (pe_lst pa_nil))
      (pss_cons (ps_for (passes_of rfl) rfl (pi_enum (by rfl) N6.enum (pa_cons (pe_split (pv 0) pe_str) pa_nil)) (pg_tup rfl (pgs_cons (pg_name (i := 2) nd rfl (.inl rfl)) (pgs_cons (pg_name (i := 3) nd rfl (.inl rfl)) pgs_nil))) (pss_cons (ps_set (i := 4) nd rfl (.inl rfl) (pe_split (pv 3) pe_str))
      (pss_cons (ps_if (pt_not (pt_val (pe_cal (CF.mono (by decide)) hr (by rfl) (pa_cons (pv 4) pa_nil)))) (pss_one (ps_raise rfl (takes_of rfl rfl rfl rfl) (pmk_oex NX.ox iC tI GI (hr.mono (by decide)) bI .nil pass0 (by rfl) NX.gT (pa_cons (pv 2) pa_nil)))) pss_nil)
      (pss_cons (ps_setLc (i := 5) (own := [("word", 6)]) (g := (gName 6)) (tt := tYes) rfl nd rfl rfl (sw_true rfl rfl rfl (by decide +kernel)) (pi_list (pe_slice sl_list (pv 4) po_none (po_some (pe_un un_neg pe_int)))) (blkOk_by (own := [("word", 6)]) (N := nRead) (sc := (defScope sRead)) (by decide +kernel)) (fun _ _ _ _ _ => (pg_name (i := 6) nd rfl (.inl rfl))) (fun _ _ _ _ _ => pts_nil) (fun _ _ _ _ _ => (pe_cal (CO.mono (by decide)) hr (by rfl) (pa_cons (pv 6) (pa_cons (pe_glob (v := .str "never") (by rfl) hnv ⟨_, rfl⟩) pa_nil)))))
      (pss_one (ps_expr (pe_bm PySem.F.plainAttrs_list PySem.F.slot_list_append PySem.F.type_list_append mt_append (pv 1) (pa_cons (pe_tup (pa_cons (pv 5) (pa_cons (pe_cal (CO.mono (by decide)) hr (by rfl) (pa_cons (pe_ix ix_list (pv 4) (pe_un un_neg pe_int) (fun _ _ => rfl)) (pa_cons (pe_glob (v := .str "ever") (by rfl) hev ⟨_, rfl⟩) pa_nil))) pa_nil))) pa_nil))))))))
      (pss_cons (ps_expr (pe_calX CC hr (by rfl) (passes_call (takes_of rfl rfl rfl rfl) fun _ _ _ _ h => h) (pa_cons (pv 1) pa_nil)))
      (pss_one (ps_ret (pv 1))))))), ?_⟩
  refine ⟨.str t, rfl, .str t, .ty "str", _, _, true, rfl, .ty _, .base (.str t), kit_ty (by decide +kernel), true, rfl, iteF ?_⟩
  dsimp only [tNext]
  show tSeq _ _ _ [some (.str t), none, none, none, none, none, none] H
  refine ⟨Nat.zero_le _, fun D nD => ?_⟩
  have T1 : Told H (upd H D (.lst [])) D [] [] [] := ⟨nD, upd_same, rfl, rfl, fun i b t x h => by simp at h, fun b hb => (nomatch hb), fun b hb => (nomatch hb), List.nodup_nil, fun b hb => (nomatch hb)⟩
  have x1 : Ex H (upd H D (.lst [])) := Ex.of (same_upd nD)
  generalize upd H D (.lst []) = H1 at T1 x1 ⊢
  dsimp only [gName]
  show tSeq _ _ _ [some (.str t), some (.ref D), none, none, none, none, none] H1
  refine ⟨.str t, rfl, ⟨t, rfl⟩, t, ", ", rfl, rfl, rfl, Nat.le_trans (Nat.add_le_add_right hF.len 2) (by rw [sizeLine_eq]; decide), fun p np => ?_⟩
  have pD : p ≠ D := fun z => by rw [z, T1.e] at np; cases np
  have x2a : Ex H1 (upd H1 p (.lst ((Txt.split t ", ").map V.str))) := Ex.of (same_upd np)
  have ep : (upd H1 p (.lst ((Txt.split t ", ").map V.str))) p = some (.lst ((Txt.split t ", ").map V.str)) := upd_same
  have T2 := T1.ex x2a
  have x2 := x1.trans x2a
  clear x2a
  generalize upd H1 p (.lst ((Txt.split t ", ").map V.str)) = H2 at x2 ep T2 ⊢
  unfold rowsS at q qP
  have hmany := hF.many
  have hpiece := hF.piece
  generalize Txt.split t ", " = pcs at *
  have lm : (pcs.map V.str).length = pcs.length := List.length_map ..
  refine ⟨p, _, rfl, SqL.of ep, for_it (walk_enum (xs := pcs.map V.str)) (fun i σ H3 => ∃ y2 y3 y4 y5 bs ts, σ = [some (.str t), some (.ref D), y2, y3, y4, y5, none] ∧ Told H H3 D bs ts ((pcs.take i).map fun p => rowS (Txt.split p " ")) ∧ Ex H H3 ∧ H3 p = some (.lst (pcs.map V.str)) ∧ ∀ z ∈ pcs.take i, formS (Txt.split z " ") = true)
    ⟨none, none, none, none, [], [], rfl, T2, x2, ep, fun z hz => (nomatch hz)⟩ (fun i σ H3 _ hP => by obtain ⟨_, _, _, _, _, _, _, _, _, e, _⟩ := hP; exact SqL.of e) (fun i x σ H3 H4 hi hP hY => ?_) (fun σ H3 hP => ?_)⟩
  · obtain ⟨y2, y3, y4, y5, bs, ts, rfl, T3, x3, ep3, hfs⟩ := hP
    obtain ⟨Tt, xi, xc, rfl, nT, rfl, hxi, hxc⟩ := hY
    cases hxi
    have hxc : (pcs.map V.str)[i]? = some xc := hxc
    rw [List.getElem?_map] at hxc
    obtain ⟨pc, hpc, rfl⟩ := Option.map_eq_some_iff.mp hxc
    have hmem := List.mem_of_getElem? hpc
    obtain ⟨hl, hwn, hww⟩ := hpiece pc hmem
    have x34 : Ex H3 (upd H3 Tt (.tup [.int (i : Nat), .str pc])) := Ex.of (same_upd nT)
    have e4 : (upd H3 Tt (.tup [.int (i : Nat), .str pc])) Tt = some (.tup [.int (i : Nat), .str pc]) := upd_same
    have T4 := T3.ex x34
    have x4 := x3.trans x34
    have ep4 := x34.lst ep3
    generalize upd H3 Tt (.tup [.int (i : Nat), .str pc]) = H4 at x34 e4 T4 x4 ep4 ⊢
    clear T3 x3 ep3 x34
    refine ⟨Tt, _, rfl, SqT.of e4, rfl, .int (i : Nat), _, rfl, .str pc, _, rfl, rfl, ?_⟩
    show tSeq _ _ _ [some (.str t), some (.ref D), some (.int (i : Nat)), some (.str pc), y4, y5, none] H4
    refine ⟨.str pc, rfl, ⟨pc, rfl⟩, pc, " ", rfl, rfl, rfl, Nat.le_trans (Nat.add_le_add_right hl 2) (by rw [sizeLine_eq]; decide), fun Wd nW => ?_⟩
    generalize hws : Txt.split pc " " = ws at hwn hww
    have x45 : Ex H4 (upd H4 Wd (.lst (ws.map V.str))) := Ex.of (same_upd nW)
    have eW : (upd H4 Wd (.lst (ws.map V.str))) Wd = some (.lst (ws.map V.str)) := upd_same
    have T5 := T4.ex x45
    have x5 := x4.trans x45
    have ep5 := x45.lst ep4
    generalize upd H4 Wd (.lst (ws.map V.str)) = H5 at x45 eW T5 x5 ep5 ⊢
    clear T4 x4 ep4 x45
    dsimp only [gName]
    show tSeq _ _ _ [some (.str t), some (.ref D), some (.int (i : Nat)), some (.str pc), some (.ref Wd), y5, none] H5
    refine ⟨.ref Wd, rfl, Wd, ws, rfl, eW, hwn, hww, tabG_ex hT3 x5, fun H6 x6 => ⟨formS ws, rfl, ?_⟩⟩
    cases hfm : formS ws with
    | false =>
      refine iteT ⟨.int (i : Nat), rfl, (by show 1 ≤ 1000; decide), fun ea na => ⟨ea, .int (i : Nat), rfl, upd_same, fun dx hd hn => ?_⟩⟩
      have hd : H6 dx = none := by rw [upd_ne hn] at hd; exact hd
      exact ⟨rfl, dx, _, upd_same, by rw [upd_ne hn]; exact upd_same, hd, qT ⟨pc, hmem, by rw [hws]; exact hfm⟩ dx _ (ex_raise (x5.trans x6) na hd)⟩
    | true =>
    obtain ⟨h3, hnev, hev2⟩ := form_parts hfm
    refine iteF ?_
    have T6 := T5.ex x6
    have eW6 := x6.lst eW
    have ep6 := x6.lst ep5
    have x6 := x5.trans x6
    clear T5 x5 ep5 eW
    dsimp only [tNext]
    show tSeq _ _ _ [some (.str t), some (.ref D), some (.int (i : Nat)), some (.str pc), some (.ref Wd), y5, none] H6
    refine ⟨.ref Wd, rfl, 2, rfl, -2, rfl, Wd, _, rfl, SqL.of eW6, fun S nS => ?_⟩
    have lw : (ws.map V.str).length = ws.length := List.length_map ..
    rw [cut_end _ (by rw [lw]; omega), lw, ← List.map_take]
    have x67 : Ex H6 (upd H6 S (.lst ((ws.take (ws.length - 2)).map V.str))) := Ex.of (same_upd nS)
    have eS : (upd H6 S (.lst ((ws.take (ws.length - 2)).map V.str))) S = some (.lst ((ws.take (ws.length - 2)).map V.str)) := upd_same
    have T7 := T6.ex x67
    have eW7 := x67.lst eW6
    have ep7 := x67.lst ep6
    have x7 := x6.trans x67
    generalize upd H6 S (.lst ((ws.take (ws.length - 2)).map V.str)) = H7 at x67 eS T7 eW7 ep7 x7 ⊢
    clear T6 eW6 ep6 x6 x67
    refine ⟨S, rfl, ⟨_, SqL.of eS⟩, fun U nU => ?_⟩
    have lpre : (ws.take (ws.length - 2)).length ≤ 40001 := by rw [List.length_take]; omega
    have hwp : ∀ w ∈ ws.take (ws.length - 2), w.length ≤ 40000 := fun w hw => hww w (List.mem_of_mem_take hw)
    generalize hpre : ws.take (ws.length - 2) = pre at eS hnev lpre hwp ⊢
    refine lc_list (K := K) (a := S) (xs := pre.map V.str) (fun k H8 => Same H7 H8 ∧ H8 U = some (.lst ((pre.take k).map fun w => valD (numD "never" w)))) ⟨same_upd nU, upd_same⟩ (fun k H8 _ ⟨s8, _⟩ => SqL.of (s8 _ _ eS)) (fun k x H8 hx ⟨s8, eU⟩ => ?_) (fun H8 ⟨s8, eU⟩ => ?_)
    · rw [List.getElem?_map] at hx
      obtain ⟨w, hw, rfl⟩ := Option.map_eq_some_iff.mp hx
      have hwm := List.mem_of_getElem? hw
      have hk : k < pre.length := (List.getElem?_eq_some_iff.mp hw).1
      refine ⟨rfl, yesT ⟨.str w, rfl, w, "never", rfl, hwp w hwm, hnev w hwm, fun H9 s9 => ⟨_, s9 _ _ eU, size20 (by rw [List.length_map, List.length_take]; omega), same_updN (s8.trans s9) nU, ?_⟩⟩⟩
      rw [upd_same, List.take_add_one, hw, List.map_append, num_val]
      rfl
    · rw [List.length_map, List.take_length] at eU
      have T8 := T7.ex (Ex.of s8)
      have eW8 := s8 _ _ eW7
      have ep8 := s8 _ _ ep7
      have x8 := x7.trans (Ex.of s8)
      have U0 : H U = none := by cases z : H U with
        | none => rfl
        | some o =>
          have := x7.free nU
          rw [z] at this
          cases this
      have Uts : U ∉ ts := fun z => by
        obtain ⟨j, hj⟩ := List.getElem?_of_mem z
        have jl := (List.getElem?_eq_some_iff.mp hj).1
        rw [T7.lt] at jl
        obtain ⟨b, hb⟩ : ∃ b, bs[j]? = some b := ⟨_, List.getElem?_eq_getElem (by rw [T7.lb]; exact jl)⟩
        have := (T7.row j b U _ hb hj (List.getElem?_eq_getElem jl)).2
        rw [nU] at this
        cases this
      have UD : U ≠ D := fun z => by rw [z, T7.e] at nU; cases nU
      dsimp only [gName]
      show tDrop _ _ [some (.str t), some (.ref D), some (.int (i : Nat)), some (.str pc), some (.ref Wd), some (.ref U), none] H8
      have hlast : (ws.map V.str) = (ws.take (ws.length - 1)).map V.str ++ [V.str (ws.getD (ws.length - 1) Str.empty)] := by
        have : ws = ws.take (ws.length - 1) ++ [ws.getD (ws.length - 1) Str.empty] := by
          rw [List.getD_eq_getElem?_getD, List.getElem?_eq_getElem (show ws.length - 1 < ws.length by omega)]
          show ws = ws.take (ws.length - 1) ++ [ws[ws.length - 1]]
          have : ws.drop (ws.length - 1) = [ws[ws.length - 1]] := by rw [List.drop_eq_getElem_cons (by omega), List.drop_eq_nil_of_le (by omega)]
          rw [← this, List.take_append_drop]
        conv => lhs; rw [this]
        rw [List.map_append]
        rfl
      have hlm : ws.getD (ws.length - 1) Str.empty ∈ ws := by
        rw [List.getD_eq_getElem?_getD, List.getElem?_eq_getElem (show ws.length - 1 < ws.length by omega)]
        exact List.getElem_mem _
      refine ⟨.ref D, rfl, .inl ⟨rfl, _, SqL.of T8.e⟩, .ref U, rfl, .ref Wd, rfl, 1, rfl, Wd, _, -1, .str (ws.getD (ws.length - 1) Str.empty), rfl, rfl, SqL.of eW8, by rw [hlast]; exact atI_last _ _, _, "ever", rfl, hww _ hlm, hev2, fun H9 s9 => ⟨small_le (by show 2 ≤ 1000; decide), fun b nb => ?_⟩⟩
      have x9 := Ex.of (s9.trans (same_upd (o := .tup [.ref U, numV "ever" (ws.getD (ws.length - 1) Str.empty)]) nb))
      have T9 := T8.ex x9
      have eU9 := x9.lst eU
      have ep9 := x9.lst ep8
      have eb : (upd H9 b (.tup [.ref U, numV "ever" (ws.getD (ws.length - 1) Str.empty)])) b = some (.tup [.ref U, valD (rowS ws).2]) := by rw [upd_same, num_val]; rfl
      have b0 : H b = none := by cases z : H b with
        | none => rfl
        | some o =>
          have := (x8.trans (Ex.of s9)).free nb
          rw [z] at this
          cases this
      have x9 := x8.trans x9
      generalize upd H9 b (.tup [.ref U, numV "ever" (ws.getD (ws.length - 1) Str.empty)]) = H10 at T9 eU9 ep9 eb x9 ⊢
      have eU9 : H10 U = some (.lst ((rowS ws).1.map valD)) := by
        rw [eU9]
        show _ = some (HO.lst (((ws.take (ws.length - 2)).map (numD "never")).map valD))
        rw [hpre, List.map_map]
        rfl
      have lb : bs.length ≤ 40001 := by rw [T9.lb, List.length_map, List.length_take]; omega
      refine ⟨D, _, .ref b, rfl, rfl, T9.e, size20 (by rw [List.length_map]; omega), _, _, _, _, bs ++ [b], ts ++ [U], rfl, ?_, ex_updN x9 T9.p0, by rw [upd_ne pD]; exact ep9, fun z hz => ?_⟩
      rotate_left
      · rw [List.take_add_one, hpc] at hz
        rcases List.mem_append.mp hz with hz | hz
        · exact hfs z hz
        · rw [List.mem_singleton.mp hz, hws]; exact hfm
      rw [List.take_add_one, hpc, List.map_append]
      show Told _ _ _ _ _ (_ ++ [rowS (Txt.split pc " ")])
      rw [hws]
      exact T9.push eb eU9 b0 U0 Uts UD
  · obtain ⟨y2, y3, y4, y5, bs, ts, rfl, T3, x3, ep3, hfs⟩ := hP
    rw [lm, List.take_length] at T3 hfs
    dsimp only []
    show tSeq _ _ _ [some (.str t), some (.ref D), y2, y3, y4, y5, none] H3
    refine ⟨.ref D, rfl, .ref D, _, rfl, T3.rp (fun x hx => by obtain ⟨pc, _, rfl⟩ := List.mem_map.mp hx; exact rowS_plain _), ⟨tabG_ex hT.1 x3, tabG_ex hT.2 x3⟩, fun hb H4 x4 _ => qP hfs hb H4 (x3.trans x4), fun hg H4 x4 _ => ?_⟩
    exact ⟨.ref D, rfl, q hfs hg D bs ts H4 (x3.trans x4) (T3.ex x4)⟩

end
end CL
set_option Elab.async false
set_option linter.all false
set_option maxRecDepth 100000
set_option maxHeartbeats 4000000
namespace CL
open PySem PySem.Spec PyProof.Rows L2 GE TL
/-! ### what is told is written by the very text -/
theorem numL_back : ∀ (k : Nat) (l : List Nat), l.length = k → NumText.AllDigits l → l ≠ [] → l.head? ≠ some 48 → numL (NumText.digitsVal l) = l ∧ 1 ≤ NumText.digitsVal l := by
  intro k
  induction k with
  | zero => intro l hl _ hne; exact absurd (List.eq_nil_of_length_eq_zero hl) hne
  | succ k ih =>
    intro l0 hl hd hne hh
    obtain ⟨l, c, rfl⟩ : ∃ l c, l0 = l ++ [c] := ⟨l0.dropLast, l0.getLast hne, (List.dropLast_concat_getLast _).symm⟩
    have hc := hd c (List.mem_append_right _ (List.mem_singleton.mpr rfl))
    have ev : NumText.digitsVal (l ++ [c]) = NumText.digitsVal l * 10 + (c - 48) := by
      have e1 : NumText.digitsVal [c] = 0 * 10 + (c - 48) := rfl
      have e3 : 10 ^ [c].length = 10 := rfl
      rw [digits_app, e1, e3]
      omega
    cases l with
    | nil =>
      have hc48 : c ≠ 48 := fun z => hh (by rw [z]; rfl)
      rw [ev]
      have e0 : NumText.digitsVal [] * 10 + (c - 48) = c - 48 := by show 0 * 10 + (c - 48) = _; omega
      rw [e0, numL_lt (by omega)]
      exact ⟨by show [48 + (c - 48)] = [c]; congr 1; omega, by omega⟩
    | cons a r =>
      have hl' : (a :: r).length = k := by rw [List.length_append, List.length_singleton] at hl; omega
      obtain ⟨h1, h2⟩ := ih (a :: r) hl' (fun d hd' => hd d (List.mem_append_left _ hd')) (by simp) hh
      generalize NumText.digitsVal (a :: r) = n at ev h1 h2
      rw [ev, numL_step (by omega), show (n * 10 + (c - 48)) / 10 = n by omega, show (n * 10 + (c - 48)) % 10 = c - 48 by omega, h1]
      exact ⟨by congr 1; show [48 + (c - 48)] = [c]; congr 1; omega, by omega⟩
theorem signs_back {l : List Nat} (h : numSigns l = true) : numL (NumText.digitsVal l) = l := by
  simp only [numSigns, Bool.and_eq_true, Bool.or_eq_true, decide_eq_true_eq, List.all_eq_true] at h
  obtain ⟨⟨h1, h2⟩, h3⟩ := h
  rcases h3 with rfl | h3
  · decide
  · refine (numL_back _ l rfl (fun c hc => by have := h1 c hc; simpa [dig] using this) (fun z => by rw [z] at h2; cases h2) fun z => ?_).1
    rw [decide_eq_true z] at h3
    cases h3
theorem word_again {no w : Str} (h : okW no w = true) : wordD no (numD no w) = w := by
  unfold numD
  split
  · rename_i e
    exact e.symm
  · rename_i e
    have hn : isNumS w = true := by
      unfold okW at h
      rw [decide_eq_false e, Bool.false_or] at h
      exact h
    refine ext_tl ?_
    rw [word_num (by omega), Int.toNat_natCast]
    exact signs_back hn
theorem words_again {ws : List Str} (h : formS ws = true) : wordsR (rowS ws) = ws := by
  obtain ⟨h3, hnev, hev⟩ := form_parts h
  have hx : ws[ws.length - 2]? = some (Str.ofString "x") := by
    unfold formS at h
    simp only [Bool.and_eq_true, decide_eq_true_eq] at h
    exact h.1.1.2
  unfold wordsR rowS
  rw [List.map_map, word_again hev]
  have e1 : (ws.take (ws.length - 2)).map (wordD "never" ∘ numD "never") = ws.take (ws.length - 2) := by
    conv => rhs; rw [← List.map_id (ws.take (ws.length - 2))]
    exact List.map_congr_left fun w hw => word_again (hnev w hw)
  rw [e1]
  have e2 : ws.drop (ws.length - 2) = [Str.ofString "x", ws.getD (ws.length - 1) Str.empty] := by
    have hx' : ws[ws.length - 2] = Str.ofString "x" := by
      rw [List.getElem?_eq_getElem (show ws.length - 2 < ws.length by omega)] at hx
      exact Option.some.inj hx
    rw [List.drop_eq_getElem_cons (show ws.length - 2 < ws.length by omega), hx', show ws.length - 2 + 1 = ws.length - 1 by omega, List.drop_eq_getElem_cons (show ws.length - 1 < ws.length by omega), List.drop_eq_nil_of_le (by omega), List.getD_eq_getElem?_getD, List.getElem?_eq_getElem (show ws.length - 1 < ws.length by omega)]
    rfl
  rw [← e2, List.take_append_drop]
theorem text_again {t : Str} (h : ∀ p ∈ Txt.split t ", ", formS (Txt.split p " ") = true) : planS (planD (rowsS t)) = t := by
  rw [planS_rows]
  unfold rowsS
  rw [List.map_map]
  have e : (Txt.split t ", ").map (pieceR ∘ fun p => rowS (Txt.split p " ")) = Txt.split t ", " := by
    conv => rhs; rw [← List.map_id (Txt.split t ", ")]
    refine List.map_congr_left fun p hp => ?_
    show Txt.join " " (wordsR (rowS (Txt.split p " "))) = p
    rw [words_again (h p hp), join_eq, StrLaws.join_split]
  rw [e, join_eq, StrLaws.join_split]
/-- whether a text is told -/
def readT (t : Str) : Bool := (Txt.split t ", ").all (fun p => formS (Txt.split p " ")) && isPlan (planD (rowsS t))
theorem read_again {t : Str} (h : readT t = true) : planS (planD (rowsS t)) = t := by
  simp only [readT, Bool.and_eq_true, List.all_eq_true] at h
  exact text_again h.1
end CL
set_option Elab.async false
set_option linter.all false
set_option pp.maxSteps 700
set_option maxRecDepth 100000
set_option maxHeartbeats 4000000
namespace CL
open PySem PySem.Spec PyProof.Rows L2 GE TL
abbrev sLRd : Stmt := topS 56
abbrev sBent : Stmt := topS 57
abbrev nLRd : List Str := ["text", "found"]
abbrev nBent : List Str := ["bag", "text", "at", "sign", "some"]
theorem scLRd : FnScope nLRd ["text"] (defScope sLRd) := ⟨rfl, rfl, rfl, by decide +kernel, rfl, by decide +kernel, by decide +kernel⟩
theorem scBent : FnScope nBent ["bag", "text"] (defScope sBent) := ⟨rfl, rfl, rfl, by decide +kernel, rfl, by decide +kernel, by decide +kernel⟩
/-- a def that may raise, called in a try -/
theorem pe_calS {X : Cx} {k : Nat} {x : Str} {ps : List Str} {sp : Sp} {E : L2.St → XK} {p pos : Pos} {e : Expr} {es : List Expr} {t : TA} (C : CalX X.prog X.w X.K X.mg X.base k x ps sp) (hr : Room k X.A) (hg : Gl X x) (hx : ∀ σ, PassesAt (L2.CX X.prog X.w) X σ (E σ)) (ha : PA X (e :: es) t)
    (hdb : (x == ("__debug__" : Str)) = false := by decide) (he : starEach (e :: es) X.env = (false, eval e X.env) :: starEach es X.env := by rfl) (hpl : (backTo pos (starEach es X.env)).any (·.1) = false := by rfl) : PE X (.Call (.Name x p) (e :: es) [] pos) (tCallS sp E t) := by
  obtain ⟨f, fd, a1, a2, a3, a4⟩ := C.ex
  exact pe_callS a4 hr hg a1 a2 a3 hx ha hdb he hpl
def spLRd (P1 P2 P3 : Addr) : Sp := fun vs H Q _ => ∃ t : Str, vs = [.str t] ∧ Fits t ∧ Tb P1 P2 H ∧ GxR.TabG H P3 ∧
  (readT t = true → ∀ p bs ts H', Ex H H' → Told H H' p bs ts (rowsS t) → Q (.ref p) H') ∧ (readT t = false → ∀ H', Ex H H' → Q .non H')
theorem readT_of {t : Str} : readT t = true ↔ (∀ p ∈ Txt.split t ", ", formS (Txt.split p " ") = true) ∧ isPlan (planD (rowsS t)) = true := by
  unfold readT
  rw [Bool.and_eq_true, List.all_eq_true]
theorem cut_to_tl (z : Str) (k : Nat) (h : k ≤ z.length) : tl (cutS z none (some (k : Int))) = (tl z).take k := by
  show ((z.cps.toList.drop (HT.sIx z.length 0 none)).take (HT.sIx z.length z.length (some (k : Int)) - HT.sIx z.length 0 none)).toArray.toList = _
  rw [HT.sIx_nat, Nat.min_eq_left h]
  rfl
theorem cut_from_len (z : Str) (k : Nat) : (cutS z (some (k : Int)) none).length ≤ z.length - k := by
  show (((z.cps.toList.drop (HT.sIx z.length 0 (some (k : Int)))).take (HT.sIx z.length z.length none - HT.sIx z.length 0 (some (k : Int)))).toArray).size ≤ _
  rw [List.size_toArray, List.length_take, List.length_drop, HT.sIx_nat]
  have : z.cps.toList.length = z.length := (len_tl z).symm
  rw [this]
  show min (z.length - min k z.length) _ ≤ _
  omega
theorem app_len (x y : Str) : (x ++ y).length = x.length + y.length := by rw [len_tl, len_tl, len_tl, tl_append, List.length_append]
def spBent (r : Bg) : Sp := fun vs H Q _ => ∃ (t : Str) (n : Nat), vs = [.ref r.a, .str t] ∧ BagAt n H r ∧ n + 3 ≤ M60 ∧ t.length ≤ 20000 ∧ ∀ t' H', BagAt (n + 3) H' r → Mv r H H' → t'.length ≤ t.length + 1 → Q (.str t') H'
section
variable {P : Program} {w : World} {K : PySem.W.Frag} {mg : Str → Option Value} {base : Heap}
theorem ok_lrd {f P1 P2 P3 LE CT C : Addr} {fd : FuncData} (F : Fun K "_law_read" "_law_read" sLRd f fd) (gL : mg "LineError" = some (.ref LE)) (h1 : PySem.W.exmOne K (.ref CT) (.ref LE) = some true) (h2 : PySem.W.exmOne K (.ref C) (.ref LE) = some true) (CR : CalX P w K mg base 9 "read_plan" ["text"] (spReadX P1 P2 P3 CT C)) :
    FnOk P w K mg base CX0 10 f fd ["text"] (spLRd P1 P2 P3) := by
  refine F.ok scLRd (fun vs H Q E ⟨t, e, _⟩ => by rw [e]; rfl) (fun cdv A outer s H vs Q E hr h => ?_)
  obtain ⟨t, rfl, hF, hT, hT3, qy, qn⟩ := h
  have nd := scLRd.nd
  refine ⟨_, pss_cons (ps_set (i := 1) nd rfl (.inl rfl) pe_non) (pss_cons (ps_try_only (Wout := fun _ _ _ _ => False) rfl rfl ⟨rfl, by decide, .inl gL⟩ takes0
    (fun W pn xe tk _ => pss_one (ps_set (i := 1) nd rfl (.inl rfl) (pe_calS CR hr (by rfl) (fun σ => passAt tk σ) (pa_cons (pv 0) pa_nil))))
    (fun a oe cls d pn _ _ => pss_one (ps_set (i := 1) nd rfl (.inl rfl) pe_non))) (pss_one (ps_ret (pv 1)))), ?_⟩
  show tSeq _ _ _ [some (.str t), some .non] H
  refine ⟨.str t, rfl, t, rfl, hF, hT, hT3, fun hb d H' x' => ⟨true, h1, fun _ a ha => ?_, fun q => nomatch q⟩, fun hf hp H' x' => ⟨true, h2, fun _ a ha => ?_, fun q => nomatch q⟩, fun hf hp p bs ts H' x' TT => ?_⟩
  · have : readT t = false := by
      cases e : readT t with
      | false => rfl
      | true =>
        obtain ⟨p, hp, hpf⟩ := hb
        rw [(readT_of.mp e).1 p hp] at hpf
        cases hpf
    exact ⟨.non, rfl, qn this H' x'⟩
  · have : readT t = false := by
      cases e : readT t with
      | false => rfl
      | true => rw [(readT_of.mp e).2] at hp; cases hp
    exact ⟨.non, rfl, qn this H' x'⟩
  · exact ⟨.ref p, rfl, qy (readT_of.mpr ⟨hf, hp⟩) p bs ts H' x' TT⟩
theorem ok_bent {f : Addr} {r : Bg} {fd : FuncData} (F : Fun K "_law_bent" "_law_bent" sBent f fd) (T : Nm mg) (CD : Cal P w K mg base 2 "_law_draw" ["bag", "many"] (spDraw r)) : FnOk P w K mg base CX0 3 f fd ["bag", "text"] (spBent r) := by
  refine F.ok scBent (fun vs H Q E ⟨t, n, e, _⟩ => by rw [e]; rfl) (fun cdv A outer s H vs Q E hr h => ?_)
  obtain ⟨t, n, rfl, hb, hn, hl, q⟩ := h
  have nd := scBent.nd
  have t140 : (2 : Int) ^ 140 = 1393796574908163946345982392040522594123776 := by decide +kernel
  refine ⟨_, (pss_cons (ps_set (i := 2) nd rfl (.inl rfl) (pe_cal (CD.mono (by decide)) hr (by rfl) (pa_cons (pv 0) (pa_cons (pe_op op_add (pe_callB call_len_str (by rfl) T.len PySem.boot_len (pa_cons (pv 1) pa_nil)) pe_int) pa_nil))))
      (pss_cons (ps_set (i := 3) nd rfl (.inl rfl) (pe_ix ix_str pe_str (pe_cal (CD.mono (by decide)) hr (by rfl) (pa_cons (pv 0) (pa_cons pe_int pa_nil))) (fun _ _ => rfl)))
      (pss_cons (ps_set (i := 4) nd rfl (.inl rfl) (pe_lst (pa_cons (pe_op op_add_str (pe_op op_add_str (pe_slice sl_str (pv 1) po_none (po_some (pv 2))) (pv 3)) (pe_slice sl_str (pv 1) (po_some (pe_op op_add (pv 2) pe_int)) po_none)) (pa_cons (pe_op op_add_str (pe_slice sl_str (pv 1) po_none (po_some (pv 2))) (pe_slice sl_str (pv 1) (po_some (pe_op op_add (pv 2) pe_int)) po_none)) (pa_cons (pe_op op_add_str (pe_op op_add_str (pe_slice sl_str (pv 1) po_none (po_some (pv 2))) (pv 3)) (pe_slice sl_str (pv 1) (po_some (pv 2)) po_none)) pa_nil)))))
      (pss_one (ps_ret (pe_ix ix_list (pv 4) (pe_cal (CD.mono (by decide)) hr (by rfl) (pa_cons (pv 0) (pa_cons pe_int pa_nil))) (fun _ _ => rfl))))))), ?_⟩
  have sz : ∀ {n : Nat}, n ≤ 50000 → n ≤ sizeLine := fun h => Nat.le_trans h (by rw [sizeLine_eq]; decide)
  refine ⟨.ref r.a, rfl, .str t, rfl, t, rfl, sz (by omega), _, 1, rfl, rfl, _, n, rfl, hb, by omega, by omega, by rw [t140]; omega, fun x H1 b1 m1 x0 x1 => ?_⟩
  obtain ⟨k, rfl⟩ : ∃ k : Nat, x = (k : Int) := ⟨x.toNat, by omega⟩
  have hk : k ≤ t.length := by omega
  dsimp only [gName]
  show tSeq _ _ _ [some (.ref r.a), some (.str t), some (.int (k : Int)), none, none] H1
  refine ⟨.ref r.a, rfl, 17, n + 1, rfl, b1, by omega, by decide, by decide, fun y H2 b2 m2 y0 y1 => ?_⟩
  obtain ⟨j, rfl⟩ : ∃ j : Nat, y = (j : Int) := ⟨y.toNat, by omega⟩
  have lsg : tl (Str.ofString "0123456789 ,xnevr") = [48, 49, 50, 51, 52, 53, 54, 55, 56, 57, 32, 44, 120, 110, 101, 118, 114] := by decide +kernel
  obtain ⟨c, hc⟩ : ∃ c, (tl (Str.ofString "0123456789 ,xnevr"))[j]? = some c := ⟨_, List.getElem?_eq_getElem (by rw [lsg]; show j < 17; omega)⟩
  refine ⟨_, _, c, rfl, rfl, (by rw [len_tl, lsg]; exact sz (by decide)), atI_nat hc, ?_⟩
  dsimp only [gName]
  show tSeq _ _ _ [some (.ref r.a), some (.str t), some (.int (k : Int)), some (.str ⟨#[c]⟩), none] H2
  have l1 : (cutS t none (some (k : Int))).length = k := by rw [len_tl, cut_to_tl t k hk, List.length_take, ← len_tl]; omega
  have l2 := cut_from_len t k
  have l3 : (cutS t (some ((k : Int) + 1)) none).length ≤ t.length - (k + 1) := cut_from_len t (k + 1)
  have l4 : (⟨#[c]⟩ : Str).length = 1 := rfl
  have n1 : (cutS t none (some (k : Int)) ++ (⟨#[c]⟩ : Str)).length = k + 1 := by rw [app_len, l1, l4]
  refine ⟨.str t, rfl, .int (k : Int), rfl, (k : Int), rfl, t, rfl, sz (by omega), .str ⟨#[c]⟩, rfl, _, _, rfl, rfl, sz (by rw [l1, l4]; omega), .str t, rfl, .int (k : Int), rfl, (k : Int), 1, rfl, rfl, (k : Int) + 1, rfl, t, rfl, sz (by omega), _, _, rfl, rfl, sz (by rw [n1]; omega), ?_⟩
  refine ⟨.str t, rfl, .int (k : Int), rfl, (k : Int), rfl, t, rfl, sz (by omega), .str t, rfl, .int (k : Int), rfl, (k : Int), 1, rfl, rfl, (k : Int) + 1, rfl, t, rfl, sz (by omega), _, _, rfl, rfl, sz (by rw [l1]; omega), ?_⟩
  refine ⟨.str t, rfl, .int (k : Int), rfl, (k : Int), rfl, t, rfl, sz (by omega), .str ⟨#[c]⟩, rfl, _, _, rfl, rfl, sz (by rw [l1, l4]; omega), .str t, rfl, .int (k : Int), rfl, (k : Int), rfl, t, rfl, sz (by omega), _, _, rfl, rfl, sz (by rw [n1]; omega), ?_⟩
  refine ⟨small_le (by show 3 ≤ 1000; decide), fun p np => ?_⟩
  generalize ht1 : cutS t none (some (k : Int)) ++ (⟨#[c]⟩ : Str) ++ cutS t (some ((k : Int) + 1)) none = t1
  generalize ht2 : cutS t none (some (k : Int)) ++ cutS t (some ((k : Int) + 1)) none = t2
  generalize ht3 : cutS t none (some (k : Int)) ++ (⟨#[c]⟩ : Str) ++ cutS t (some (k : Int)) none = t3
  have e1 : t1.length ≤ t.length + 1 := by rw [← ht1, app_len, n1]; omega
  have e2 : t2.length ≤ t.length + 1 := by rw [← ht2, app_len, l1]; omega
  have e3 : t3.length ≤ t.length + 1 := by rw [← ht3, app_len, n1]; omega
  have s3 := same_upd (o := .lst [.str t1, .str t2, .str t3]) np
  have ep : (upd H2 p (.lst [.str t1, .str t2, .str t3])) p = some (.lst [.str t1, .str t2, .str t3]) := upd_same
  have b3 := b2.same s3
  have m3 := (m1.trans m2).trans (Mv.of s3)
  have pr := (b2.new np).a
  dsimp only [gName]
  show tRet _ _ [some (.ref r.a), some (.str t), some (.int (k : Int)), some (.str ⟨#[c]⟩), some (.ref p)] (upd H2 p (.lst [.str t1, .str t2, .str t3]))
  generalize upd H2 p (.lst [.str t1, .str t2, .str t3]) = H3 at ep b3 m3 ⊢
  refine ⟨.ref p, rfl, .ref r.a, rfl, 3, n + 2, rfl, b3, by omega, by decide, by decide, fun z H4 b4 m4 z0 z1 => ?_⟩
  have ep4 := m4.keep p _ pr ep
  obtain ⟨t', ht', hl'⟩ : ∃ t', atI [V.str t1, .str t2, .str t3] z = some (.str t') ∧ t'.length ≤ t.length + 1 := by
    rcases (by omega : z = 0 ∨ z = 1 ∨ z = 2) with rfl | rfl | rfl
    · exact ⟨t1, rfl, e1⟩
    · exact ⟨t2, rfl, e2⟩
    · exact ⟨t3, rfl, e3⟩
  exact ⟨p, _, z, .str t', rfl, rfl, SqL.of ep4, ht', q t' H4 b4 (m3.trans m4) hl'⟩
end
end CL
set_option Elab.async false
set_option linter.all false
set_option maxRecDepth 100000
set_option maxHeartbeats 4000000
namespace CL
open PySem PySem.Spec PyProof.Rows L2 GE
abbrev sMany : Stmt := topS 29
theorem scMany : FnScope ["pieces"] ["pieces"] (defScope sMany) := ⟨rfl, rfl, rfl, by decide +kernel, rfl, by decide +kernel, by decide +kernel⟩
abbrev sPieceNo : Stmt := topS 30
theorem scPieceNo : FnScope ["pieces", "person", "at"] ["pieces", "person"] (defScope sPieceNo) := ⟨rfl, rfl, rfl, by decide +kernel, rfl, by decide +kernel, by decide +kernel⟩
abbrev sTurnAt : Stmt := topS 31
theorem scTurnAt : FnScope ["pieces", "person", "at", "first", "past", "turns"] ["pieces", "person"] (defScope sTurnAt) := ⟨rfl, rfl, rfl, by decide +kernel, rfl, by decide +kernel, by decide +kernel⟩
abbrev sPatAt : Stmt := topS 32
theorem scPatAt : FnScope ["pieces", "person", "at", "turn"] ["pieces", "person"] (defScope sPatAt) := ⟨rfl, rfl, rfl, by decide +kernel, rfl, by decide +kernel, by decide +kernel⟩
/-- the pieces stand as a list at a -/
structure PcsAt (H : Hp) (a : Addr) (ps : List PieceT) : Prop where
  ex : ∃ xs, H a = some (.lst xs) ∧ RpAll H xs (ps.map pieceD)
theorem PcsAt.of {H : Hp} {v : V} {ps : List PieceT} (h : Rp H v (.list (ps.map pieceD))) : ∃ a, v = .ref a ∧ PcsAt H a ps := by
  cases h with
  | lst h1 h2 => exact ⟨_, rfl, _, h1, h2⟩
def optV : Option Int → V
  | some i => .int i
  | none => .non
/-- a piece that stands -/
theorem pc_at {H : Hp} {a : Addr} {ps : List PieceT} {i : Nat} {pc : PieceT} (h : PcsAt H a ps) (e : ps[i]? = some pc) : ∃ xs b t zs, StSeq H a xs ∧ xs.length = ps.length ∧ xs[i]? = some (.ref b) ∧ H b = some (.tup [.int pc.1, optV pc.2.1, .ref t]) ∧ H t = some (.tup zs) ∧ RpAll H zs pc.2.2 := by
  obtain ⟨xs, h1, h2⟩ := h.ex
  have hl : xs.length = ps.length := by rw [h2.length, List.length_map]
  have hi : i < xs.length := by
    obtain ⟨z, _⟩ := List.getElem?_eq_some_iff.mp e
    omega
  obtain ⟨d, hd, hr⟩ := h2.get (List.getElem?_eq_getElem hi)
  obtain rfl : d = pieceD pc := by
    rw [List.getElem?_map, e] at hd
    exact (Option.some.inj hd).symm
  obtain ⟨f, po, ts⟩ := pc
  generalize hv : xs[i] = v at hr
  cases hr with
  | tup hb hys =>
    cases hys with
    | cons k1 k2 =>
      cases k2 with
      | cons k3 k4 =>
        cases k4 with
        | cons k5 k6 =>
          cases k6
          cases k1
          cases k5 with
          | tup ht hz =>
            have z : ∀ v, Rp H v (optD po) → v = optV po := fun v h => by cases po <;> cases h <;> rfl
            rw [z _ k3] at hb
            exact ⟨xs, _, _, _, ⟨.inl h1⟩, hl, by rw [List.getElem?_eq_getElem hi, hv], hb, ht, hz⟩
def spMany : Sp := fun vs H Q _ => ∃ a ps pc, vs = [.ref a] ∧ PcsAt H a (ps ++ [pc]) ∧ Q (optV pc.2.1) H
section
variable {P : Program} {w : World} {K : PySem.W.Frag} {mg : Str → Option Value} {base : Heap}
theorem ok_many {f : Addr} {fd : FuncData} (F : Fun K "many_in" "many_in" sMany f fd) : FnOk P w K mg base CX0 1 f fd ["pieces"] spMany := by
  refine F.ok scMany (fun vs H Q E ⟨a, ps, pc, e, _⟩ => by rw [e]; rfl) (fun cdv A outer s H vs Q E hr h => ?_)
  obtain ⟨a, ps, pc, rfl, hp, q⟩ := h
  refine ⟨_, pss_one (ps_ret (pe_ix ix_seq (pe_ix ix_seq (pv 0) (pe_un un_neg pe_int) (fun _ _ => rfl)) pe_int (fun _ _ => rfl))), ?_⟩
  obtain ⟨xs, b, t, zs, st, hl, hx, hb, _⟩ := pc_at (i := ps.length) (pc := pc) hp (by simp)
  obtain ⟨ys, z, rfl⟩ : ∃ ys z, xs = ys ++ [z] := ⟨xs.dropLast, xs.getLast (by intro z; rw [z] at hl; simp at hl), (List.dropLast_concat_getLast _).symm⟩
  have ey : ys.length = ps.length := by simpa using hl
  obtain rfl : z = .ref b := by
    rw [← ey] at hx
    simpa using hx
  have e1 : atI (ys ++ [V.ref b]) (-1) = some (.ref b) := atI_last _ _
  refine ⟨.ref a, rfl, 1, rfl, ?_⟩
  have fin : rIx K (.ref b) (.int 1) H Q := rix_of (i := 1) ⟨.inr hb⟩ rfl q
  rcases st.or with h | h
  · exact .inl ⟨a, _, -1, .ref b, rfl, rfl, SqL.of h, e1, fin⟩
  · exact .inr (.inl ⟨a, _, -1, .ref b, rfl, rfl, SqT.of h, e1, fin⟩)
/-- whether one of that number comes by the piece, or by one ahead of it -/
def comes (n : Int) (x : PieceT) : Bool := match x.2.1 with
  | none => true
  | some m => decide (n < m)
def spPieceNo : Sp := fun vs H Q _ => ∃ a n ps pc, vs = [.ref a, .int n] ∧ PcsAt H a ps ∧ ps.find? (comes n) = some pc ∧ ∀ i : Nat, ps[i]? = some pc → Q (.int (i : Int)) H
theorem ok_pieceNo {f : Addr} {fd : FuncData} (F : Fun K "piece_number" "piece_number" sPieceNo f fd) : FnOk P w K mg base CX0 1 f fd ["pieces", "person"] spPieceNo := by
  refine F.ok scPieceNo (fun vs H Q E ⟨a, n, ps, pc, e, _⟩ => by rw [e]; rfl) (fun cdv A outer s H vs Q E hr h => ?_)
  obtain ⟨a, n, ps, pc, rfl, hp, hf, q⟩ := h
  have nd := scPieceNo.nd
  refine ⟨_, (pss_cons (ps_set (i := 2) nd rfl (.inl rfl) pe_int) (pss_cons (ps_while PassesOwn.never (PW.pt (pw_and (pt_cmp (pc_notN (pe_ix ix_seq (pe_ix ix_seq (pv 0) (pv 2) (fun _ _ => rfl)) pe_int (fun _ _ => rfl)))) (pw_and1 (pt_cmpR op_le (pe_ix ix_seq (pe_ix ix_seq (pv 0) (pv 2) (fun _ _ => rfl)) pe_int (fun _ _ => rfl)) (pv 1) (nomark _))))) (pss_one (ps_aug (i := 2) nd rfl (.inl rfl) pe_int ip_add)))
    (pss_one (ps_ret (pv 2))))), ?_⟩
  refine ⟨fun m σ H' => ∃ i : Nat, m + i = ps.length ∧ σ = [some (.ref a), some (.int n), some (.int (i : Int))] ∧ H' = H ∧ (ps.drop i).find? (comes n) = some pc, ⟨ps.length, 0, rfl, rfl, rfl, hf⟩, fun m σ H' hW => ?_⟩
  obtain ⟨i, hm, rfl, rfl, hfi⟩ := hW
  have li : i < ps.length := by
    by_cases z : i < ps.length
    · exact z
    · rw [List.drop_eq_nil_of_le (by omega)] at hfi
      cases hfi
  obtain ⟨x, hx⟩ : ∃ x, ps[i]? = some x := ⟨_, List.getElem?_eq_getElem li⟩
  have ed : ps.drop i = x :: ps.drop (i + 1) := by
    rw [List.drop_eq_getElem_cons li]
    rw [List.getElem?_eq_getElem li] at hx
    rw [Option.some.inj hx]
  obtain ⟨xs, b, t, zs, st, hl, hxi, hb, ht, hz⟩ := pc_at hp hx
  have go : ∀ {R : VK}, R (optV x.2.1) H' → rIx K (.ref a) (.int (i : Int)) H' fun y H1 => rIx K y (.int 1) H1 R := fun {R} h => rix_of st hxi (rix_of (i := 1) ⟨.inr hb⟩ rfl h)
  rw [ed, List.find?_cons] at hfi
  refine ⟨.ref a, rfl, .int (i : Int), rfl, go ?_⟩
  cases hpo : x.2.1 with
  | none =>
    have hc : comes n x = true := by unfold comes; rw [hpo]
    rw [hc] at hfi
    obtain rfl : x = pc := Option.some.inj hfi
    exact ⟨_, rfl, iteF ⟨.int (i : Int), rfl, q i hx⟩⟩
  | some k =>
    refine ⟨_, rfl, iteT ⟨.ref a, rfl, .int (i : Int), rfl, go ?_⟩⟩
    rw [hpo]
    refine ⟨.int n, rfl, k, n, rfl, rfl, decide (k ≤ n), rfl, ?_⟩
    have hc : comes n x = decide (n < k) := by unfold comes; rw [hpo]
    rw [hc] at hfi
    refine ite2 (fun e => ?_) (fun e => ?_)
    · have e1 : decide (n < k) = false := decide_eq_false (by have := of_decide_eq_true e; omega)
      rw [e1] at hfi
      refine ⟨fun σ' H'' => σ' = [some (.ref a), some (.int n), some (.int ((i : Int) + 1))] ∧ H'' = H', fun σ' H'' z => ⟨m - 1, by omega, i + 1, by omega, z.1, z.2, hfi⟩, ?_⟩
      exact ⟨.int (i : Int), rfl, i, 1, rfl, rfl, rfl, rfl⟩
    · have e1 : decide (n < k) = true := decide_eq_true (by
        have : ¬ k ≤ n := fun z => e (decide_eq_true z)
        omega)
      rw [e1] at hfi
      obtain rfl : x = pc := Option.some.inj hfi
      exact ⟨.int (i : Int), rfl, q i hx⟩
/-- the number of its piece, its place in the round -/
def spTurnAt : Sp := fun vs H Q _ => ∃ a n ps pc, vs = [.ref a, .int n] ∧ PcsAt H a ps ∧ ps.find? (comes n) = some pc ∧ 0 < pc.2.2.length ∧ ∀ (i : Nat) p H', ps[i]? = some pc → Same H H' → H' p = some (.tup [.int (i : Int), .int ((n - pc.1) % (pc.2.2.length : Int))]) → Q (.ref p) H'
theorem ok_turnAt {f : Addr} {fd : FuncData} (F : Fun K "turn_at" "turn_at" sTurnAt f fd) (T : Nm mg) (CA : Cal P w K mg base 1 "piece_number" ["pieces", "person"] spPieceNo) : FnOk P w K mg base CX0 2 f fd ["pieces", "person"] spTurnAt := by
  refine F.ok scTurnAt (fun vs H Q E ⟨a, n, ps, pc, e, _⟩ => by rw [e]; rfl) (fun cdv A outer s H vs Q E hr h => ?_)
  obtain ⟨a, n, ps, pc, rfl, hp, hf, hl, q⟩ := h
  have nd := scTurnAt.nd
  refine ⟨_, (pss_cons (ps_set (i := 2) nd rfl (.inl rfl) (pe_cal CA hr (by rfl) (pa_cons (pv 0) (pa_cons (pv 1) pa_nil))))
    (pss_cons (ps_asg (pe_ix ix_seq (pv 0) (pv 2) (fun _ _ => rfl)) (pg_tup rfl (pgs_cons (pg_name (i := 3) nd rfl (.inl rfl)) (pgs_cons (pg_name (i := 4) nd rfl (.inl rfl)) (pgs_cons (pg_name (i := 5) nd rfl (.inl rfl)) pgs_nil)))))
    (pss_one (ps_ret (pe_tup (pa_cons (pv 2) (pa_cons (pe_op op_mod (pe_op op_sub (pv 1) (pv 3)) (pe_callB call_len_seq (by rfl) T.len PySem.boot_len (pa_cons (pv 5) pa_nil))) pa_nil))))))), ?_⟩
  refine ⟨.ref a, rfl, .int n, rfl, a, n, ps, pc, rfl, hp, hf, fun i hi => ?_⟩
  obtain ⟨xs, b, t, zs, st, _, hx, hb, ht, hz⟩ := pc_at hp hi
  have hzl := hz.length
  have st2 : StSeq H t zs := ⟨.inr ht⟩
  refine ⟨.ref a, rfl, .int (i : Int), rfl, rix_of st hx ?_⟩
  refine ⟨b, _, rfl, SqT.of hb, rfl, .int pc.1, _, rfl, optV pc.2.1, _, rfl, .ref t, _, rfl, rfl, ?_⟩
  refine ⟨.int (i : Int), rfl, .int n, rfl, .int pc.1, rfl, n, pc.1, rfl, rfl, .ref t, rfl, t, zs, rfl, st2.sq, n - pc.1, (zs.length : Int), rfl, rfl, by show (0 : Int) < (zs.length : Int); omega, small_le (by show 2 ≤ 1000; decide), fun p np => ?_⟩
  exact q i p _ hi (same_upd np) (by rw [upd_same, hzl])
def spPatAt : Sp := fun vs H Q _ => ∃ a n ps pc d, vs = [.ref a, .int n] ∧ PcsAt H a ps ∧ ps.find? (comes n) = some pc ∧ 0 < pc.2.2.length ∧ pc.2.2[((n - pc.1) % (pc.2.2.length : Int)).toNat]? = some d ∧ ∀ v H', Same H H' → Rp H' v d → Q v H'
theorem ok_patAt {f : Addr} {fd : FuncData} (F : Fun K "patience_at" "patience_at" sPatAt f fd) (CA : Cal P w K mg base 2 "turn_at" ["pieces", "person"] spTurnAt) : FnOk P w K mg base CX0 3 f fd ["pieces", "person"] spPatAt := by
  refine F.ok scPatAt (fun vs H Q E ⟨a, n, ps, pc, d, e, _⟩ => by rw [e]; rfl) (fun cdv A outer s H vs Q E hr h => ?_)
  obtain ⟨a, n, ps, pc, d, rfl, hp, hf, hl, hd, q⟩ := h
  have nd := scPatAt.nd
  refine ⟨_, (pss_cons (ps_asg (pe_cal CA hr (by rfl) (pa_cons (pv 0) (pa_cons (pv 1) pa_nil))) (pg_tup rfl (pgs_cons (pg_name (i := 2) nd rfl (.inl rfl)) (pgs_cons (pg_name (i := 3) nd rfl (.inl rfl)) pgs_nil))))
    (pss_one (ps_ret (pe_ix ix_seq (pe_ix ix_seq (pe_ix ix_seq (pv 0) (pv 2) (fun _ _ => rfl)) pe_int (fun _ _ => rfl)) (pv 3) (fun _ _ => rfl))))), ?_⟩
  refine ⟨.ref a, rfl, .int n, rfl, a, n, ps, pc, rfl, hp, hf, hl, fun i p H' hi s ep => ?_⟩
  obtain ⟨xs, b, t, zs, st, _, hx, hb, ht, hz⟩ := pc_at hp hi
  have hzl := hz.length
  obtain ⟨v, hv⟩ : ∃ v, zs[((n - pc.1) % (pc.2.2.length : Int)).toNat]? = some v := by
    obtain ⟨z, _⟩ := List.getElem?_eq_some_iff.mp hd
    exact ⟨_, List.getElem?_eq_getElem (by rw [hzl]; exact z)⟩
  obtain ⟨d', hd', hR⟩ := hz.get hv
  rw [hd] at hd'
  cases hd'
  have e0 : 0 ≤ (n - pc.1) % (pc.2.2.length : Int) := Int.emod_nonneg _ (by omega)
  have e1 : ((n - pc.1) % (pc.2.2.length : Int)) = ((((n - pc.1) % (pc.2.2.length : Int)).toNat : Nat) : Int) := by rw [Int.toNat_of_nonneg e0]
  refine ⟨p, _, rfl, SqT.of ep, rfl, .int (i : Int), _, rfl, .int ((n - pc.1) % (pc.2.2.length : Int)), _, rfl, rfl, ?_⟩
  refine ⟨.ref a, rfl, .int (i : Int), rfl, rix_of (st.ex (Ex.of s)) hx (rix_of (i := 2) ⟨.inr (s _ _ hb)⟩ rfl ⟨.int ((n - pc.1) % (pc.2.2.length : Int)), rfl, ?_⟩)⟩
  rw [e1]
  exact rix_of ⟨.inr (s _ _ ht)⟩ hv (q v H' s (Rp.sm s hR))
end
end CL
set_option Elab.async false
set_option linter.all false
set_option maxRecDepth 100000
set_option maxHeartbeats 4000000
namespace CL
open PySem PySem.Spec PyProof.Rows L2 GE
abbrev sCkP : Stmt := topS 33
theorem scCkP : FnScope ["pieces", "person", "many"] ["pieces", "person"] (defScope sCkP) := ⟨rfl, rfl, rfl, by decide +kernel, rfl, by decide +kernel, by decide +kernel⟩
abbrev sCkM : Stmt := topS 34
theorem scCkM : FnScope ["pieces", "moment", "many"] ["pieces", "moment"] (defScope sCkM) := ⟨rfl, rfl, rfl, by decide +kernel, rfl, by decide +kernel, by decide +kernel⟩
/-- whether anything is the number of one that comes before past, or ever -/
def under : Option Int → Int → Bool
  | none, _ => true
  | some m, n => decide (n < m)
def personOk (past : Option Int) : PyData → Bool
  | .int n => decide (0 ≤ n) && under past n
  | _ => false
theorem personOk_int (past : Option Int) (n : Int) : personOk past (.int n) = (decide (0 ≤ n) && under past n) := rfl
def spCkP (C : Addr) : Sp := fun vs H Q E => ∃ a v ps pc d, vs = [.ref a, v] ∧ PcsAt H a (ps ++ [pc]) ∧ Rp H v d ∧ (personOk pc.2.1 d = false → ∀ H', Same H H' → E (.ref C) none H') ∧ (personOk pc.2.1 d = true → ∀ H', Same H H' → Q .non H')
/-- whether anything is a moment by which no more come than come -/
def upto : Option Int → Int → Bool
  | none, _ => true
  | some m, n => decide (n ≤ m)
def momentOk (past : Option Int) : PyData → Bool
  | .int n => decide (0 ≤ n) && decide (n ≤ GREAT) && upto past n
  | _ => false
theorem momentOk_int (past : Option Int) (n : Int) : momentOk past (.int n) = (decide (0 ≤ n) && decide (n ≤ GREAT) && upto past n) := rfl
def spCkM (C : Addr) : Sp := fun vs H Q E => ∃ a v ps pc d, vs = [.ref a, v] ∧ PcsAt H a (ps ++ [pc]) ∧ Rp H v d ∧ (momentOk pc.2.1 d = false → ∀ H', Same H H' → E (.ref C) none H') ∧ (momentOk pc.2.1 d = true → ∀ H', Same H H' → Q .non H')
section
variable {P : Program} {w : World} {K : PySem.W.Frag} {mg : Str → Option Value} {base : Heap}
theorem ok_ckp {f C : Addr} {fd : FuncData} (F : Fun K "check_person" "check_person" sCkP f fd) (XN : ExcC K mg "NoPerson" C) (CM : Cal P w K mg base 1 "many_in" ["pieces"] spMany) (CW : Cal P w K mg base 1 "is_whole" ["thing"] (spOne isWhole)) :
    FnOk P w K mg base (L2.CX P w) 2 f fd ["pieces", "person"] (spCkP C) := by
  refine F.okX scCkP (fun vs H Q E ⟨a, v, ps, pc, d, e, _⟩ => by rw [e]; rfl) (fun cdv A outer s H vs Q E hr h => ?_)
  obtain ⟨a, v, ps, pc, d, rfl, hp, hR, qE, q⟩ := h
  have nd := scCkP.nd
  refine ⟨_, (pss_cons (ps_set (i := 2) nd rfl (.inl rfl) (pe_cal CM hr (by rfl) (pa_cons (pv 0) pa_nil)))
    (pss_one (ps_if (PW.pt (pw_or (pt_not (pt_val (pe_cal CW hr (by rfl) (pa_cons (pv 1) pa_nil)))) (pw_or (pt_cmpR op_lt (pv 1) pe_int (nomark _)) (pw_or1 (PW.pt (pw_and (pt_cmp (pc_notN (pv 2))) (pw_and1 (pt_cmpR op_ge (pv 1) (pv 2) (nomark _))))))))) (pss_one (ps_raise rfl (takes_of rfl rfl rfl rfl) (pmk_own PySem.F.excBase_ValueError XN.x XN.g XN.k (raises_own XN.b XN.t) rfl))) pss_nil))), ?_⟩
  refine ⟨.ref a, rfl, a, ps, pc, rfl, hp, v, rfl, v, d, rfl, hR, fun H1 s1 => ⟨isWhole d, rfl, ?_⟩⟩
  cases hR with
  | int n =>
    refine iteF ⟨.int n, rfl, n, 0, rfl, rfl, decide (n < 0), rfl, ite2 (fun e1 => ?_) (fun e1 => ?_)⟩
    · exact iteT (qE (by rw [personOk_int, decide_eq_false (by have := of_decide_eq_true e1; omega)]; rfl) H1 s1)
    · have n0 : 0 ≤ n := by
        have : ¬ n < 0 := fun z => e1 (decide_eq_true z)
        omega
      cases hpo : pc.2.1 with
      | none => 
        refine ⟨_, rfl, _, rfl, iteF (iteF ?_)⟩
        exact q (by rw [hpo, personOk_int, decide_eq_true n0]; rfl) H1 s1
      | some m =>
        refine ⟨_, rfl, _, rfl, iteT ⟨.int n, rfl, .int m, rfl, n, m, rfl, rfl, decide (m ≤ n), rfl, ?_⟩⟩
        refine ite2 (fun e2 => ?_) (fun e2 => ?_)
        · exact qE (by rw [hpo, personOk_int, decide_eq_true n0]; exact decide_eq_false (by have := of_decide_eq_true e2; omega)) H1 s1
        · exact q (by rw [hpo, personOk_int, decide_eq_true n0]; exact decide_eq_true (by have : ¬ m ≤ n := fun z => e2 (decide_eq_true z); omega)) H1 s1
  | _ => exact iteT (iteT (qE rfl H1 s1))
theorem ok_ckm {f C : Addr} {fd : FuncData} (F : Fun K "check_moment" "check_moment" sCkM f fd) (T : Nm mg) (XN : ExcC K mg "NoMoment" C) (CM : Cal P w K mg base 1 "many_in" ["pieces"] spMany) (CW : Cal P w K mg base 1 "is_whole" ["thing"] (spOne isWhole)) :
    FnOk P w K mg base (L2.CX P w) 2 f fd ["pieces", "moment"] (spCkM C) := by
  refine F.okX scCkM (fun vs H Q E ⟨a, v, ps, pc, d, e, _⟩ => by rw [e]; rfl) (fun cdv A outer s H vs Q E hr h => ?_)
  obtain ⟨a, v, ps, pc, d, rfl, hp, hR, qE, q⟩ := h
  obtain ⟨tg, hgr⟩ := T.great
  have nd := scCkM.nd
  refine ⟨_, (pss_cons (ps_set (i := 2) nd rfl (.inl rfl) (pe_cal CM hr (by rfl) (pa_cons (pv 0) pa_nil)))
    (pss_one (ps_if (PW.pt (pw_or (pt_not (pt_val (pe_cal CW hr (by rfl) (pa_cons (pv 1) pa_nil)))) (pw_or (pt_not (pt_chain op_le op_le pe_int (pv 1) (pe_glob (v := .int GREAT) (by rfl) hgr ⟨_, rfl⟩))) (pw_or1 (PW.pt (pw_and (pt_cmp (pc_notN (pv 2))) (pw_and1 (pt_cmpR op_gt (pv 1) (pv 2) (nomark _))))))))) (pss_one (ps_raise rfl (takes_of rfl rfl rfl rfl) (pmk_own PySem.F.excBase_ValueError XN.x XN.g XN.k (raises_own XN.b XN.t) rfl))) pss_nil))), ?_⟩
  refine ⟨.ref a, rfl, a, ps, pc, rfl, hp, v, rfl, v, d, rfl, hR, fun H1 s1 => ⟨isWhole d, rfl, ?_⟩⟩
  cases hR with
  | int n =>
    refine iteF ⟨.int n, rfl, 0, n, rfl, rfl, decide (0 ≤ n), rfl, ite2 (fun e1 => ?_) (fun e1 => ?_)⟩
    · refine ⟨n, GREAT, rfl, rfl, decide (n ≤ GREAT), rfl, ?_⟩
      cases e2 : decide (n ≤ GREAT) with
      | true =>
        refine iteF ?_
        cases hpo : pc.2.1 with
        | none =>
          refine ⟨_, rfl, _, rfl, iteF (iteF ?_)⟩
          exact q (by rw [hpo, momentOk_int, e1, e2]; rfl) H1 s1
        | some m =>
          refine ⟨_, rfl, _, rfl, iteT ⟨.int n, rfl, .int m, rfl, n, m, rfl, rfl, decide (m < n), rfl, ?_⟩⟩
          refine ite2 (fun e3 => ?_) (fun e3 => ?_)
          · exact qE (by rw [hpo, momentOk_int, e1, e2]; exact decide_eq_false (by have := of_decide_eq_true e3; omega)) H1 s1
          · exact q (by rw [hpo, momentOk_int, e1, e2]; exact decide_eq_true (by have : ¬ m < n := fun z => e3 (decide_eq_true z); omega)) H1 s1
      | false => exact iteT (iteT (qE (by rw [momentOk_int, e1, e2]; rfl) H1 s1))
    · exact ⟨false, rfl, iteT (iteT (qE (by rw [momentOk_int, Bool.eq_false_iff.mpr e1]; rfl) H1 s1))⟩
  | _ => exact iteT (iteT (qE rfl H1 s1))
/-- the patience of a person, as the pieces have it -/
def patD (ps : List PieceT) (n : Int) : Option PyData := (ps.find? (comes n)).bind fun pc => pc.2.2[((n - pc.1) % (pc.2.2.length : Int)).toNat]?
/-- each that comes has its piece, with a patience -/
def HasP (ps : List PieceT) (n : Int) (e : PyData) : Prop := ∃ pp, ps.find? (comes n) = some pp ∧ 0 < pp.2.2.length ∧ pp.2.2[((n - pp.1) % (pp.2.2.length : Int)).toNat]? = some e
abbrev sPatOf : Stmt := topS 36
theorem scPatOf : FnScope ["plan", "person", "pieces"] ["plan", "person"] (defScope sPatOf) := ⟨rfl, rfl, rfl, by decide +kernel, rfl, by decide +kernel, by decide +kernel⟩
def spPatOf (P1 P2 C C2 : Addr) : Sp := fun vs H Q E => ∃ v u d c, vs = [v, u] ∧ Rp H v d ∧ Rp H u c ∧ Tb P1 P2 H ∧ (isPlan d = false → ∀ H', Ex H H' → Tb P1 P2 H' → E (.ref C) none H') ∧
  (isPlan d = true → ∃ ps pc, piecesOf d = ps ++ [pc] ∧ (personOk pc.2.1 c = false → ∀ H', Ex H H' → Tb P1 P2 H' → E (.ref C2) none H') ∧
    (personOk pc.2.1 c = true → ∃ n e, c = .int n ∧ HasP (piecesOf d) n e ∧ ∀ x H', Ex H H' → Tb P1 P2 H' → Rp H' x e → Q x H'))
theorem ok_patOf {f P1 P2 C C2 : Addr} {fd : FuncData} (F : Fun K "patience_of" "patience_of" sPatOf f fd) (CP : CalX P w K mg base 9 "pieces_of" ["plan"] (spPieces P1 P2 C)) (CK : CalX P w K mg base 9 "check_person" ["pieces", "person"] (spCkP C2)) (CA : Cal P w K mg base 9 "patience_at" ["pieces", "person"] spPatAt) :
    FnOk P w K mg base (L2.CX P w) 10 f fd ["plan", "person"] (spPatOf P1 P2 C C2) := by
  refine F.okX scPatOf (fun vs H Q E ⟨v, u, d, c, e, _⟩ => by rw [e]; rfl) (fun cdv A outer s H vs Q E hr h => ?_)
  obtain ⟨v, u, d, c, rfl, hR, hU, hT, qE0, q⟩ := h
  have nd := scPatOf.nd
  refine ⟨_, (pss_cons (ps_set (i := 2) nd rfl (.inl rfl) (pe_calX CP hr (by rfl) (passes_call (takes_of rfl rfl rfl rfl) fun _ _ _ _ h => h) (pa_cons (pv 0) pa_nil)))
    (pss_cons (ps_expr (pe_calX CK hr (by rfl) (passes_call (takes_of rfl rfl rfl rfl) fun _ _ _ _ h => h) (pa_cons (pv 2) (pa_cons (pv 1) pa_nil))))
    (pss_one (ps_ret (pe_cal CA hr (by rfl) (pa_cons (pv 2) (pa_cons (pv 1) pa_nil))))))), ?_⟩
  refine ⟨v, rfl, v, d, rfl, hR, hT, qE0, fun z0 p H1 e1 t1 _ rp => ?_⟩
  obtain ⟨ps, pc, hps, qE, q⟩ := q z0
  have hU1 := Rp.ex e1 c u hU
  have rp' := rp
  rw [hps] at rp'
  obtain ⟨a, ea, h⟩ := PcsAt.of rp'
  obtain rfl : p = a := V.ref.inj ea
  refine ⟨.ref p, rfl, u, rfl, p, u, ps, pc, c, rfl, h, hU1, fun z H2 s2 => qE z H2 (e1.trans (Ex.of s2)) (t1.same s2), fun z H2 s2 => ?_⟩
  obtain ⟨n, e, rfl, ⟨pp, hf, hl, he⟩, q⟩ := q z
  cases hU1
  have rp2 : Rp H2 (.ref p) (.list ((piecesOf d).map pieceD)) := Rp.sm s2 rp
  obtain ⟨a, ea, h2⟩ := PcsAt.of rp2
  obtain rfl : p = a := V.ref.inj ea
  exact ⟨.ref p, rfl, .int n, rfl, p, n, piecesOf d, pp, e, rfl, h2, hf, hl, he, fun x H3 s3 hx => q x H3 (e1.trans (Ex.of (s2.trans s3))) (t1.same (s2.trans s3)) hx⟩
end
end CL
set_option Elab.async false
set_option linter.all false
set_option maxRecDepth 100000
set_option maxHeartbeats 4000000
namespace CL
open PySem PySem.Spec PyProof.Rows L2 GE
abbrev sLine : Stmt := topS 38
abbrev nLine : List Str := ["pieces", "moment", "people", "left", "person", "place"]
theorem scLine : FnScope nLine ["pieces", "moment"] (defScope sLine) := ⟨rfl, rfl, rfl, by decide +kernel, rfl, by decide +kernel, by decide +kernel⟩
abbrev sLet : Stmt := topS 37
theorem scLet : FnScope ["left", "place"] ["left"] (defScope sLet) := ⟨rfl, rfl, rfl, by decide +kernel, rfl, by decide +kernel, by decide +kernel⟩
/-! ### xs[i] -= e -/
theorem get_list {X : Cx} : PGet X (fun x y H Q => ∃ p xs, ∃ i : Nat, ∃ v, x = .ref p ∧ y = .int (i : Int) ∧ SqL X.K H p xs ∧ xs[i]? = some v ∧ Q v H) := by
  intro pins s σ H o k ov iv Q I ro ri h
  obtain ⟨p, xs, i, v, rfl, rfl, hs, hv, q⟩ := h
  cases ro
  obtain ⟨t, rfl⟩ := ri
  obtain ⟨its, r, pl, hz⟩ := I.list hs
  obtain ⟨w, ew, rw'⟩ := r.get hv
  have hn := line63
  have hl : i < xs.length := (List.getElem?_eq_some_iff.mp hv).1
  exact wpAny_getItem_list pl.isList (by omega) (by omega) (by simpa using ew) ⟨v, H, I, rw', q⟩
/-! ### who comes goes past all that let it -/
def goes : Nat → List (Option Int) → Nat × List (Option Int)
  | 0, l => (0, l)
  | p + 1, l => match l[p]? with
    | some (some k) => if k = 0 then (p + 1, l) else goes p (l.set p (some (k - 1)))
    | some none => goes p l
    | none => (p + 1, l)
theorem goes_le : ∀ (p : Nat) (l : List (Option Int)), (goes p l).1 ≤ p ∧ (goes p l).2.length = l.length
  | 0, l => ⟨Nat.le_refl 0, rfl⟩
  | p + 1, l => by
    unfold goes
    split
    · split
      · exact ⟨Nat.le_refl _, rfl⟩
      · have h := goes_le p (l.set p (some (‹Int› - 1)))
        exact ⟨Nat.le_succ_of_le h.1, by rw [h.2, List.length_set]⟩
    · have h := goes_le p l
      exact ⟨Nat.le_succ_of_le h.1, h.2⟩
    · exact ⟨Nat.le_refl _, rfl⟩
def stand (st : List Int × List (Option Int)) (who : Int) (e : Option Int) : List Int × List (Option Int) :=
  (st.1.take (goes st.1.length st.2).1 ++ [who] ++ st.1.drop (goes st.1.length st.2).1, (goes st.1.length st.2).2.take (goes st.1.length st.2).1 ++ [e] ++ (goes st.1.length st.2).2.drop (goes st.1.length st.2).1)
def lined (pat : Nat → Option Int) : Nat → List Int × List (Option Int)
  | 0 => ([], [])
  | n + 1 => stand (lined pat n) (n : Int) (pat n)
theorem lined_len (pat : Nat → Option Int) : ∀ n, (lined pat n).1.length = n ∧ (lined pat n).2.length = n
  | 0 => ⟨rfl, rfl⟩
  | n + 1 => by
    obtain ⟨h1, h2⟩ := lined_len pat n
    obtain ⟨g1, g2⟩ := goes_le (lined pat n).1.length (lined pat n).2
    rw [h1] at g1
    rw [h2] at g2
    unfold lined stand
    simp only [List.length_append, List.length_take, List.length_drop, List.length_singleton, h1]
    rw [h1] at g2
    constructor <;> omega
theorem rp_opt2 {H : Hp} : ∀ o : Option Int, Rp H (optV o) (optD o)
  | none => .non
  | some i => .int i
def spLet : Sp := fun vs H Q _ => ∃ (L : Addr) (l : List (Option Int)), vs = [.ref L] ∧ H L = some (.lst (l.map optV)) ∧ l.length ≤ 2000 ∧ ∀ H', (∀ b, b ≠ L → H' b = H b) → H' L = some (.lst ((goes l.length l).2.map optV)) → Q (.int ((goes l.length l).1 : Int)) H'
def spLine : Sp := fun vs H Q _ => ∃ a ps, ∃ m : Nat, ∃ pat : Nat → Option Int, vs = [.ref a, .int (m : Int)] ∧ PcsAt H a ps ∧ m ≤ 2000 ∧ (∀ n : Nat, n < m → HasP ps (n : Int) (optD (pat n))) ∧
  ∀ p L1 L2 H', Same H H' → H L1 = none → H L2 = none → L1 ≠ L2 → H' p = some (.tup [.ref L1, .ref L2]) → H' L1 = some (.lst ((lined pat m).1.map V.int)) → H' L2 = some (.lst ((lined pat m).2.map optV)) → Q (.ref p) H'
theorem optV_dp {K : PySem.W.Frag} {H : Hp} : ∀ o : Option Int, Dp K H (optV o) (optD o)
  | none => .non
  | some i => .int i
theorem optD_shaped : ∀ o : Option Int, SeqAt.shaped (optD o) = true
  | none => by decide
  | some i => by unfold SeqAt.shaped; simp [optD, PyData.canLay0, PyData.depth]
theorem optV_ne0 : ∀ o : Option Int, (!PyData.eqv (optD o) (.int 0)) = !decide (o = some 0)
  | none => by simp [optD, PyData.eqv]
  | some i => by
    by_cases h : i = 0
    · subst h; simp [optD, PyData.eqv]
    · simp [optD, PyData.eqv, h]
theorem rp_optV {H : Hp} {v : V} : ∀ {o : Option Int}, Rp H v (optD o) → v = optV o
  | none, h => by cases h; rfl
  | some i, h => by cases h; rfl
theorem stand_fin {st : List Int × List (Option Int)} {i k : Nat} {l : List (Option Int)} {e : Option Int} (l1 : st.1.length = i) (h : (k, l) = goes i st.2) :
    (st.1.map V.int).take k ++ [V.int (0 + (i : Int))] ++ (st.1.map V.int).drop k = (stand st (i : Int) e).1.map V.int ∧ (l.map optV).take k ++ [optV e] ++ (l.map optV).drop k = (stand st (i : Int) e).2.map optV := by
  unfold stand
  rw [l1, ← h]
  simp only [List.map_append, List.map_take, List.map_drop, List.map_cons, List.map_nil, Int.zero_add, and_self]
theorem ixN_nat {n j : Nat} (h : j < n) : ixN n (j : Int) = some j := by
  unfold ixN
  rw [if_pos (by omega)]
  simp [h]
section
variable {P : Program} {w : World} {K : PySem.W.Frag} {mg : Str → Option Value} {base : Heap}
theorem ok_let {f : Addr} {fd : FuncData} (F : Fun K "let_past" "let_past" sLet f fd) (T : Nm mg) : FnOk P w K mg base CX0 1 f fd ["left"] spLet := by
  refine F.ok scLet (fun vs H Q E ⟨L, l, e, _⟩ => by rw [e]; rfl) (fun cdv A outer s H vs Q E hr h => ?_)
  obtain ⟨L2, l0, rfl, eL, hl0, q⟩ := h
  have nd := scLet.nd
  refine ⟨_, (pss_cons (ps_set (i := 1) nd rfl (.inl rfl) (pe_callB call_len_seq (by rfl) T.len PySem.boot_len (pa_cons (pv 0) pa_nil)))
      (pss_cons (ps_while PassesOwn.never (PW.pt (pw_and (pt_cmpR op_gt (pv 1) pe_int (nomark _)) (pw_and1 (pt_cmpR (op_neD hr.units) (pe_ix ix_list (pv 0) (pe_op op_sub (pv 1) pe_int) (fun _ _ => rfl)) pe_int (nomark _)))))
        (pss_cons (ps_aug (i := 1) nd rfl (.inl rfl) pe_int ip_sub)
        (pss_one (ps_if (pt_cmp (pc_notN (pe_ix ix_list (pv 0) (pv 1) (fun _ _ => rfl)))) (pss_one (ps_augS (pv 0) (pv 1) get_list pe_int ip_sub set_list)) pss_nil))))
      (pss_one (ps_ret (pv 1))))), ?_⟩
  refine ⟨.ref L2, rfl, L2, _, rfl, .inl (SqL.of eL), ?_⟩
  rw [List.length_map]
  refine ⟨fun k σ H3 => ∃ l : List (Option Int), σ = [some (.ref L2), some (.int (k : Int))] ∧ (∀ b, b ≠ L2 → H3 b = H b) ∧ H3 L2 = some (.lst (l.map optV)) ∧ l.length = l0.length ∧ k ≤ l0.length ∧ goes k l = goes l0.length l0,
      ⟨l0.length, l0, rfl, fun b _ => rfl, eL, rfl, Nat.le_refl _, rfl⟩, fun k σ H3 hW => ?_⟩
  obtain ⟨l, rfl, s3, f2, hl, hk, hg⟩ := hW
  have ix : ∀ {b : Nat} {o : Option Int}, l[b]? = some o → (l.map optV)[b]? = some (optV o) := fun {b o} e => by rw [List.getElem?_map, e]; rfl
  have fin : ∀ {k : Nat}, (k, l) = goes l0.length l0 → Q (.int (k : Int)) H3 := fun {k} e => by
    have q' := q H3 s3
    rw [← e] at q'
    exact q' f2
  cases k with
  | zero =>
    refine ⟨.int ((0 : Nat) : Int), rfl, ((0 : Nat) : Int), 0, rfl, rfl, decide ((0 : Int) < ((0 : Nat) : Int)), rfl, iteF ?_⟩
    exact ⟨.int ((0 : Nat) : Int), rfl, fin hg⟩
  | succ k' =>
    have hk' : k' < l.length := by omega
    obtain ⟨o, ho⟩ : ∃ o, l[k']? = some o := ⟨_, List.getElem?_eq_getElem hk'⟩
    have hi1 : ((k' + 1 : Nat) : Int) - 1 = (k' : Int) := by omega
    refine ⟨.int ((k' + 1 : Nat) : Int), rfl, ((k' + 1 : Nat) : Int), 0, rfl, rfl, decide ((0 : Int) < ((k' + 1 : Nat) : Int)), rfl, ?_⟩
    rw [decide_eq_true (by omega : (0 : Int) < ((k' + 1 : Nat) : Int))]
    refine iteT ⟨.ref L2, rfl, .int ((k' + 1 : Nat) : Int), rfl, ((k' + 1 : Nat) : Int), 1, rfl, rfl, L2, _, ((k' + 1 : Nat) : Int) - 1, optV o, rfl, rfl, SqL.of f2, by rw [hi1]; exact atI_nat (ix ho), optD o, .int 0, optV_dp o, .int 0, optD_shaped o, optD_shaped (some 0), _, rfl, ?_⟩
    rw [optV_ne0]
    by_cases hz : o = some 0
    · rw [decide_eq_true hz]
      have hg2 : (k' + 1, l) = goes l0.length l0 := by
        rw [← hg]
        unfold goes
        rw [ho, hz]
        rfl
      exact iteF ⟨.int ((k' + 1 : Nat) : Int), rfl, fin hg2⟩
    · rw [decide_eq_false hz]
      cases o with
      | none =>
        have hg2 : goes k' l = goes l0.length l0 := by
          rw [← hg]
          conv => rhs; unfold goes
          rw [ho]
        refine iteT ⟨fun σ' H'' => σ' = [some (.ref L2), some (.int (((k' + 1 : Nat) : Int) - 1))] ∧ H'' = H3, fun σ' H'' z => ⟨k', Nat.lt_succ_self k', l, by rw [z.1, hi1], by rw [z.2]; exact s3, by rw [z.2]; exact f2, hl, by omega, hg2⟩, ?_⟩
        refine ⟨.int ((k' + 1 : Nat) : Int), rfl, ((k' + 1 : Nat) : Int), 1, rfl, rfl, .ref L2, rfl, .int (((k' + 1 : Nat) : Int) - 1), rfl, L2, _, ((k' + 1 : Nat) : Int) - 1, optV none, rfl, rfl, SqL.of f2, by rw [hi1]; exact atI_nat (ix ho), _, rfl, iteF ⟨rfl, rfl⟩⟩
      | some j =>
        have hj0 : j ≠ 0 := fun z => hz (by rw [z])
        have hg2 : goes k' (l.set k' (some (j - 1))) = goes l0.length l0 := by
          rw [← hg]
          conv => rhs; unfold goes
          rw [ho]
          exact (if_neg hj0).symm
        refine iteT ⟨fun σ' H'' => σ' = [some (.ref L2), some (.int (((k' + 1 : Nat) : Int) - 1))] ∧ H'' = upd H3 L2 (.lst ((l.set k' (some (j - 1))).map optV)), fun σ' H'' z => ⟨k', Nat.lt_succ_self k', l.set k' (some (j - 1)), by rw [z.1, hi1], by rw [z.2]; exact fun b hb => by rw [upd_ne hb]; exact s3 b hb, by rw [z.2]; exact upd_same, by rw [List.length_set]; exact hl, by omega, hg2⟩, ?_⟩
        refine ⟨.int ((k' + 1 : Nat) : Int), rfl, ((k' + 1 : Nat) : Int), 1, rfl, rfl, .ref L2, rfl, .int (((k' + 1 : Nat) : Int) - 1), rfl, L2, _, ((k' + 1 : Nat) : Int) - 1, optV (some j), rfl, rfl, SqL.of f2, by rw [hi1]; exact atI_nat (ix ho), _, rfl, iteT ?_⟩
        refine ⟨.ref L2, rfl, .int (((k' + 1 : Nat) : Int) - 1), rfl, L2, _, k', optV (some j), rfl, by rw [hi1], SqL.of f2, ix ho, j, 1, rfl, rfl, L2, _, (k' : Int), k', rfl, by rw [hi1], f2, ixN_nat (by rw [List.length_map]; exact hk'), rfl, ?_⟩
        rw [List.map_set]
        first | rfl | exact ⟨rfl, rfl⟩
theorem ok_line {f : Addr} {fd : FuncData} (F : Fun K "line_up" "line_up" sLine f fd) (T : Nm mg) (hrange : mg "range" = none) (CA : Cal P w K mg base 3 "patience_at" ["pieces", "person"] spPatAt) (CT : Cal P w K mg base 3 "let_past" ["left"] spLet) : FnOk P w K mg base CX0 4 f fd ["pieces", "moment"] spLine := by
  refine F.ok scLine (fun vs H Q E ⟨a, ps, m, pat, e, _⟩ => by rw [e]; rfl) (fun cdv A outer s H vs Q E hr h => ?_)
  obtain ⟨a, ps, m, pat, rfl, hp, hm, hh, q⟩ := h
  have nd := scLine.nd
  have sz : 2001 ≤ sizeLine := by decide
  refine ⟨_, (pss_cons (ps_set (i := 2) nd rfl (.inl rfl) (pe_lst pa_nil)) (pss_cons (ps_set (i := 3) nd rfl (.inl rfl) (pe_lst pa_nil))
    (pss_cons (ps_for PassesOwn.never rfl (pi_range1 (by rfl) hrange (pa_cons (pv 1) pa_nil)) (pg_name (i := 4) nd rfl (.inl rfl))
      (pss_cons (ps_set (i := 5) nd rfl (.inl rfl) (pe_cal CT hr (by rfl) (pa_cons (pv 3) pa_nil)))
      (pss_cons (ps_expr (pe_bm PySem.F.plainAttrs_list PySem.F.slot_list_insert PySem.F.type_list_insert mt_insert (pv 2) (pa_cons (pv 5) (pa_cons (pv 4) pa_nil))))
      (pss_one (ps_expr (pe_bm PySem.F.plainAttrs_list PySem.F.slot_list_insert PySem.F.type_list_insert mt_insert (pv 3) (pa_cons (pv 5) (pa_cons (pe_cal CA hr (by rfl) (pa_cons (pv 0) (pa_cons (pv 4) pa_nil))) pa_nil))))))))
    (pss_one (ps_ret (pe_tup (pa_cons (pv 2) (pa_cons (pv 3) pa_nil)))))))), ?_⟩
  refine ⟨Nat.zero_le _, fun L1 n1 => ⟨Nat.zero_le _, fun L2 n2 => ?_⟩⟩
  have s1 : Same H (upd H L1 (.lst [])) := same_upd n1
  have n2' : H L2 = none := by
    cases z : H L2 with
    | none => rfl
    | some o => rw [s1 _ _ z] at n2; cases n2
  have ne12 : L1 ≠ L2 := fun z => by rw [← z, upd_same] at n2; cases n2
  show tSeq _ _ _ [some (.ref a), some (.int (m : Int)), some (.ref L1), some (.ref L2), none, none] (upd (upd H L1 (.lst [])) L2 (.lst []))
  have s0 : Same H (upd (upd H L1 (.lst [])) L2 (.lst [])) := s1.trans (same_upd n2)
  have e1 : (upd (upd H L1 (.lst [])) L2 (.lst [])) L1 = some (.lst []) := by rw [upd_ne ne12]; exact upd_same
  have e2 : (upd (upd H L1 (.lst [])) L2 (.lst [])) L2 = some (.lst []) := upd_same
  generalize hG : upd (upd H L1 (.lst [])) L2 (.lst []) = G at s0 e1 e2
  have keep : ∀ {G1 : Hp} {o1 o2 : HO}, Same H G1 → Same H (upd (upd G1 L1 o1) L2 o2) := fun {G1 o1 o2} s b o e => by
    rw [upd_ne (fun z => by rw [z, n2'] at e; cases e), upd_ne (fun z => by rw [z, n1] at e; cases e)]
    exact s b o e
  have keep2 : ∀ {G1 : Hp} {o2 : HO}, Same H G1 → Same H (upd G1 L2 o2) := fun {G1 o2} s b o e => by
    rw [upd_ne (fun z => by rw [z, n2'] at e; cases e)]
    exact s b o e
  have keep1 : ∀ {G1 : Hp} {o2 : HO}, Same H G1 → Same H (upd G1 L1 o2) := fun {G1 o2} s b o e => by
    rw [upd_ne (fun z => by rw [z, n1] at e; cases e)]
    exact s b o e
  refine ⟨.int (m : Int), rfl, (m : Int), rfl, by omega, by omega, ?_⟩
  refine for_range (lo := 0) (n := ((m : Int)).toNat) (fun i σ H2 => ∃ y4 y5, σ = [some (.ref a), some (.int (m : Int)), some (.ref L1), some (.ref L2), y4, y5] ∧ Same H H2 ∧ H2 L1 = some (.lst ((lined pat i).1.map V.int)) ∧ H2 L2 = some (.lst ((lined pat i).2.map optV)))
    ⟨none, none, rfl, s0, e1, e2⟩ (fun i σ H2 hi hP => ?_) (fun σ H2 hP => ?_)
  · obtain ⟨y4, y5, rfl, s2, eL1, eL2⟩ := hP
    have hi' : i < m := by
      have : ((m : Int)).toNat = m := rfl
      omega
    obtain ⟨l1, l2⟩ := lined_len pat i
    generalize hst : lined pat i = st at eL1 eL2 l1 l2
    refine ⟨.ref L2, rfl, L2, st.2, rfl, eL2, by rw [l2]; omega, fun H3 k3 f2 => ?_⟩
    rw [l2] at f2 ⊢
    obtain ⟨hk, glen⟩ := goes_le i st.2
    have hl := glen.trans l2
    generalize hg : goes i st.2 = g at f2 hk hl ⊢
    obtain ⟨k, l⟩ := g
    have hg := hg.symm
    have hl : l.length = i := hl
    have hk : k ≤ i := hk
    have f2 : H3 L2 = some (.lst (l.map optV)) := f2
    have f1 : H3 L1 = some (.lst (st.1.map V.int)) := (k3 L1 ne12).trans eL1
    have s3 : Same H H3 := fun b o e => by
      rw [k3 b (fun z => by rw [z, n2'] at e; cases e)]
      exact s2 b o e
    obtain ⟨pp, hf, hpl, he⟩ := hh i hi'
    have hpA : ∀ (H3 : Hp) {o : HO}, Same H H3 → PcsAt (upd H3 L1 o) a ps := fun H3 {o} s => by
      obtain ⟨xs, h1, h2⟩ := hp.ex
      exact ⟨xs, keep1 s _ _ h1, RpAll.sm (keep1 s) h2⟩
    show tSeq _ _ _ [some (.ref a), some (.int (m : Int)), some (.ref L1), some (.ref L2), some (.int (0 + (i : Int))), some (.int (k : Int))] H3
    refine ⟨.ref L1, rfl, .inl ⟨rfl, _, SqL.of f1⟩, .int (k : Int), rfl, .int (0 + (i : Int)), rfl, L1, _, (k : Int), _, rfl, rfl, f1, by rw [List.length_map, l1]; omega, by omega, by omega,
      .ref L2, rfl, .inl ⟨rfl, _, SqL.of (show upd H3 L1 _ L2 = _ by rw [upd_ne (Ne.symm ne12)]; exact f2)⟩, .int (k : Int), rfl, .ref a, rfl, .int (0 + (i : Int)), rfl, a, 0 + (i : Int), ps, pp, optD (pat i), rfl, hpA H3 s3, by rw [Int.zero_add]; exact hf, hpl, by rw [Int.zero_add]; exact he, fun x H4 s4 rx => ?_⟩
    obtain rfl := rp_optV rx
    have g2 := s4 L2 _ (show upd H3 L1 _ L2 = _ by rw [upd_ne (Ne.symm ne12)]; exact f2)
    have g1 := s4 L1 _ upd_same
    obtain ⟨z1, z2⟩ := stand_fin (e := pat i) l1 (hg : (k, l) = goes i st.2)
    refine ⟨L2, _, (k : Int), _, rfl, rfl, g2, by rw [List.length_map, hl]; omega, by omega, by omega, some (.int (0 + (i : Int))), some (.int (k : Int)), rfl, ?_, ?_, ?_⟩
    · exact keep2 (fun b o e => s4 _ _ (keep1 s3 b o e))
    · rw [upd_ne ne12, g1]
      show _ = some (HO.lst ((stand (lined pat i) (i : Int) (pat i)).1.map V.int))
      rw [hst, ← z1]
      rfl
    · rw [upd_same]
      show _ = some (HO.lst ((stand (lined pat i) (i : Int) (pat i)).2.map optV))
      rw [hst, ← z2]
      rfl
  · obtain ⟨y4, y5, rfl, s2, eL1, eL2⟩ := hP
    refine ⟨.ref L1, rfl, .ref L2, rfl, small_le (by show 2 ≤ 1000; decide), fun p np => ?_⟩
    exact q p L1 L2 _ (s2.trans (same_upd np)) n1 n2' ne12 upd_same (same_upd np _ _ eL1) (same_upd np _ _ eL2)
end
end CL
set_option Elab.async false
set_option linter.all false
set_option maxRecDepth 100000
set_option maxHeartbeats 4000000
namespace CL
open PySem PySem.Spec PyProof.Rows L2 GE
abbrev sListed : Stmt := topS 39
theorem scListed : FnScope ["plan", "moment", "pieces"] ["plan", "moment"] (defScope sListed) := ⟨rfl, rfl, rfl, by decide +kernel, rfl, by decide +kernel, by decide +kernel⟩
abbrev sQueue : Stmt := topS 40
theorem scQueue : FnScope ["plan", "moment", "people", "left"] ["plan", "moment"] (defScope sQueue) := ⟨rfl, rfl, rfl, by decide +kernel, rfl, by decide +kernel, by decide +kernel⟩
/-- raise C(), C a class of one's own over a built-in one -/
theorem pmk_own0 {X : Cx} {x : Str} {p pos : Pos} {B newId initId : String} {bmB : List Value} {C : Addr} (F : ExcBaseFacts B newId initId bmB) (q : PySem.W.excIn X.K C bmB newId = true) (gC : X.mg x = some (.ref C)) (kC : PySem.W.keepIn X.K (.ref C) = true) (r : Raises X (.ref C)) (hg : Gl X x)
    (hdb : (x == ("__debug__" : Str)) = false := by decide) : PMk X (.Call (.Name x p) [] [] pos) (fun _ H Q => Q (.ref C) none H) := by
  intro pins s σ H Q I h
  refine wpAny_Call_Name_kw (ld_glob I hg gC ?_ hdb)
  refine PySem.W.callWith_K0 I.kIn kC ?_
  show wpAny _ _ (call (.ref C) []) _ _ _
  obtain ⟨bm, N, nm, qn, bs, hdct, sn, sub, ab, col, dd, k0, k1, k2, k3, k5, mN, hC, hN, hni, T⟩ := exc_obj I.kIn q
  refine wpAny_call_exc_subT F T hC hN hni (fun h' e hm => ?_) (Nat.zero_le _)
  exact mk_of I hm r h (I.hok.gone hm.new)
/-! ### whoever comes by a plan has a patience -/
theorem turns_ok {d : PyData} (h : isPiece d = true) : 1 ≤ (turnsD d).length ∧ ∀ x ∈ turnsD d, isPatience x = true := by
  obtain ⟨t, m, e, ht, _⟩ := piece_parts h
  unfold turnsD
  rw [e]
  show 1 ≤ ((rowsD t).getD []).length ∧ ∀ x ∈ (rowsD t).getD [], isPatience x = true
  unfold isTurns at ht
  cases z : rowsD t with
  | none => rw [z] at ht; cases ht
  | some ts =>
    rw [z] at ht
    simp only [Bool.and_eq_true, decide_eq_true_eq, List.all_eq_true] at ht
    exact ⟨ht.1.1, ht.2⟩
theorem find_pcs (n : Int) : ∀ (ds : List PyData) (f : Int), ds.all isPiece = true → (ds.take (ds.length - 1)).any (fun d => isNone (sndD d)) = false → ∀ ps pc, pcs f ds = ps ++ [pc] → under pc.2.1 n = true → ∃ pp, (pcs f ds).find? (comes n) = some pp ∧ ∃ d ∈ ds, pp.2.2 = turnsD d
  | [], f, _, _, ps, pc, e, _ => by
    have := congrArg List.length e
    simp [pcs] at this
  | d :: ds, f, ha, hn, ps, pc, e, hu => by
    have hd : isPiece d = true := by
      simp only [List.all_cons, Bool.and_eq_true] at ha
      exact ha.1
    have hds : ds.all isPiece = true := by
      simp only [List.all_cons, Bool.and_eq_true] at ha
      exact ha.2
    have ec : pcs f (d :: ds) = (f, pastO f (sndD d), turnsD d) :: pcs (f + worth (sndD d)) ds := rfl
    rw [ec, List.find?_cons]
    cases hc : comes n (f, pastO f (sndD d), turnsD d) with
    | true => exact ⟨_, rfl, d, List.mem_cons_self, rfl⟩
    | false =>
      cases ds with
      | nil =>
        have e2 : [(f, pastO f (sndD d), turnsD d)] = ps ++ [pc] := e
        have e3 : pc = (f, pastO f (sndD d), turnsD d) := by
          cases ps with
          | nil => exact (List.cons.inj e2).1.symm
          | cons x xs =>
            have := congrArg List.length e2
            simp at this
        rw [e3] at hu
        exfalso
        unfold comes at hc
        cases hp : pastO f (sndD d) with
        | none => simp [hp] at hc
        | some m =>
          simp only [hp] at hc
          rw [hp] at hu
          have h1 : decide (n < m) = true := hu
          rw [h1] at hc
          cases hc
      | cons d2 ds2 =>
        obtain ⟨ps', e4⟩ : ∃ ps', pcs (f + worth (sndD d)) (d2 :: ds2) = ps' ++ [pc] := by
          cases ps with
          | nil =>
            have := congrArg List.length e
            simp [pcs] at this
          | cons x xs => exact ⟨xs, (List.cons.inj e).2⟩
        have hn2 : ((d2 :: ds2).take ((d2 :: ds2).length - 1)).any (fun d => isNone (sndD d)) = false := by
          have : (d :: d2 :: ds2).take ((d :: d2 :: ds2).length - 1) = d :: (d2 :: ds2).take ((d2 :: ds2).length - 1) := rfl
          rw [this, List.any_cons, Bool.or_eq_false_iff] at hn
          exact hn.2
        obtain ⟨pp, h1, d', h2, h3⟩ := find_pcs n (d2 :: ds2) _ hds hn2 ps' pc e4 hu
        exact ⟨pp, h1, d', List.mem_cons_of_mem _ h2, h3⟩
theorem plan_partsF {d : PyData} (h : isPlan d = true) : ∃ ds, rowsD d = some ds ∧ piecesOf d = pcs 0 ds ∧ 1 ≤ ds.length ∧ ds.length ≤ 8 ∧ ds.all isPiece = true ∧ (ds.take (ds.length - 1)).any (fun d => isNone (sndD d)) = false ∧ sumSnd ds ≤ GREAT := by
  cases z : rowsD d with
  | none => unfold isPlan at h; rw [z] at h; cases h
  | some ds =>
    have e : isPlan d = isPlanL ds := by unfold isPlan; rw [z]
    rw [e] at h
    unfold isPlanL at h
    simp only [Bool.and_eq_true, decide_eq_true_eq, Bool.not_eq_true'] at h
    obtain ⟨⟨⟨⟨l1, l8⟩, hpc⟩, hno⟩, hsum⟩ := h
    exact ⟨ds, rfl, by unfold piecesOf; rw [z]; rfl, l1, l8, hpc, hno, hsum⟩
theorem pcs_len : ∀ (f : Int) (ds : List PyData), (pcs f ds).length = ds.length
  | _, [] => rfl
  | f, d :: ds => congrArg (· + 1) (pcs_len _ ds)
theorem plan_last {d : PyData} (h : isPlan d = true) : ∃ ps pc, piecesOf d = ps ++ [pc] := by
  obtain ⟨ds, _, e, l1, _⟩ := plan_partsF h
  have hl : (piecesOf d).length = ds.length := by rw [e, pcs_len]
  have ne : piecesOf d ≠ [] := fun z => by rw [z] at hl; simp at hl; omega
  exact ⟨_, _, (List.dropLast_concat_getLast ne).symm⟩
/-- a patience as a value that may be none -/
def patO : PyData → Option Int
  | .int i => some i
  | _ => none
theorem pat_optD {d : PyData} (h : isPatience d = true) : d = optD (patO d) := by
  cases d <;> first | rfl | cases h
theorem plan_has {d : PyData} (h : isPlan d = true) {ps : List PieceT} {pc : PieceT} (e : piecesOf d = ps ++ [pc]) {n : Int} (hu : under pc.2.1 n = true) : ∃ o : Option Int, HasP (piecesOf d) n (optD o) := by
  obtain ⟨ds, _, e2, _, _, hpc, hno, _⟩ := plan_partsF h
  rw [e2] at e ⊢
  obtain ⟨pp, h1, d', h2, h3⟩ := find_pcs n ds 0 hpc hno ps pc e hu
  obtain ⟨t1, t2⟩ := turns_ok (List.all_eq_true.mp hpc d' h2)
  have hl : 0 < pp.2.2.length := by rw [h3]; omega
  have m1 : 0 ≤ (n - pp.1) % (pp.2.2.length : Int) := Int.emod_nonneg _ (by omega)
  have m2 : (n - pp.1) % (pp.2.2.length : Int) < (pp.2.2.length : Int) := Int.emod_lt_of_pos _ (by omega)
  have m3 : ((n - pp.1) % (pp.2.2.length : Int)).toNat < pp.2.2.length := by omega
  have m4 : isPatience (pp.2.2[((n - pp.1) % (pp.2.2.length : Int)).toNat]) = true := t2 _ (by rw [← h3]; exact List.getElem_mem m3)
  exact ⟨patO (pp.2.2[((n - pp.1) % (pp.2.2.length : Int)).toNat]), pp, h1, hl, by rw [List.getElem?_eq_getElem m3, ← pat_optD m4]⟩
/-- what is told at a moment, or which refusal -/
def MomP (P1 P2 C C3 C4 : Addr) (d c : PyData) (H : Hp) (E : XK) (R : (Nat → Option Int) → Nat → Prop) : Prop :=
  (isPlan d = false → ∀ H', Ex H H' → Tb P1 P2 H' → E (.ref C) none H') ∧ (isPlan d = true → ∃ ps pc, piecesOf d = ps ++ [pc] ∧ (momentOk pc.2.1 c = false → ∀ H', Ex H H' → Tb P1 P2 H' → E (.ref C3) none H') ∧
    (momentOk pc.2.1 c = true → ∃ n : Nat, c = .int (n : Int) ∧ (2000 < n → ∀ H', Ex H H' → Tb P1 P2 H' → E (.ref C4) none H') ∧ (n ≤ 2000 → ∀ pat : Nat → Option Int, (∀ k : Nat, k < n → HasP (piecesOf d) (k : Int) (optD (pat k))) → R pat n)))
def spListed (P1 P2 C C3 C4 : Addr) : Sp := fun vs H Q E => ∃ v u d c, vs = [v, u] ∧ Rp H v d ∧ Rp H u c ∧ Tb P1 P2 H ∧ MomP P1 P2 C C3 C4 d c H E fun pat n => ∀ p L1 L2 H', Ex H H' → Tb P1 P2 H' → H L1 = none → H L2 = none → L1 ≠ L2 → H' p = some (.tup [.ref L1, .ref L2]) →
  H' L1 = some (.lst ((lined pat n).1.map V.int)) → H' L2 = some (.lst ((lined pat n).2.map optV)) → Q (.ref p) H'
def spQueue (P1 P2 C C3 C4 : Addr) : Sp := fun vs H Q E => ∃ v u d c, vs = [v, u] ∧ Rp H v d ∧ Rp H u c ∧ Tb P1 P2 H ∧ MomP P1 P2 C C3 C4 d c H E fun pat n => ∀ L H', Ex H H' → Tb P1 P2 H' → H L = none → H' L = some (.lst ((lined pat n).1.map V.int)) → Q (.ref L) H'
theorem momentOk_nat {past : Option Int} {c : PyData} (h : momentOk past c = true) : ∃ n : Nat, c = .int (n : Int) := by
  cases c with
  | int i =>
    rw [momentOk_int] at h
    simp only [Bool.and_eq_true, decide_eq_true_eq] at h
    exact ⟨i.toNat, by rw [Int.toNat_of_nonneg h.1.1]⟩
  | _ => cases h
section
variable {P : Program} {w : World} {K : PySem.W.Frag} {mg : Str → Option Value} {base : Heap}
theorem ok_listed {f P1 P2 C C3 C4 : Addr} {fd : FuncData} (F : Fun K "listed_at" "listed_at" sListed f fd) (hmost : ∃ t, mg "MOST_LISTED" = some (.int 2000 t)) (X4 : ExcC K mg "TooMany" C4) (CP : CalX P w K mg base 9 "pieces_of" ["plan"] (spPieces P1 P2 C)) (CK : CalX P w K mg base 9 "check_moment" ["pieces", "moment"] (spCkM C3))
    (CL : Cal P w K mg base 9 "line_up" ["pieces", "moment"] spLine) : FnOk P w K mg base (L2.CX P w) 10 f fd ["plan", "moment"] (spListed P1 P2 C C3 C4) := by
  refine F.okX scListed (fun vs H Q E ⟨v, u, d, c, e, _⟩ => by rw [e]; rfl) (fun cdv A outer s H vs Q E hr h => ?_)
  obtain ⟨v, u, d, c, rfl, hR, hU, hT, qE0, q⟩ := h
  obtain ⟨tm, hmo⟩ := hmost
  have nd := scListed.nd
  refine ⟨_, (pss_cons (ps_set (i := 2) nd rfl (.inl rfl) (pe_calX CP hr (by rfl) (passes_call (takes_of rfl rfl rfl rfl) fun _ _ _ _ h => h) (pa_cons (pv 0) pa_nil)))
    (pss_cons (ps_expr (pe_calX CK hr (by rfl) (passes_call (takes_of rfl rfl rfl rfl) fun _ _ _ _ h => h) (pa_cons (pv 2) (pa_cons (pv 1) pa_nil))))
    (pss_cons (ps_if (pt_cmpR op_gt (pv 1) (pe_glob (v := .int 2000) (by rfl) hmo ⟨_, rfl⟩) (nomark _)) (pss_one (ps_raise rfl (takes_of rfl rfl rfl rfl) (pmk_own0 PySem.F.excBase_ValueError X4.x X4.g X4.k (raises_own X4.b X4.t) rfl))) pss_nil)
    (pss_one (ps_ret (pe_cal CL hr (by rfl) (pa_cons (pv 2) (pa_cons (pv 1) pa_nil)))))))), ?_⟩
  refine ⟨v, rfl, v, d, rfl, hR, hT, qE0, fun z0 p H1 e1 t1 np rp => ?_⟩
  obtain ⟨ps, pc, hps, qE, q⟩ := q z0
  have hU1 := Rp.ex e1 c u hU
  have rp' := rp
  rw [hps] at rp'
  obtain ⟨a, ea, h⟩ := PcsAt.of rp'
  obtain rfl : p = a := V.ref.inj ea
  refine ⟨.ref p, rfl, u, rfl, p, u, ps, pc, c, rfl, h, hU1, fun z H2 s2 => qE z H2 (e1.trans (Ex.of s2)) (t1.same s2), fun z H2 s2 => ?_⟩
  obtain ⟨n, rfl, qB, q⟩ := q z
  cases hU1
  have rp2 : Rp H2 (.ref p) (.list ((piecesOf d).map pieceD)) := Rp.sm s2 rp
  obtain ⟨a, ea, h2⟩ := PcsAt.of rp2
  obtain rfl : p = a := V.ref.inj ea
  refine ⟨.int (n : Int), rfl, (n : Int), 2000, rfl, rfl, decide ((2000 : Int) < (n : Int)), rfl, ite2 (fun e2 => ?_) (fun e2 => ?_)⟩
  · exact qB (by have := of_decide_eq_true e2; omega) H2 (e1.trans (Ex.of s2)) (t1.same s2)
  · have hn : n ≤ 2000 := by
      have : ¬ (2000 : Int) < (n : Int) := fun z => e2 (decide_eq_true z)
      omega
    have hall : ∀ k : Nat, ∃ o : Option Int, k < n → HasP (piecesOf d) (k : Int) (optD o) := fun k => by
      by_cases hk : k < n
      · have hu : under pc.2.1 (k : Int) = true := by
          rw [momentOk_int] at z
          simp only [Bool.and_eq_true, decide_eq_true_eq] at z
          have z2 := z.2
          cases hp : pc.2.1 with
          | none => rfl
          | some m =>
            rw [hp] at z2
            have z3 : (n : Int) ≤ m := of_decide_eq_true z2
            exact decide_eq_true (by omega)
        obtain ⟨o, ho⟩ := plan_has z0 hps hu
        exact ⟨o, fun _ => ho⟩
      · exact ⟨none, fun z => absurd z hk⟩
    obtain ⟨pat, hpat⟩ : ∃ pat : Nat → Option Int, ∀ k : Nat, k < n → HasP (piecesOf d) (k : Int) (optD (pat k)) := ⟨fun k => Classical.choose (hall k), fun k => Classical.choose_spec (hall k)⟩
    refine ⟨.ref p, rfl, .int (n : Int), rfl, p, piecesOf d, n, pat, rfl, h2, hn, hpat, fun p2 L1 L2 H3 s3 m1 m2 ne a1 a2 a3 => ?_⟩
    have e3 := e1.trans (Ex.of s2)
    exact q hn pat hpat p2 L1 L2 H3 (e3.trans (Ex.of s3)) ((t1.same s2).same s3) (e3.free m1) (e3.free m2) ne a1 a2 a3
theorem MomP.imp {P1 P2 C C3 C4 : Addr} {d c : PyData} {H : Hp} {E : XK} {R R' : (Nat → Option Int) → Nat → Prop} (m : MomP P1 P2 C C3 C4 d c H E R) (h : ∀ pat n, R pat n → R' pat n) : MomP P1 P2 C C3 C4 d c H E R' :=
  ⟨m.1, fun z => let ⟨ps, pc, e, a, b⟩ := m.2 z; ⟨ps, pc, e, a, fun y => let ⟨n, e2, a2, b2⟩ := b y; ⟨n, e2, a2, fun l pat hp => h _ _ (b2 l pat hp)⟩⟩⟩
theorem ok_queue {f P1 P2 C C3 C4 : Addr} {fd : FuncData} (F : Fun K "queue_at" "queue_at" sQueue f fd) (CL : CalX P w K mg base 10 "listed_at" ["plan", "moment"] (spListed P1 P2 C C3 C4)) : FnOk P w K mg base (L2.CX P w) 11 f fd ["plan", "moment"] (spQueue P1 P2 C C3 C4) := by
  refine F.okX scQueue (fun vs H Q E ⟨v, u, d, c, e, _⟩ => by rw [e]; rfl) (fun cdv A outer s H vs Q E hr h => ?_)
  obtain ⟨v, u, d, c, rfl, hR, hU, hT, hm⟩ := h
  have nd := scQueue.nd
  refine ⟨_, (pss_cons (ps_asg (pe_calX CL hr (by rfl) (passes_call (takes_of rfl rfl rfl rfl) fun _ _ _ _ h => h) (pa_cons (pv 0) (pa_cons (pv 1) pa_nil))) (pg_tup rfl (pgs_cons (pg_name (i := 2) nd rfl (.inl rfl)) (pgs_cons (pg_name (i := 3) nd rfl (.inl rfl)) pgs_nil))))
    (pss_one (ps_ret (pv 2)))), ?_⟩
  refine ⟨v, rfl, u, rfl, v, u, d, c, rfl, hR, hU, hT, hm.imp fun pat n q p L1 L2 H' e1 t1 m1 m2 ne a1 a2 a3 => ?_⟩
  exact ⟨p, _, rfl, SqT.of a1, rfl, .ref L1, _, rfl, .ref L2, _, rfl, rfl, .ref L1, rfl, q L1 H' e1 t1 m1 a2⟩
end
end CL
set_option Elab.async false
set_option linter.all false
set_option pp.maxSteps 700
set_option maxRecDepth 100000
set_option maxHeartbeats 4000000
namespace CL
open PySem PySem.Spec PyProof.Rows L2 GE TL
abbrev sHow : Stmt := topS 35
theorem scHow : FnScope ["plan"] ["plan"] (defScope sHow) := ⟨rfl, rfl, rfl, by decide +kernel, rfl, by decide +kernel, by decide +kernel⟩
def spHow (P1 P2 C : Addr) : Sp := fun vs H Q E => ∃ v d, vs = [v] ∧ Rp H v d ∧ Tb P1 P2 H ∧ (isPlan d = false → ∀ H', Ex H H' → Tb P1 P2 H' → E (.ref C) none H') ∧
  (isPlan d = true → ∃ ps pc, piecesOf d = ps ++ [pc] ∧ ∀ H', Ex H H' → Tb P1 P2 H' → Q (optV pc.2.1) H')

abbrev sSame : Stmt := topS 58
abbrev nSame : List Str := ["bag", "plan", "other", "many", "most", "again", "person", "moment"]
theorem scSame : FnScope nSame ["bag", "plan", "other"] (defScope sSame) := ⟨rfl, rfl, rfl, by decide +kernel, rfl, by decide +kernel, by decide +kernel⟩
def spSame (P1 P2 : Addr) (r : Bg) : Sp := fun vs H Q _ => ∃ (vp vo : V) (d : PyData) (n : Nat), vs = [.ref r.a, vp, vo] ∧ BagAt n H r ∧ n + 3 ≤ M60 ∧ Rp (Hw (fun b => b = r.a) H) vp d ∧ Rp (Hw (fun b => b = r.a) H) vo d ∧ isPlan d = true ∧ Tb P1 P2 H ∧
  ∀ H', BagAt (n + 3) H' r → (∀ b o, b ≠ r.a → H b = some o → H' b = some o ∨ ∃ ps qs, o = .tbl ps ∧ H' b = some (.tbl qs) ∧ TriplesOk qs.toList) → Q (.bl true) H'
/-! ### what stays -/
def Eb (r : Bg) (H H' : Hp) : Prop := ∀ b o, b ≠ r.a → H b = some o → H' b = some o ∨ ∃ ps qs, o = .tbl ps ∧ H' b = some (.tbl qs) ∧ TriplesOk qs.toList
theorem Eb.refl (r : Bg) (H : Hp) : Eb r H H := fun _ _ _ h => .inl h
theorem Eb.ex {r : Bg} {H H1 H2 : Hp} (e : Eb r H H1) (x : Ex H1 H2) : Eb r H H2 := fun b o n h => by
  rcases e b o n h with z | ⟨ps, qs, rfl, z, t⟩
  · exact x b o z
  · rcases x b _ z with y | ⟨ps2, qs2, e2, y, t2⟩
    · exact .inr ⟨ps, qs, rfl, y, t⟩
    · exact .inr ⟨ps, qs2, rfl, y, t2⟩
theorem Eb.mv {r : Bg} {H H1 H2 : Hp} (e : Eb r H H1) (m : Mv r H1 H2) : Eb r H H2 := fun b o n h => by
  rcases e b o n h with z | ⟨ps, qs, rfl, z, t⟩
  · exact .inl (m.keep b o n z)
  · exact .inr ⟨ps, qs, rfl, m.keep b _ n z, t⟩
theorem tabG_bag {n : Nat} {P : Addr} {r : Bg} {H H' : Hp} (h : GxR.TabG H P) (hr : BagAt n H r) (m : Mv r H H') : GxR.TabG H' P := by
  obtain ⟨ps, e, t⟩ := h
  obtain ⟨ns, i, b, k, t0, ea, _⟩ := hr.ex
  exact ⟨ps, m.keep P _ (fun z => by rw [z, ea] at e; cases e) e, t⟩
structure Smt (P1 P2 : Addr) (r : Bg) (H0 : Hp) (vp vo : V) (d : PyData) (n : Nat) (H : Hp) : Prop where
  bag : BagAt n H r
  eb : Eb r H0 H
  rp : Rp (Hw (fun b => b = r.a) H) vp d
  ro : Rp (Hw (fun b => b = r.a) H) vo d
  tb : Tb P1 P2 H
theorem Smt.ex {P1 P2 : Addr} {r : Bg} {H0 H H' : Hp} {vp vo : V} {d : PyData} {n : Nat} (s : Smt P1 P2 r H0 vp vo d n H) (e : Ex H H') (t : Tb P1 P2 H') : Smt P1 P2 r H0 vp vo d n H' :=
  ⟨s.bag.kx e, s.eb.ex e, Rp.ex (e.hw) d vp s.rp, Rp.ex (e.hw) d vo s.ro, t⟩
theorem Smt.mv {P1 P2 : Addr} {r : Bg} {H0 H H' : Hp} {vp vo : V} {d : PyData} {n m : Nat} (s : Smt P1 P2 r H0 vp vo d n H) (b : BagAt m H' r) (e : Mv r H H') : Smt P1 P2 r H0 vp vo d m H' :=
  ⟨b, s.eb.mv e, Rp.sm (e.hw (W := fun b => b = r.a) rfl) s.rp, Rp.sm (e.hw (W := fun b => b = r.a) rfl) s.ro, ⟨tabG_bag s.tb.1 s.bag e, tabG_bag s.tb.2 s.bag e⟩⟩
theorem Smt.p {P1 P2 : Addr} {r : Bg} {H0 H : Hp} {vp vo : V} {d : PyData} {n : Nat} (s : Smt P1 P2 r H0 vp vo d n H) : Rp H vp d := Rp.sm (Hw.sub _ H) s.rp
theorem Smt.o {P1 P2 : Addr} {r : Bg} {H0 H : Hp} {vp vo : V} {d : PyData} {n : Nat} (s : Smt P1 P2 r H0 vp vo d n H) : Rp H vo d := Rp.sm (Hw.sub _ H) s.ro
/-! ### how many there are, told -/
theorem sum_nn : ∀ ds : List PyData, (∀ d ∈ ds, isPiece d = true) → 0 ≤ sumSnd ds
  | [], _ => Int.le_refl _
  | x :: xs, h => by
    have e2 : sumSnd (x :: xs) = worth (sndD x) + sumSnd xs := rfl
    have := piece_worth (h x List.mem_cons_self)
    have := sum_nn xs fun d hd => h d (List.mem_cons_of_mem _ hd)
    omega
theorem last_bd {d : PyData} (h : isPlan d = true) {ps : List PieceT} {pc : PieceT} (e : piecesOf d = ps ++ [pc]) {m : Int} (hm : pc.2.1 = some m) : 0 ≤ m ∧ m ≤ GREAT := by
  obtain ⟨ds, _, e2, l1, _, hpc, _, hs⟩ := plan_partsF h
  have ne : ds ≠ [] := fun z => by rw [z] at l1; simp at l1
  have ed := (List.dropLast_concat_getLast ne).symm
  rw [e2, ed, pcs_snoc] at e
  have e3 := (List.append_inj' e rfl).2
  have e4 : ((0 : Int) + sumSnd ds.dropLast, pastO ((0 : Int) + sumSnd ds.dropLast) (sndD (ds.getLast ne)), turnsD (ds.getLast ne)) = pc := by
    have := congrArg List.head? e3
    simpa using this
  have e5 : pastO ((0 : Int) + sumSnd ds.dropLast) (sndD (ds.getLast ne)) = some m := by rw [← hm, ← e4]
  have hsum : sumSnd ds = sumSnd ds.dropLast + worth (sndD (ds.getLast ne)) := by
    conv => lhs; rw [ed]
    unfold sumSnd
    simp
  have em : m = sumSnd ds := by
    cases z : sndD (ds.getLast ne) with
    | int k =>
      rw [z] at e5 hsum
      have e6 : (0 : Int) + sumSnd ds.dropLast + k = m := Option.some.inj e5
      have : worth (.int k) = k := rfl
      omega
    | _ => rw [z] at e5; cases e5
  have := sum_nn ds fun x hx => List.all_eq_true.mp hpc x hx
  omega
theorem scal_opt : ∀ o : Option Int, scal (optV o) (optV o) = true
  | none => rfl
  | some _ => rfl
theorem HasP.uniq {ps : List PieceT} {n : Int} {a b : PyData} (h : HasP ps n a) (g : HasP ps n b) : a = b := by
  obtain ⟨p, h1, _, h3⟩ := h
  obtain ⟨q, g1, _, g3⟩ := g
  rw [h1] at g1
  obtain rfl := Option.some.inj g1
  rw [h3] at g3
  exact Option.some.inj g3
theorem ints_layS : ∀ gs : List Int, PyData.canLayAll0 (gs.map PyData.int) = true
  | [] => rfl
  | g :: gs => by
    have := ints_layS gs
    simp [PyData.canLayAll0, PyData.canLay0, this]
theorem ints_depthS : ∀ gs : List Int, PyData.depthAll (gs.map PyData.int) = 0
  | [] => rfl
  | g :: gs => by
    have := ints_depthS gs
    simp [PyData.depthAll, PyData.depth, this]
theorem ints_shapedS (gs : List Int) : SeqAt.shaped (.list (gs.map PyData.int)) = true := by
  unfold SeqAt.shaped
  simp [PyData.canLay0, PyData.depth, ints_layS, ints_depthS]
theorem ints_self : ∀ as : List Int, PyData.eqvAll (as.map PyData.int) (as.map PyData.int) = true
  | [] => rfl
  | a :: as => by
    have ih := ints_self as
    simp [PyData.eqvAll, PyData.eqv, ih]
theorem ints_selfL (as : List Int) : PyData.eqv (.list (as.map PyData.int)) (.list (as.map PyData.int)) = true := by
  have := ints_self as
  simp [PyData.eqv, this]
theorem ints_dpS {K : PySem.W.Frag} {H : Hp} : ∀ as : List Int, DpAll K H (as.map V.int) (as.map PyData.int)
  | [] => .nil
  | a :: as => .cons (.int a) (ints_dpS as)
theorem lined_same {p q : Nat → Option Int} : ∀ n : Nat, (∀ k : Nat, k < n → p k = q k) → lined p n = lined q n
  | 0, _ => rfl
  | n + 1, h => by
    show stand (lined p n) (n : Int) (p n) = stand (lined q n) (n : Int) (q n)
    rw [lined_same n fun k hk => h k (by omega), h n (by omega)]
theorem optD_inj : ∀ {a b : Option Int}, optD a = optD b → a = b
  | none, none, _ => rfl
  | some _, some _, h => congrArg some (PyData.int.inj h)
  | none, some _, h => by cases h
  | some _, none, h => by cases h
theorem if_most {σ : L2.St} {H : Hp} {Q : VK} {i : Nat} (o : Option Int) (hi : σ[i]? = some (some (optV o))) (q : Q (.int (o.getD GREAT)) H) :
    tIf (tB (tIsN (tVar i))) (tOp (rI CPow fun i j => V.int (i ^ j.toNat)) (tC (V.int 10)) (tC (V.int 30))) (tVar i) σ H Q := by
  refine ⟨_, hi, _, rfl, ?_⟩
  cases o with
  | none =>
    rw [if_pos (by rfl)]
    refine ⟨10, 30, rfl, rfl, (by unfold CPow; decide), ?_⟩
    show Q (.int ((10 : Int) ^ (30 : Int).toNat)) H
    rw [p30]
    exact q
  | some m =>
    rw [if_neg (by simp [optV])]
    exact ⟨_, hi, q⟩
theorem ne_opt {o : Option Int} : ¬ (!decide (optV o = optV o)) = true := by simp
section
variable {P : Program} {w : World} {K : PySem.W.Frag} {mg : Str → Option Value} {base : Heap}
theorem ok_how {f P1 P2 C : Addr} {fd : FuncData} (F : Fun K "how_many" "how_many" sHow f fd) (CP : CalX P w K mg base 9 "pieces_of" ["plan"] (spPieces P1 P2 C)) (CM : Cal P w K mg base 9 "many_in" ["pieces"] spMany) :
    FnOk P w K mg base (L2.CX P w) 10 f fd ["plan"] (spHow P1 P2 C) := by
  refine F.okX scHow (fun vs H Q E ⟨v, d, e, _⟩ => by rw [e]; rfl) (fun cdv A outer s H vs Q E hr h => ?_)
  obtain ⟨v, d, rfl, hR, hT, qE, q⟩ := h
  refine ⟨_, (pss_one (ps_ret (pe_cal CM hr (by rfl) (pa_cons (pe_calX CP hr (by rfl) (passes_call (takes_of rfl rfl rfl rfl) fun _ _ _ _ h => h) (pa_cons (pv 0) pa_nil)) pa_nil)))), ?_⟩
  refine ⟨v, rfl, v, d, rfl, hR, hT, qE, fun z p H' e1 t1 _ rp => ?_⟩
  obtain ⟨ps, pc, hps, q⟩ := q z
  rw [hps] at rp
  obtain ⟨a, ea, h⟩ := PcsAt.of rp
  obtain rfl : p = a := V.ref.inj ea
  exact ⟨p, ps, pc, rfl, h, q H' e1 t1⟩
theorem ok_same {f P1 P2 X1 X2 X3 X4 : Addr} {r : Bg} {fd : FuncData} (F : Fun K "_law_same" "_law_same" sSame f fd) (T : Nm mg) (N5 : Nm5 mg) (CD : Cal P w K mg base 2 "_law_draw" ["bag", "many"] (spDraw r)) (CH : CalX P w K mg base 10 "how_many" ["plan"] (spHow P1 P2 X1)) (CP : CalX P w K mg base 10 "patience_of" ["plan", "person"] (spPatOf P1 P2 X1 X2))
    (CQ : CalX P w K mg base 11 "queue_at" ["plan", "moment"] (spQueue P1 P2 X1 X3 X4)) : FnOk P w K mg base CX0 12 f fd ["bag", "plan", "other"] (spSame P1 P2 r) := by
  refine F.ok scSame (fun vs H Q E ⟨vp, vo, d, n, e, _⟩ => by rw [e]; rfl) (fun cdv A outer s H vs Q E hr h => ?_)
  obtain ⟨vp, vo, d, n, rfl, hb, hn, hp, ho, hpl, hT, q⟩ := h
  have nd := scSame.nd
  refine ⟨_, (pss_cons (ps_set (i := 3) nd rfl (.inl rfl) (pe_calX (CH.mono (by decide)) hr (by rfl) (passes_call takes0 fun _ _ _ _ h => h) (pa_cons (pv 1) pa_nil)))
      (pss_cons (ps_if (pt_cmpR op_ne (pe_calX (CH.mono (by decide)) hr (by rfl) (passes_call takes0 fun _ _ _ _ h => h) (pa_cons (pv 2) pa_nil)) (pv 3) (nomark _)) (pss_one (ps_ret pe_bl)) pss_nil)
      (pss_cons (ps_set (i := 4) nd rfl (.inl rfl) (pe_ifExp (pt_cmp (pc_isN (pv 3))) (pe_op op_pow pe_int pe_int) (pv 3)))
      (pss_cons (ps_for PassesOwn.never rfl (pi_range1 (by rfl) N5.range (pa_cons (pe_op op_mul pe_int (pe_callTy call_int1 (by rfl) T.int (by decide +kernel) (pa_cons (pe_cmpR op_gt (pv 4) pe_int (nomark _)) pa_nil))) pa_nil)) (pg_name (i := 5) nd rfl (.inl rfl)) (pss_cons (ps_set (i := 6) nd rfl (.inl rfl) (pe_cal (CD.mono (by decide)) hr (by rfl) (pa_cons (pv 0) (pa_cons (pv 4) pa_nil))))
      (pss_one (ps_if (pt_cmpR op_ne (pe_calX (CP.mono (by decide)) hr (by rfl) (passes_call takes0 fun _ _ _ _ h => h) (pa_cons (pv 2) (pa_cons (pv 6) pa_nil))) (pe_calX (CP.mono (by decide)) hr (by rfl) (passes_call takes0 fun _ _ _ _ h => h) (pa_cons (pv 1) (pa_cons (pv 6) pa_nil))) (nomark _)) (pss_one (ps_ret pe_bl)) pss_nil))))
      (pss_cons (ps_set (i := 7) nd rfl (.inl rfl) (pe_callB (call_min2 rfl) (by rfl) N5.min (by decide +kernel) (pa_cons (pv 4) (pa_cons pe_int pa_nil))))
      (pss_one (ps_ret (pe_cmpR (op_eqD hr.units) (pe_calX (CQ.mono (by decide)) hr (by rfl) (passes_call takes0 fun _ _ _ _ h => h) (pa_cons (pv 2) (pa_cons (pv 7) pa_nil))) (pe_calX (CQ.mono (by decide)) hr (by rfl) (passes_call takes0 fun _ _ _ _ h => h) (pa_cons (pv 1) (pa_cons (pv 7) pa_nil))) (nomark _))))))))), ?_⟩
  obtain ⟨ps, pc, epl⟩ := plan_last hpl
  have S0 : Smt P1 P2 r H vp vo d n H := ⟨hb, Eb.refl r H, hp, ho, hT⟩
  have noP : ∀ {c : Prop}, isPlan d = false → c := fun z => by rw [hpl] at z; cases z
  refine ⟨vp, rfl, vp, d, rfl, S0.p, S0.tb, fun z => noP z, fun _ => ⟨ps, pc, epl, fun H1 e1 t1 => ?_⟩⟩
  have S1 := S0.ex e1 t1
  have hk0 : 0 ≤ pc.2.1.getD GREAT ∧ pc.2.1.getD GREAT ≤ GREAT := by
    cases z : pc.2.1 with
    | none => exact ⟨by decide, Int.le_refl _⟩
    | some m => exact last_bd hpl epl z
  have hun : ∀ x : Int, 0 ≤ x → x < pc.2.1.getD GREAT → under pc.2.1 x = true := fun x h0 h1 => by
    cases z : pc.2.1 with
    | none => rfl
    | some m => rw [z] at h1; exact decide_eq_true h1
  have hup : ∀ x : Int, 0 ≤ x → x ≤ pc.2.1.getD GREAT → momentOk pc.2.1 (.int x) = true := fun x h0 h1 => by
    rw [momentOk_int]
    have : upto pc.2.1 x = true := by
      cases z : pc.2.1 with
      | none => rfl
      | some m => rw [z] at h1; exact decide_eq_true h1
    simp only [this, Bool.and_true, Bool.and_eq_true, decide_eq_true_eq]
    exact ⟨h0, by omega⟩
  refine ⟨vo, rfl, vo, d, rfl, S1.o, S1.tb, fun z => noP z, fun _ => ⟨ps, pc, epl, fun H2 e2 t2 => ?_⟩⟩
  have S2 := S1.ex e2 t2
  refine ⟨_, rfl, scal_opt _, _, rfl, ?_⟩
  dsimp only
  rw [if_neg ne_opt]
  refine if_most pc.2.1 rfl ?_
  generalize pc.2.1.getD GREAT = k at hk0 hun hup ⊢
  dsimp only [gName]
  show tSeq _ _ _ [some (.ref r.a), some vp, some vo, some (optV pc.2.1), some (.int k), none, none, none] H2
  generalize hc : (if decide (0 < k) = true then (1 : Int) else 0) = c
  have hc3 : 0 ≤ c ∧ c ≤ 1 ∧ (0 < c → 0 < k) := by
    by_cases z : 0 < k
    · rw [if_pos (decide_eq_true z)] at hc; subst hc; exact ⟨by decide, by decide, fun _ => z⟩
    · rw [if_neg (by simpa using z)] at hc; subst hc; exact ⟨by decide, by decide, fun z => absurd z (by decide)⟩
  refine ⟨_, rfl, _, _, rfl, rfl, .inr ⟨_, rfl, _, _, rfl, rfl, .inl ⟨by decide, by decide⟩, _, rfl, ?_, ?_, ?_⟩⟩
  · rw [hc]; omega
  · rw [hc]; omega
  rw [hc]
  refine for_range (lo := 0) (n := (3 * c).toNat) (fun i σ H2 => ∃ y5 y6, σ = [some (.ref r.a), some vp, some vo, some (optV pc.2.1), some (.int k), y5, y6, none] ∧ Smt P1 P2 r H vp vo d (n + i) H2)
    ⟨none, none, rfl, S2⟩ (fun i σ H3 hi hP => ?_) (fun σ H3 hP => ?_)
  · obtain ⟨y5, y6, rfl, S3⟩ := hP
    have kp : 0 < k := hc3.2.2 (by omega)
    dsimp only [gName]
    show tSeq _ _ _ [some (.ref r.a), some vp, some vo, some (optV pc.2.1), some (.int k), some (.int (0 + (i : Int))), y6, none] H3
    refine ⟨.ref r.a, rfl, .int k, rfl, k, n + i, rfl, S3.bag, by omega, by omega, Int.lt_of_le_of_lt hk0.2 (by decide), fun x H4 b4 m4 x0 xk => ?_⟩
    have S4 := S3.mv b4 m4
    obtain ⟨o, ho⟩ := plan_has hpl epl (hun x x0 xk)
    have hpo : personOk pc.2.1 (.int x) = true := by rw [personOk_int, hun x x0 xk, decide_eq_true x0]; rfl
    dsimp only [gName]
    show tIfS _ _ _ _ [some (.ref r.a), some vp, some vo, some (optV pc.2.1), some (.int k), some (.int (0 + (i : Int))), some (.int x), none] H4
    refine ⟨vo, rfl, .int x, rfl, vo, .int x, d, .int x, rfl, S4.o, .int x, S4.tb, fun z => noP z, fun _ => ⟨ps, pc, epl, (fun z => by rw [hpo] at z; cases z), fun _ => ⟨x, optD o, rfl, ho, fun u H5 e5 t5 ru => ?_⟩⟩⟩
    have S5 := S4.ex e5 t5
    refine ⟨vp, rfl, .int x, rfl, vp, .int x, d, .int x, rfl, S5.p, .int x, S5.tb, fun z => noP z, fun _ => ⟨ps, pc, epl, (fun z => by rw [hpo] at z; cases z), fun _ => ⟨x, optD o, rfl, ho, fun u2 H6 e6 t6 ru2 => ?_⟩⟩⟩
    have S6 := S5.ex e6 t6
    obtain rfl := rp_optV ru
    obtain rfl := rp_optV ru2
    refine ⟨scal_opt o, _, rfl, ?_⟩
    dsimp only
    rw [if_neg ne_opt]
    exact ⟨_, _, rfl, S6⟩
  · obtain ⟨y5, y6, rfl, S3⟩ := hP
    refine ⟨.int k, rfl, k, 40, rfl, ?_⟩
    obtain ⟨mn, hmn, hm40, hmk⟩ : ∃ mn : Nat, (if (40 : Int) < k then (40 : Int) else k) = (mn : Int) ∧ mn ≤ 40 ∧ (mn : Int) ≤ k := by
      by_cases z : (40 : Int) < k
      · exact ⟨40, by rw [if_pos z]; rfl, by decide, by show (40 : Int) ≤ k; omega⟩
      · exact ⟨k.toNat, by rw [if_neg z]; omega, by omega, by omega⟩
    rw [hmn]
    dsimp only [gName]
    show tRet _ _ [some (.ref r.a), some vp, some vo, some (optV pc.2.1), some (.int k), y5, y6, some (.int (mn : Int))] H3
    have hmo := hup (mn : Int) (by omega) hmk
    refine ⟨vo, rfl, .int (mn : Int), rfl, vo, .int (mn : Int), d, .int (mn : Int), rfl, S3.o, .int _, S3.tb, fun z => noP z, fun _ => ⟨ps, pc, epl, (fun z => by rw [hmo] at z; cases z), fun _ => ⟨mn, rfl, (fun z => by omega), fun _ pa hpa L1 H4 e4 t4 n4 l4 => ?_⟩⟩⟩
    have S4 := S3.ex e4 t4
    refine ⟨vp, rfl, .int (mn : Int), rfl, vp, .int (mn : Int), d, .int (mn : Int), rfl, S4.p, .int _, S4.tb, fun z => noP z, fun _ => ⟨ps, pc, epl, (fun z => by rw [hmo] at z; cases z), fun _ => ⟨mn, rfl, (fun z => by omega), fun _ pb hpb L2 H5 e5 t5 n5 l5 => ?_⟩⟩⟩
    have S5 := S4.ex e5 t5
    rw [lined_same mn fun k hk => optD_inj ((hpb k hk).uniq (hpa k hk))] at l5
    refine ⟨_, _, .lst (SqL.of (e5.lst l4)) (ints_dpS _), .lst (SqL.of l5) (ints_dpS _), ints_shapedS _, ints_shapedS _, ?_⟩
    rw [ints_selfL]
    exact q H5 (S5.bag.mono (by omega)) S5.eb
end
end CL
set_option Elab.async false
set_option linter.all false
set_option maxRecDepth 100000
set_option maxHeartbeats 4000000
namespace CL
open PySem PySem.Spec PyProof.Rows L2 GE TL
/-! ### what the law asks of plans' texts -/
theorem rowsS_plain (t : Str) : ∀ x ∈ rowsS t, PlainR x := fun x hx => by
  unfold rowsS at hx
  obtain ⟨p, _, rfl⟩ := List.mem_map.mp hx
  exact rowS_plain _
theorem plan_cut {L : List RowT} (hL : L ≠ []) (h : ∀ x ∈ L, RowN x) (k : Nat) : Txt.join ", " ((Txt.split (planS (planD L)) ", ").take k) = planS (planD (L.take k)) := by
  rw [plan_split hL h, planS_rows, List.map_take]
theorem PlanL.take {L : List RowT} (h : PlanL L) {k : Nat} (hk : 1 ≤ k) : PlanL (L.take k) := by
  refine ⟨by rw [List.length_take]; have := h.l1; omega, by rw [List.length_take]; have := h.l8; omega, fun x hx => h.rows x (List.mem_of_mem_take hx), fun i x hx => ?_⟩
  have hi : i < k := by
    obtain ⟨hi, _⟩ := List.getElem?_eq_some_iff.mp hx
    rw [List.length_take] at hi
    omega
  rw [List.getElem?_take_of_lt hi] at hx
  rcases h.many i x hx with z | ⟨z, y⟩
  · exact .inl z
  · exact .inr ⟨by rw [List.length_take]; omega, y⟩
theorem plan_read {L : List RowT} (hL : L ≠ []) (h : ∀ x ∈ L, RowN x) : readT (planS (planD L)) = isPlan (planD L) := by
  unfold readT
  rw [rows_back hL h, List.all_eq_true.mpr (forms_plan hL h), Bool.true_and]
/-- what is read of a text alike to a plan is that plan's text -/
theorem read_eqv {L : List RowT} {t : Str} (hL : PlanL L) (h : readT t = true) (e : PyData.eqv (planD (rowsS t)) (planD L) = true) : t = planS (planD L) := by
  rw [← (plan_eqv (rowsS_plain t) fun x hx => ((planL_row hL).2 x hx).plain).mp e, read_again h]
theorem tl_eq {a b : Str} (h : tl a = tl b) : a = b := by
  cases a; cases b
  exact congrArg Str.mk (Array.toList_inj.mp h)
theorem plan_both {L M : List RowT} (hL : L ≠ []) (hM : M ≠ []) : planS (planD L) ++ Str.ofString ", " ++ planS (planD M) = planS (planD (L ++ M)) := by
  rw [planS_rows, planS_rows, planS_rows, List.map_append]
  have hM' : M.map pieceR ≠ [] := fun z => hM (List.map_eq_nil_iff.mp z)
  have : ∀ xs ys : List Str, xs ≠ [] → ys ≠ [] → tl (Str.join ", " xs ++ Str.ofString ", " ++ Str.join ", " ys) = tl (Str.join ", " (xs ++ ys)) := by
    intro xs ys hx hy
    induction xs with
    | nil => exact absurd rfl hx
    | cons x xs ih =>
      cases xs with
      | nil =>
        cases ys with
        | nil => exact absurd rfl hy
        | cons y ys => rfl
      | cons z zs =>
        have ih := ih nofun
        have e1 : Str.join ", " (x :: z :: zs) = x ++ Str.ofString ", " ++ Str.join ", " (z :: zs) := rfl
        have e2 : Str.join ", " (x :: z :: zs ++ ys) = x ++ Str.ofString ", " ++ Str.join ", " (z :: zs ++ ys) := rfl
        rw [e1, e2]
        simp only [tl_append] at ih ⊢
        rw [← ih]
        simp only [List.append_assoc]
  have jj : ∀ xs : List Str, Txt.join ", " xs = Str.join ", " xs := fun xs => by rw [← StrLaws.glued_eq_join]; rfl
  rw [jj, jj, jj]
  exact tl_eq (this _ _ (fun z => hL (List.map_eq_nil_iff.mp z)) hM')
/-! ### what stays over the law's turns -/
theorem Eb.hw {r : Bg} {H H' : Hp} (e : Eb r H H') : Ex (Hw (fun b => b = r.a) H) (Hw (fun b => b = r.a) H') := fun b o h => by
  have hb := Hw.ne h
  rw [Hw.at (W := fun b => b = r.a) hb] at h ⊢
  exact e b o hb h
theorem tabG_eb {n : Nat} {P : Addr} {r : Bg} {H H' : Hp} (h : GxR.TabG H P) (hr : BagAt n H r) (e : Eb r H H') : GxR.TabG H' P := by
  obtain ⟨ps, ep, t⟩ := h
  obtain ⟨ns, i, b, k, t0, ea, _⟩ := hr.ex
  rcases e P _ (fun z => by rw [z, ea] at ep; cases ep) ep with z | ⟨ps', qs, _, z, t'⟩
  · exact ⟨ps, z, t⟩
  · exact ⟨qs, z, t'⟩
structure Lw (P1 P2 P3 : Addr) (r : Bg) (G : Gam) (n : Nat) (H : Hp) : Prop where
  se : Se n r (fun b => b = r.a) G H
  tb : Tb P1 P2 H
  t3 : GxR.TabG H P3
section
variable {P1 P2 P3 : Addr} {r : Bg} {G : Gam} {n m : Nat} {H H' : Hp}
theorem Lw.eb (s : Lw P1 P2 P3 r G n H) (b : BagAt m H' r) (e : Eb r H H') : Lw P1 P2 P3 r G m H' :=
  ⟨⟨b, ⟨rfl, fun c hc => by rw [hc]; exact b.some⟩, fun p hp => Rp.ex e.hw _ _ (s.se.ok p hp)⟩, ⟨tabG_eb s.tb.1 s.se.re e, tabG_eb s.tb.2 s.se.re e⟩, tabG_eb s.t3 s.se.re e⟩
theorem Lw.ex (s : Lw P1 P2 P3 r G n H) (x : Ex H H') : Lw P1 P2 P3 r G n H' := s.eb (s.se.re.kx x) ((Eb.refl r H).ex x)
theorem Lw.mv (s : Lw P1 P2 P3 r G n H) (b : BagAt m H' r) (v : Mv r H H') : Lw P1 P2 P3 r G m H' := s.eb b ((Eb.refl r H).mv v)
theorem Lw.push (s : Lw P1 P2 P3 r G n H) {v : V} {d : PyData} (h : Rp (Hw (fun b => b = r.a) H) v d) : Lw P1 P2 P3 r ((v, d) :: G) n H := ⟨⟨s.se.re, s.se.wk, GOk.cons s.se.ok h⟩, s.tb, s.t3⟩
theorem Lw.none (s : Lw P1 P2 P3 r G n H) : Lw P1 P2 P3 r [] n H := ⟨⟨s.se.re, s.se.wk, fun p hp => nomatch hp⟩, s.tb, s.t3⟩
theorem Lw.le (s : Lw P1 P2 P3 r G n H) (h : n ≤ m) : Lw P1 P2 P3 r G m H := s.eb (s.se.re.mono h) (Eb.refl r H)
end
theorem plan_len {L : List RowT} (h : ∀ x ∈ L, RowN x) : (planS (planD L)).length ≤ L.length * 2002 := by
  rw [planS_rows]
  have hs : ∀ M : List RowT, (∀ x ∈ M, RowN x) → ((M.map pieceR).map (·.length)).sum ≤ M.length * 2000 := by
    intro M
    induction M with
    | nil => intro _; exact Nat.le_refl _
    | cons e es ih =>
      intro h
      have h1 := pieceR_len (h e List.mem_cons_self)
      have h2 := ih fun d hd => h d (List.mem_cons_of_mem _ hd)
      simp only [List.map_cons, List.sum_cons, List.length_cons]
      omega
  have h1 := hs L h
  have h2 := StrLaws.join_length_le ", " (L.map pieceR)
  rw [← StrLaws.glued_eq_join, List.length_map] at h2
  have h3 : (Str.ofString ", ").length = 2 := rfl
  rw [h3] at h2
  refine Nat.le_trans h2 ?_
  omega
end CL
set_option Elab.async false
set_option linter.all false
set_option maxRecDepth 100000
set_option maxHeartbeats 4000000
namespace CL
open PySem PySem.Spec PyProof.Rows L2 GE
abbrev sPieces : Stmt := topS 28
theorem scPieces : FnScope nPieces ["plan"] (defScope sPieces) := ⟨rfl, rfl, rfl, by decide +kernel, rfl, by decide +kernel, by decide +kernel⟩
section
variable {P : Program} {w : World} {K : PySem.W.Frag} {mg : Str → Option Value} {base : Heap}
theorem ok_pieces {f P1 P2 C : Addr} {fd : FuncData} (F : Fun K "pieces_of" "pieces_of" sPieces f fd) (T : Nm mg) (CK : CalX P w K mg base 8 "check_plan" ["thing"] (spCheck P1 P2 C)) :
    FnOk P w K mg base (L2.CX P w) 9 f fd ["plan"] (spPieces P1 P2 C) := by
  refine F.okX scPieces (fun vs H Q E ⟨v, d, e, _⟩ => by rw [e]; rfl) (fun cdv A outer s H vs Q E hr h => ?_)
  obtain ⟨v, d, rfl, hR, hT, qE, q⟩ := h
  have nd := scPieces.nd
  refine ⟨_, (pss_cons (ps_expr (pe_calX CK hr (by rfl) (passes_call (takes_of rfl rfl rfl rfl) fun _ _ _ _ h => h) (pa_cons (pv 0) pa_nil))) (PSs.nox (pss_cons (ps_set (i := 1) nd rfl (.inl rfl) (pe_lst pa_nil))
    (pss_cons (ps_set (i := 2) nd rfl (.inl rfl) pe_int)
    (pss_cons (ps_for PassesOwn.never rfl (pi_seqW (pv 0)) (pg_seq rfl (pgs_cons (pg_name (i := 3) nd rfl (.inl rfl)) (pgs_cons (pg_name (i := 4) nd rfl (.inl rfl)) pgs_nil))) (pss_cons (ps_set (i := 5) nd rfl (.inl rfl) (pe_ifExp (pt_cmp (pc_isN (pv 4))) pe_non (pe_op op_add (pv 2) (pv 4))))
    (pss_cons (ps_expr (pe_bm PySem.F.plainAttrs_list PySem.F.slot_list_append PySem.F.type_list_append mt_append (pv 1) (pa_cons (pe_tup (pa_cons (pv 2) (pa_cons (pv 5) (pa_cons (pe_callTy call_tuple_of (by rfl) T.tuple PyProof.Rows.boot_tuple (pa_cons (pv 3) pa_nil)) pa_nil)))) pa_nil)))
    (pss_one (ps_set (i := 2) nd rfl (.inl rfl) (pv 5))))))
    (pss_one (ps_ret (pv 1)))))))), ?_⟩
  refine ⟨v, rfl, v, d, rfl, hR, hT, qE, fun hp H1 e1 tb1 => ?_⟩
  · skip
    have hR1 := Rp.ex e1 d v hR
    obtain ⟨ds, hds⟩ : ∃ ds, rowsD d = some ds := by
      cases z : rowsD d with
      | none => unfold isPlan at hp; rw [z] at hp; cases hp
      | some ds => exact ⟨ds, rfl⟩
    have val : isPlan d = isPlanL ds := by unfold isPlan; rw [hds]
    have hp' := hp
    rw [val] at hp'
    unfold isPlanL at hp'
    simp only [Bool.and_eq_true, decide_eq_true_eq, Bool.not_eq_true'] at hp'
    obtain ⟨⟨⟨⟨l1, l8⟩, hpc⟩, hno⟩, hsum⟩ := hp'
    obtain ⟨a, xs, rfl, hA, hso⟩ := hR1.rows hds
    have hst : StSeq H1 a xs := ⟨hso⟩
    have hlen := hA.length
    refine ⟨Nat.zero_le _, fun D hD => ?_⟩
    have eD0 : (upd H1 D (.lst [])) D = some (.lst []) := upd_same
    have s0 : Same H1 (Hw (fun b => b = D) (upd H1 D (.lst []))) := fun b o e => by
      rw [Hw.at fun z => by rw [z, hD] at e; cases e]
      exact same_upd hD b o e
    generalize hH0 : upd H1 D (.lst []) = H0 at eD0 s0
    have ex0 : ∀ {H2 : Hp}, Same H1 (Hw (fun b => b = D) H2) → Ex H1 H2 := fun {H2} s => Ex.of fun b o e => Hw.sub _ _ _ _ (s b o e)
    have naD : a ≠ D := fun z => by
      rcases hso with z2 | z2 <;> (rw [z, hD] at z2; cases z2)
    have stay : ∀ {H2 : Hp} {o : HO}, Same H1 (Hw (fun b => b = D) H2) → H0 a = some o → H2 a = some o := fun {H2 o} s ho => by
      rw [← hH0, upd_ne naD] at ho
      exact Hw.sub _ _ _ _ (s _ _ ho)
    show tSeq _ _ _ [some (.ref a), some (.ref D), none, none, none, none] H0
    refine ⟨.ref a, rfl, a, xs, rfl, hst.ex (ex0 s0), fun J hJ => for_seq (K := K) (a := a) (xs := xs) (fun i σ H2 => ∃ fv y3 y4 y5 vs, σ = [some (.ref a), some (.ref D), some fv, y3, y4, y5] ∧ (i < ds.length → fv = .int (sumSnd (ds.take i))) ∧ Same H1 (Hw (fun b => b = D) H2) ∧
        H2 D = some (.lst vs) ∧ vs.length = i ∧ RpAll (Hw (fun b => b = D) H2) vs ((pcs 0 (ds.take i)).map pieceD))
      ⟨.int 0, none, none, none, [], rfl, fun _ => rfl, s0, eD0, rfl, .nil⟩ (fun i σ H2 ⟨_, _, _, _, _, _, _, e, _⟩ => hJ H2 fun o ho => stay e ho) (fun i x σ H2 hx ⟨fv, y3, y4, y5, vs, es, hfv, s2, eD, lv, hv⟩ => ?_) (fun σ H2 ⟨fv, y3, y4, y5, vs, es, _, s2, eD, lv, hv⟩ => ?_)⟩
    · subst es
      obtain ⟨dx, hdx, hRx⟩ := hA.get hx
      have li : i < ds.length := by
        obtain ⟨z, _⟩ := List.getElem?_eq_some_iff.mp hdx
        exact z
      obtain rfl := hfv li
      obtain ⟨b, vt, vm, t, m, rfl, hsb, hvt, hvm, hrx, htu, hma⟩ := piece_at2 (all_get hpc hdx) (Rp.sm s2 hRx)
      have hsnd : sndD dx = m := sndD_two hrx
      obtain ⟨ts, hts⟩ : ∃ ts, rowsD t = some ts := by
        cases z : rowsD t with
        | none => unfold isTurns at htu; rw [z] at htu; cases htu
        | some ts => exact ⟨ts, rfl⟩
      have htd : turnsD dx = ts := by unfold turnsD; rw [hrx]; show (rowsD t).getD [] = ts; rw [hts]; rfl
      obtain ⟨t0, zs, rfl, hzs, hto⟩ := hvt.rows hts
      refine ⟨b, [.ref t0, vm], rfl, hsb.ex (Ex.of (Hw.sub _ _)), rfl, .ref t0, [vm], rfl, vm, [], rfl, rfl, ?_⟩
      have hS := sum_step hdx
      have epc : (pcs 0 (ds.take (i + 1))).map pieceD = (pcs 0 (ds.take i)).map pieceD ++ [pieceD (sumSnd (ds.take i), pastO (sumSnd (ds.take i)) m, ts)] := by
        rw [List.take_add_one, hdx]
        show (pcs 0 (ds.take i ++ [dx])).map pieceD = _
        rw [pcs_snoc, List.map_append, Int.zero_add, hsnd, htd]
        rfl
      generalize hSS : sumSnd (ds.take i) = S at hS epc ⊢
      obtain ⟨pv, hp1, hp2, hc⟩ : ∃ pv, (∀ H3, Rp H3 pv (optD (pastO S m))) ∧ (i + 1 < ds.length → pv = .int (sumSnd (ds.take (i + 1)))) ∧ ((vm = .non ∧ pv = .non) ∨ ∃ k, vm = .int k ∧ pv = .int (S + k)) := by
        rw [hsnd] at hS
        cases hvm with
        | non =>
          refine ⟨.non, fun _ => .non, fun lt => ?_, .inl ⟨rfl, rfl⟩⟩
          have z := List.any_eq_false.mp hno dx (List.mem_of_getElem? (i := i) (by rw [List.getElem?_take_of_lt (by omega : i < ds.length - 1)]; exact hdx))
          rw [hsnd] at z
          exact absurd rfl z
        | int k => exact ⟨.int (S + k), fun _ => .int _, fun _ => by rw [hS]; rfl, .inr ⟨k, rfl, rfl⟩⟩
        | _ => cases hma
      have fin : ∀ (l : Addr) (H3 : Hp), Same H2 H3 → Hw (fun b => b = D) H3 l = some (.tup zs) → ∀ p, H3 p = none → upd H3 p (.tup [.int S, pv, .ref l]) D = some (.lst vs) ∧ Same H1 (Hw (fun b => b = D) (upd (upd H3 p (.tup [.int S, pv, .ref l])) D (.lst (vs ++ [.ref p])))) ∧
          RpAll (Hw (fun b => b = D) (upd (upd H3 p (.tup [.int S, pv, .ref l])) D (.lst (vs ++ [.ref p])))) (vs ++ [.ref p]) ((pcs 0 (ds.take (i + 1))).map pieceD) := fun l H3 s3 el p np => by
        obtain ⟨e4, s5, eb⟩ := pieces_put (ys := [.int S, pv, .ref l]) eD s3 np
        have s25 := Same.trans (Same.hw (W := fun b => b = D) s3) s5
        refine ⟨e4, Same.trans s2 s25, ?_⟩
        rw [epc]
        exact (RpAll.sm s25 hv).snoc (.tup eb (.cons (.int S) (.cons (hp1 _) (.cons (.tup (s5 _ _ el) (RpAll.sm s25 hzs)) .nil))))
      have l3 : ∀ l : Addr, [V.int S, pv, .ref l].length ≤ sizeLine := fun l => small_le (by show 3 ≤ 1000; decide)
      have lvs : vs.length < sizeLine := small1000 (by omega)
      have lv1 : ∀ p : Addr, (vs ++ [V.ref p]).length = i + 1 := fun p => by rw [List.length_append, lv]; rfl
      have nlD : ∀ {l : Addr}, H2 l = none → Hw (fun b => b = D) (upd H2 l (.tup zs)) l = some (.tup zs) := fun {l} nl => by
        rw [Hw.at (W := fun b => b = D) fun z => by rw [z, eD] at nl; cases nl]
        exact upd_same
      rcases hc with ⟨rfl, rfl⟩ | ⟨k, rfl, rfl⟩
      · refine ⟨.non, rfl, _, rfl, iteT ⟨.ref D, rfl, .inl ⟨rfl, _, SqL.of eD⟩, .int S, rfl, .non, rfl, .ref t0, rfl, t0, zs, rfl, ?_⟩⟩
        rcases hto with ht | ht
        · refine .inl ⟨SqL.of (Hw.sub _ _ _ _ ht), fun l nl => ⟨l3 l, fun p np => ?_⟩⟩
          obtain ⟨e4, a1, a2⟩ := fin l _ (same_upd nl) (nlD nl) p np
          exact ⟨D, vs, .ref p, rfl, rfl, e4, lvs, .non, rfl, .non, _, _, _, _, rfl, hp2, a1, upd_same, lv1 p, a2⟩
        · refine .inr ⟨SqT.of (Hw.sub _ _ _ _ ht), l3 t0, fun p np => ?_⟩
          obtain ⟨e4, a1, a2⟩ := fin t0 H2 (Same.refl H2) ht p np
          exact ⟨D, vs, .ref p, rfl, rfl, e4, lvs, .non, rfl, .non, _, _, _, _, rfl, hp2, a1, upd_same, lv1 p, a2⟩
      · refine ⟨.int k, rfl, _, rfl, iteF ⟨.int S, rfl, .int k, rfl, S, k, rfl, rfl, .ref D, rfl, .inl ⟨rfl, _, SqL.of eD⟩, .int S, rfl, .int (S + k), rfl, .ref t0, rfl, t0, zs, rfl, ?_⟩⟩
        rcases hto with ht | ht
        · refine .inl ⟨SqL.of (Hw.sub _ _ _ _ ht), fun l nl => ⟨l3 l, fun p np => ?_⟩⟩
          obtain ⟨e4, a1, a2⟩ := fin l _ (same_upd nl) (nlD nl) p np
          exact ⟨D, vs, .ref p, rfl, rfl, e4, lvs, .int (S + k), rfl, .int (S + k), _, _, _, _, rfl, hp2, a1, upd_same, lv1 p, a2⟩
        · refine .inr ⟨SqT.of (Hw.sub _ _ _ _ ht), l3 t0, fun p np => ?_⟩
          obtain ⟨e4, a1, a2⟩ := fin t0 H2 (Same.refl H2) ht p np
          exact ⟨D, vs, .ref p, rfl, rfl, e4, lvs, .int (S + k), rfl, .int (S + k), _, _, _, _, rfl, hp2, a1, upd_same, lv1 p, a2⟩
    · subst es
      rw [hlen, List.take_length] at hv
      have hpo : piecesOf d = pcs 0 ds := by unfold piecesOf; rw [hds]; rfl
      exact ⟨.ref D, rfl, q hp D H2 (e1.trans (ex0 s2)) (tb1.same fun b o e => Hw.sub _ _ _ _ (s2 b o e)) (e1.free hD) (by rw [hpo]; exact .lst eD (RpAll.sm (Hw.sub _ _) hv))⟩
end
end CL
set_option Elab.async false
set_option linter.all false
set_option pp.maxSteps 900
set_option maxRecDepth 100000
set_option maxHeartbeats 4000000
namespace CL
open PySem PySem.Spec PyProof.Rows L2 GE TL
abbrev sLaw : Stmt := topS 59
abbrev nLaw : List Str := ["script", "bag", "turn", "plan", "more", "text", "again", "other", "found", "both", "at"]
theorem scLaw : FnScope nLaw ["script"] (defScope sLaw) := ⟨rfl, rfl, rfl, by decide +kernel, rfl, by decide +kernel, by decide +kernel⟩
theorem Told.hw {H0 H : Hp} {p : Addr} {bs ts : List Addr} {L : List RowT} {a : Addr} (T : Told H0 H p bs ts L) (ha : H0 a ≠ none) : Told (Hw (fun b => b = a) H0) (Hw (fun b => b = a) H) p bs ts L := by
  have ne : ∀ b, H0 b = none → ¬ (fun b => b = a) b := fun b h z => ha (by rw [← (z : b = a)]; exact h)
  refine ⟨by rw [Hw.at (W := fun b => b = a) (ne p T.p0)]; exact T.p0, by rw [Hw.at (W := fun b => b = a) (ne p T.p0)]; exact T.e, T.lb, T.lt, fun i b t x h1 h2 h3 => ?_, fun b hb => by rw [Hw.at (W := fun b => b = a) (ne b (T.b0 b hb))]; exact T.b0 b hb, fun b hb => by rw [Hw.at (W := fun b => b = a) (ne b (T.t0 b hb))]; exact T.t0 b hb, T.nd, T.tp⟩
  obtain ⟨r1, r2⟩ := T.row i b t x h1 h2 h3
  exact ⟨by rw [Hw.at (W := fun b => b = a) (ne b (T.b0 b (List.mem_of_getElem? h1)))]; exact r1, by rw [Hw.at (W := fun b => b = a) (ne t (T.t0 t (List.mem_of_getElem? h2)))]; exact r2⟩
theorem cutV_to (xs : List V) (k : Nat) (h : k ≤ xs.length) : cutV xs none (some (k : Int)) = xs.take k := by
  unfold cutV
  rw [HT.sIx_nat, Nat.min_eq_left h]
  rfl
theorem h_cat {σ : L2.St} {H : Hp} {Q : VK} {vP vM : V} {L M : List RowT} (hP : Rp H vP (planD L)) (hM : Rp H vM (planD M)) (h3 : σ[3]? = some (some vP)) (h4 : σ[4]? = some (some vM)) (l8 : L.length ≤ 8) (m8 : M.length ≤ 8)
    (q : ∀ c H', Ex H H' → Rp H' (.ref c) (planD (L ++ M)) → Q (.ref c) H') : tOp rCat (tVar 3) (tVar 4) σ H Q := by
  obtain ⟨pL, xL, rfl, eL, rL⟩ := rp_list hP
  obtain ⟨pM, xM, rfl, eM, rM⟩ := rp_list hM
  have lL := rL.length
  have lM := rM.length
  rw [List.length_map] at lL lM
  refine ⟨.ref pL, h3, .ref pM, h4, pL, pM, xL, xM, rfl, rfl, eL, eM, Nat.le_trans (by omega : _ ≤ 16) (by rw [sizeLine_eq]; decide), fun c nc => ?_⟩
  have x : Ex H (upd H c (.lst (xL ++ xM))) := Ex.of (same_upd nc)
  refine q c _ x (.lst upd_same ?_)
  rw [List.map_append]
  exact (RpAll.ex x _ _ rL).append (RpAll.ex x _ _ rM)
theorem sum2000 : ∀ xs : List Str, (∀ x ∈ xs, x.length ≤ 2000) → (xs.map (·.length)).sum ≤ xs.length * 2000
  | [], _ => Nat.le_refl _
  | x :: xs, h => by
    have h1 := h x List.mem_cons_self
    have h2 := sum2000 xs fun y hy => h y (List.mem_cons_of_mem _ hy)
    simp only [List.map_cons, List.sum_cons, List.length_cons]
    omega
def spLaw (K : PySem.W.Frag) (P1 P2 P3 : Addr) : Sp := fun vs H Q _ => ∃ (a : Addr) (ns : List Int), vs = [.ref a] ∧ SqL K H a (ns.map V.int) ∧ ns.length ≤ 63 ∧ Tb P1 P2 H ∧ GxR.TabG H P3 ∧ ∀ H', Q (.bl true) H'
section
variable {c c1 c2 : Nat} {r : Bg} {W : Addr → Prop} {G : Gam} {σ : L2.St}
theorem ev_drawE {k : Nat} {tm : TE} {m : Int} (e : EvI c r W G σ tm (· = m)) (h0 : σ[k]? = some (some (.ref r.a))) (h1 : 1 ≤ m) (h2 : m < 2 ^ 140) : EvI (c + 1) r W G σ (tCall (spE spDraw) [] E0 (tCons (tVar k) (tCons tm tNil))) (fun x => 0 ≤ x ∧ x < m) := fun n H Q l s q =>
  ⟨.ref r.a, h0, e n H _ (by omega) s fun i H1 re1 m1 e1 => ⟨r, m, n + c, by rw [e1]; rfl, re1, by omega, h1, h2, fun x H' re' m' x0 x1 => q x H' re'.to (m1.trans m') ⟨x0, x1⟩⟩⟩
end
section
variable {P : Program} {w : World} {K : PySem.W.Frag} {mg : Str → Option Value} {base : Heap}
theorem ok_law {f P1 P2 P3 CT C : Addr} {fd : FuncData} (F : Fun K "law" "law" sLaw f fd) (T : Nm mg) (N5 : Nm5 mg) (hsys : ∃ o, base.get? sysModules = some o)
    (CB : Cal P w K mg base 1 "_law_bag" ["script"] (spBag K)) (CPl : Cal P w K mg base 4 "_law_plan" ["bag", "most", "wide"] (spE spPlanB)) (CD : Cal P w K mg base 2 "_law_draw" ["bag", "many"] (spE spDraw)) (CN : Cal P w K mg base 3 "_law_bent" ["bag", "text"] (spE spBent))
    (CLR : Cal P w K mg base 10 "_law_read" ["text"] (spLRd P1 P2 P3)) (CSm : Cal P w K mg base 12 "_law_same" ["bag", "plan", "other"] (spE (spSame P1 P2))) (CI : Cal P w K mg base 7 "is_plan" ["thing"] (spTab P1 P2 isPlan))
    (CS : Cal P w K mg base 9 "show_plan" ["plan"] (spShow P1 P2)) (CR : CalX P w K mg base 9 "read_plan" ["text"] (spReadX P1 P2 P3 CT C)) :
    FnOk P w K mg base CX0 13 f fd ["script"] (spLaw K P1 P2 P3) := by
  refine F.ok scLaw (fun vs H Q E ⟨a, ns, e, _⟩ => by rw [e]; rfl) (fun cdv A outer s H vs Q E hr h => ?_)
  obtain ⟨a, ns, rfl, hS, h63, hT, hT3, q⟩ := h
  have nd := scLaw.nd
  refine ⟨_, (pss_cons (ps_set (i := 1) nd rfl (.inl rfl) (pe_cal (CB.mono (by decide)) hr (by rfl) (pa_cons (pv 0) pa_nil)))
      (pss_cons (ps_for PassesOwn.never rfl (pi_range1 (by rfl) N5.range (pa_cons (pe_op op_add pe_int (pe_callB (call_min2 rfl) (by rfl) N5.min (by decide +kernel) (pa_cons pe_int (pa_cons (pe_callB call_len_seq (by rfl) T.len PySem.boot_len (pa_cons (pv 0) pa_nil)) pa_nil)))) pa_nil)) (pg_name (i := 2) nd rfl (.inl rfl)) (pss_cons (ps_set (i := 3) nd rfl (.inl rfl) (pe_cal (CPl.mono (by decide)) hr (by rfl) (pa_cons (pv 1) (pa_cons pe_int (pa_cons (pe_ix ix_list (pe_lst (pa_cons pe_int (pa_cons (pe_op op_pow pe_int pe_int) pa_nil))) (pe_cal (CD.mono (by decide)) hr (by rfl) (pa_cons (pv 1) (pa_cons pe_int pa_nil))) (fun _ _ => rfl)) pa_nil)))))
      (pss_cons (ps_set (i := 4) nd rfl (.inl rfl) (pe_cal (CPl.mono (by decide)) hr (by rfl) (pa_cons (pv 1) (pa_cons pe_int (pa_cons pe_int pa_nil)))))
      (pss_cons (ps_set (i := 5) nd rfl (.inl rfl) (pe_cal (CS.mono (by decide)) hr (by rfl) (pa_cons (pv 3) pa_nil)))
      (pss_cons (ps_for PassesOwn.never rfl (pi_range1 (by rfl) N5.range (pa_cons pe_int pa_nil)) (pg_name (i := 6) nd rfl (.inl rfl)) (pss_cons (ps_set (i := 7) nd rfl (.inl rfl) (pe_cal (CN.mono (by decide)) hr (by rfl) (pa_cons (pv 1) (pa_cons (pv 5) pa_nil))))
      (pss_cons (ps_set (i := 8) nd rfl (.inl rfl) (pe_cal (CLR.mono (by decide)) hr (by rfl) (pa_cons (pv 7) pa_nil)))
      (pss_cons (ps_if (PW.pt (pw_and (pt_cmp (pc_notN (pv 8))) (pw_and1 (pt_cmpR op_ne (pe_cal (CS.mono (by decide)) hr (by rfl) (pa_cons (pv 8) pa_nil)) (pv 7) (nomark _))))) (pss_one (ps_ret pe_bl)) pss_nil)
      (pss_one (ps_if (PW.pt (pw_and (pt_cmpR (op_eqD hr.units) (pv 8) (pv 3) (nomark _)) (pw_and1 (pt_cmpR op_ne (pv 7) (pv 5) (nomark _))))) (pss_one (ps_ret pe_bl)) pss_nil))))))
      (pss_cons (ps_if (pt_not (pt_val (pe_cal (CSm.mono (by decide)) hr (by rfl) (pa_cons (pv 1) (pa_cons (pv 3) (pa_cons (pe_calX (CR.mono (by decide)) hr (by rfl) (passes_call takes0 fun _ _ _ _ h => h) (pa_cons (pv 5) pa_nil)) pa_nil)))))) (pss_one (ps_ret pe_bl)) pss_nil)
      (pss_cons (ps_set (i := 9) nd rfl (.inl rfl) (pe_cal (CLR.mono (by decide)) hr (by rfl) (pa_cons (pe_op op_add_str (pe_op op_add_str (pv 5) pe_str) (pe_cal (CS.mono (by decide)) hr (by rfl) (pa_cons (pv 4) pa_nil))) pa_nil)))
      (pss_cons (ps_if (PW.pt (pw_or (PW.pt (pw_and (pt_val (pe_cal (CI.mono (by decide)) hr (by rfl) (pa_cons (pe_op op_cat (pv 3) (pv 4)) pa_nil))) (pw_and1 (pt_cmpR (op_neD hr.units) (pv 9) (pe_op op_cat (pv 3) (pv 4)) (nomark _))))) (pw_or1 (PW.pt (pw_and (pt_not (pt_val (pe_cal (CI.mono (by decide)) hr (by rfl) (pa_cons (pe_op op_cat (pv 3) (pv 4)) pa_nil)))) (pw_and1 (pt_cmp (pc_notN (pv 9))))))))) (pss_one (ps_ret pe_bl)) pss_nil)
      (pss_cons (ps_set (i := 10) nd rfl (.inl rfl) (pe_op op_add pe_int (pe_cal (CD.mono (by decide)) hr (by rfl) (pa_cons (pv 1) (pa_cons (pe_callB call_len_seq (by rfl) T.len PySem.boot_len (pa_cons (pv 3) pa_nil)) pa_nil)))))
      (pss_one (ps_if (pt_cmpR (op_neD hr.units) (pe_calX (CR.mono (by decide)) hr (by rfl) (passes_call takes0 fun _ _ _ _ h => h) (pa_cons (pe_join pe_str (pe_slice sl_list (pe_split (pv 5) pe_str) po_none (po_some (pv 10)))) pa_nil)) (pe_slice sl_list (pv 3) po_none (po_some (pv 10))) (nomark _)) (pss_one (ps_ret pe_bl)) pss_nil)))))))))))
      (pss_one (ps_ret pe_bl)))), ?_⟩
  have hM : M60 = 1000000000000000000 := rfl
  have hGr : GREAT = 1000000000000000000000000000000 := rfl
  refine ⟨.ref a, rfl, a, ns, rfl, hS, fun r H1 s1 nr b1 => ?_⟩
  have S1 : Lw P1 P2 P3 r [] 0 H1 := ⟨⟨b1, ⟨rfl, fun b hb => by rw [hb]; exact b1.some⟩, fun p hp => nomatch hp⟩, hT.same s1, tabG_same s1 hT3⟩
  dsimp only [gName]
  show tSeq _ _ _ [some (.ref a), some (.ref r.a), none, none, none, none, none, none, none, none, none] H1
  have lm : (ns.map V.int).length = ns.length := List.length_map ..
  refine ⟨.ref a, rfl, a, ns.map V.int, rfl, .inl (s1.seq hS), 6, ((ns.map V.int).length : Int), rfl, 3, _, rfl, rfl, _, rfl, by split <;> omega, by split <;> omega, ?_⟩
  have hn9 : ((3 : Int) + (if ((ns.map V.int).length : Int) < 6 then ((ns.map V.int).length : Int) else 6)).toNat ≤ 9 := by split <;> omega
  refine for_range (lo := 0) (n := ((3 : Int) + (if ((ns.map V.int).length : Int) < 6 then ((ns.map V.int).length : Int) else 6)).toNat) (fun i σ H3 => ∃ y2 y3 y4 y5 y6 y7 y8 y9 y10, σ = [some (.ref a), some (.ref r.a), y2, y3, y4, y5, y6, y7, y8, y9, y10] ∧ Lw P1 P2 P3 r [] (2000 * i) H3)
    ⟨none, none, none, none, none, none, none, none, none, rfl, S1⟩ (fun i σ H3 hi hP => ?_) (fun σ H3 hP => ?_)
  · obtain ⟨y2, y3, y4, y5, y6, y7, y8, y9, y10, rfl, S3⟩ := hP
    have hi9 : i < 9 := by omega
    clear hi hn9
    dsimp only [gName]
    show tSeq _ _ _ [some (.ref a), some (.ref r.a), some (.int (0 + (i : Int))), y3, y4, y5, y6, y7, y8, y9, y10] H3
    have ew : Ev 1 r (fun b => b = r.a) [] [some (.ref a), some (.ref r.a), some (.int (0 + (i : Int))), y3, y4, y5, y6, y7, y8, y9, y10]
        (tOp (rIxL K) (tLst (tCons (tC (.int 3)) (tCons (tOp (rI CPow fun i j => .int (i ^ j.toNat)) (tC (.int 10)) (tC (.int 30))) tNil))) (tCall (spE spDraw) [] E0 (tCons (tVar 1) (tCons (tC (.int 2)) tNil)))) (fun d => ∃ x, d = .int x ∧ 0 ≤ x ∧ x ≤ GREAT) :=
      ev_ix (ev_lst (eva_cons ((ev_int (i := 3)).ev fun j e => ⟨j, rfl, by omega, by omega⟩) (eva_cons ((evi_pow ⟨by decide, by decide, by decide⟩).ev fun j e => ⟨j, rfl, by rw [e]; decide +kernel, by rw [e]; decide +kernel⟩) eva_nil))) ((ev_drawE (k := 1) (ev_int (i := 2)) rfl (by decide) (by decide)).imp fun i hi => ⟨hi.1, by have := hi.2; show i < 2; omega⟩)
    refine ⟨.ref r.a, rfl, ?_⟩
    refine ew _ H3 _ (by omega) S3.se fun vw dw H4 b4 m4 rpw ⟨x, ex, x0, x1⟩ => ?_
    subst ex
    cases rpw
    refine ⟨r, 4, x, _, rfl, b4, by omega, by decide, by decide, x0, x1, fun vP L H5 b5 m5 rpP hL => ?_⟩
    have S5 := ((S3.mv b4 m4).mv b5 m5).push rpP
    clear ew S3 b4 m4 b5 m5 rpP S1
    dsimp only [gName]
    show tSeq _ _ _ [some (.ref a), some (.ref r.a), some (.int (0 + (i : Int))), some vP, y4, y5, y6, y7, y8, y9, y10] H5
    refine ⟨.ref r.a, rfl, r, 4, 9, _, rfl, S5.se.re, by omega, by decide, by decide, by decide, by decide, fun vM M H6 b6 m6 rpM hMm => ?_⟩
    have S6 := (S5.mv b6 m6).push rpM
    clear S5 b6 m6 rpM
    dsimp only [gName]
    show tSeq _ _ _ [some (.ref a), some (.ref r.a), some (.int (0 + (i : Int))), some vP, some vM, y5, y6, y7, y8, y9, y10] H6
    have rp : ∀ {n : Nat} {H : Hp}, Lw P1 P2 P3 r [(vM, planD M), (vP, planD L)] n H → Rp H vP (planD L) := fun s => Rp.sm (Hw.sub _ _) (s.se.ok (vP, planD L) (by simp))
    have rm : ∀ {n : Nat} {H : Hp}, Lw P1 P2 P3 r [(vM, planD M), (vP, planD L)] n H → Rp H vM (planD M) := fun s => Rp.sm (Hw.sub _ _) (s.se.ok (vM, planD M) (by simp))
    have hpl := planL_plan hL
    have hpm := planL_plan hMm
    obtain ⟨neL, rowL⟩ := planL_row hL
    obtain ⟨neM, rowM⟩ := planL_row hMm
    have lenL := Nat.le_trans (plan_len rowL) (Nat.mul_le_mul_right 2002 hL.l8)
    have lenM := Nat.le_trans (plan_len rowM) (Nat.mul_le_mul_right 2002 hMm.l8)
    refine ⟨vP, rfl, vP, planD L, rfl, rp S6, S6.tb, hpl, fun H7 x7 t7 => ?_⟩
    have S7 := S6.ex x7
    clear S6 x7 t7
    dsimp only [gName]
    show tSeq _ _ _ [some (.ref a), some (.ref r.a), some (.int (0 + (i : Int))), some vP, some vM, some (.str (planS (planD L))), y6, y7, y8, y9, y10] H7
    refine ⟨10, rfl, by decide, by decide, ?_⟩
    refine for_range (lo := 0) (n := ((10 : Int)).toNat) (fun j σ H3 => ∃ z6 z7 z8, σ = [some (.ref a), some (.ref r.a), some (.int (0 + (i : Int))), some vP, some vM, some (.str (planS (planD L))), z6, z7, z8, y9, y10] ∧ Lw P1 P2 P3 r [(vM, planD M), (vP, planD L)] (2000 * i + 1 + 400 + 400 + 3 * j) H3)
      ⟨_, _, _, rfl, S7⟩ (fun j σ H8 hj hP => ?_) (fun σ H8 hP => ?_)
    · obtain ⟨z6, z7, z8, rfl, S8⟩ := hP
      have hj10 : j < 10 := hj
      clear S7
      dsimp only [gName]
      show tSeq _ _ _ [some (.ref a), some (.ref r.a), some (.int (0 + (i : Int))), some vP, some vM, some (.str (planS (planD L))), some (.int (0 + (j : Int))), z7, z8, y9, y10] H8
      refine ⟨.ref r.a, rfl, .str (planS (planD L)), rfl, r, planS (planD L), _, rfl, S8.se.re, by omega, by omega, fun t' H9 b9 m9 hl9 => ?_⟩
      have S9 := S8.mv b9 m9
      clear S8 b9 m9
      dsimp only [gName]
      show tSeq _ _ _ [some (.ref a), some (.ref r.a), some (.int (0 + (i : Int))), some vP, some vM, some (.str (planS (planD L))), some (.int (0 + (j : Int))), some (.str t'), z8, y9, y10] H9
      refine ⟨.str t', rfl, t', rfl, fits_of (by omega), S9.tb, S9.t3, fun hR p bs ts H10 x10 T10 => ?_, fun hR H10 x10 => ?_⟩
      · have S10 := S9.ex x10
        clear S9 x10
        have R10 := T10.rp (rowsS_plain t')
        clear T10
        have hpt := (readT_of.mp hR).2
        dsimp only [gName]
        show tSeq _ _ _ [some (.ref a), some (.ref r.a), some (.int (0 + (i : Int))), some vP, some vM, some (.str (planS (planD L))), some (.int (0 + (j : Int))), some (.str t'), some (.ref p), y9, y10] H10
        refine ⟨.ref p, rfl, _, rfl, ?_⟩
        dsimp only
        rw [if_pos (by simp)]
        refine ⟨.ref p, rfl, .ref p, _, rfl, R10, S10.tb, hpt, fun H11 x11 t11 => ⟨.str t', rfl, ?_⟩⟩
        rw [read_again hR]
        refine ⟨rfl, _, rfl, ?_⟩
        dsimp only
        rw [if_neg (by simp)]
        have S11 := S10.ex x11
        have R11 := Rp.ex x11 _ _ R10
        refine ⟨.ref p, rfl, vP, rfl, planD (rowsS t'), planD L, rp_dp R11 (plan_lay (rowsS_plain t')).1, rp_dp (rp S11) (plan_lay fun x hx => (rowL x hx).plain).1, (plan_lay (rowsS_plain t')).2, (plan_lay fun x hx => (rowL x hx).plain).2, _, rfl, ?_⟩
        dsimp only
        by_cases he : PyData.eqv (planD (rowsS t')) (planD L) = true
        · rw [if_pos he]
          obtain rfl := read_eqv hL hR he
          refine ⟨_, rfl, _, rfl, rfl, _, rfl, ?_⟩
          dsimp only
          rw [if_neg (by simp)]
          exact ⟨_, _, _, rfl, S11⟩
        · rw [if_neg he]
          try dsimp only
          rw [if_neg (by simp)]
          exact ⟨_, _, _, rfl, S11⟩
      · have S10 := S9.ex x10
        dsimp only [gName]
        show tSeq _ _ _ [some (.ref a), some (.ref r.a), some (.int (0 + (i : Int))), some vP, some vM, some (.str (planS (planD L))), some (.int (0 + (j : Int))), some (.str t'), some .non, y9, y10] H10
        refine ⟨.non, rfl, _, rfl, ?_⟩
        dsimp only
        rw [if_neg (by simp)]
        try dsimp only
        rw [if_neg (by simp)]
        refine ⟨.non, rfl, vP, rfl, .none, planD L, .non, rp_dp (rp S10) (plan_lay fun x hx => (rowL x hx).plain).1, rfl, (plan_lay fun x hx => (rowL x hx).plain).2, _, rfl, ?_⟩
        dsimp only
        rw [if_neg (by simp [planD, PyData.eqv])]
        try dsimp only
        rw [if_neg (by simp)]
        exact ⟨_, _, _, rfl, S10⟩
    · obtain ⟨z6, z7, z8, rfl, S8⟩ := hP
      clear S7
      have fitsL := fits_plan neL hL.l8 rowL
      have plainL : ∀ x ∈ L, PlainR x := fun x hx => (rowL x hx).plain
      dsimp only []
      show tSeq _ _ _ [some (.ref a), some (.ref r.a), some (.int (0 + (i : Int))), some vP, some vM, some (.str (planS (planD L))), z6, z7, z8, y9, y10] H8
      refine ⟨.ref r.a, rfl, vP, rfl, .str (planS (planD L)), rfl, planS (planD L), rfl, fitsL, S8.tb, S8.t3, fun hx => ?_, fun _ hpf => ?_, fun hf hp p bs ts H9 x9 T9 => ?_⟩
      · obtain ⟨p, hp, hpf⟩ := hx
        rw [forms_plan neL rowL p hp] at hpf
        cases hpf
      · rw [rows_back neL rowL, hpl] at hpf
        cases hpf
      rw [rows_back neL rowL] at T9
      have S9 := S8.ex x9
      have Rt := (T9.hw (a := r.a) S8.se.re.some).rp plainL
      clear T9 x9
      refine ⟨r, vP, .ref p, planD L, _, rfl, S9.se.re, by omega, S9.se.ok (vP, planD L) (by simp), Rt, hpl, S9.tb, fun H10 b10 e10 => ⟨true, rfl, iteF ?_⟩⟩
      have S10 := S9.eb b10 e10
      clear S9 b10 e10 Rt S8
      have neN : L ++ M ≠ [] := fun z => neL (List.append_eq_nil_iff.mp z).1
      have rowN : ∀ x ∈ L ++ M, RowN x := fun x hx => (List.mem_append.mp hx).elim (rowL x) (rowM x)
      have plainN : ∀ x ∈ L ++ M, PlainR x := fun x hx => (rowN x hx).plain
      have layN := plan_lay plainN
      have readN := plan_read neN rowN
      have selfN := (plan_eqv plainN plainN).mpr rfl
      have lLM : (planS (planD L)).length + 2 + (planS (planD M)).length ≤ 40000 := by
        have := hL.l8
        have := hMm.l8
        omega
      have fitsN : Fits (planS (planD (L ++ M))) := fits_of (by
        rw [← plan_both neL neM, app_len, app_len]
        have : (Str.ofString ", ").length = 2 := rfl
        omega)
      dsimp only [tNext]
      show tSeq _ _ _ [some (.ref a), some (.ref r.a), some (.int (0 + (i : Int))), some vP, some vM, some (.str (planS (planD L))), z6, z7, z8, y9, y10] H10
      refine ⟨.str (planS (planD L)), rfl, planS (planD L), ", ", rfl, rfl, Nat.le_trans (show _ ≤ 40000 from by have : (Str.ofString ", ").length = 2 := rfl; show (planS (planD L)).length + (Str.ofString ", ").length ≤ 40000; omega) (by rw [sizeLine_eq]; decide), vM, rfl, vM, planD M, rfl, rm S10, S10.tb, hpm, fun H11 x11 t11 => ⟨_, planS (planD M), rfl, rfl, Nat.le_trans (show _ ≤ 40000 from by rw [app_len]; have : (Str.ofString ", ").length = 2 := rfl; show (planS (planD L)).length + (Str.ofString ", ").length + _ ≤ 40000; omega) (by rw [sizeLine_eq]; decide), ?_⟩⟩
      have S11 := S10.ex x11
      clear S10 x11 t11
      refine ⟨planS (planD (L ++ M)), by rw [← plan_both neL neM]; rfl, fitsN, S11.tb, S11.t3, ?_⟩
      rw [readN, rows_back neN rowN]
      refine ⟨fun hR p bs ts H12 x12 T12 => ?_, fun hR H12 x12 => ?_⟩
      all_goals (dsimp only [gName]; show tSeq _ _ _ [some (.ref a), some (.ref r.a), some (.int (0 + (i : Int))), some vP, some vM, some (.str (planS (planD L))), z6, z7, z8, some _, y10] H12)
      all_goals have S12 := S11.ex x12
      all_goals refine seqP (fun σ' H' => ∃ u, σ' = [some (.ref a), some (.ref r.a), some (.int (0 + (i : Int))), some vP, some vM, some (.str (planS (planD L))), z6, z7, z8, some u, y10] ∧ Lw P1 P2 P3 r [(vM, planD M), (vP, planD L)] (2000 * i + 1 + 400 + 400 + 3 * (10 : Int).toNat + 3) H') (fun σ' H13 hR' => ?_) (fun nx hnx => ?_)
      rotate_left
      · have R12 := T12.rp plainN
        clear T12
        refine h_cat (rp S12) (rm S12) rfl rfl hL.l8 hMm.l8 fun c1 H13 x13 R13 => ?_
        have S13 := S12.ex x13
        have R12 := Rp.ex x13 _ _ R12
        refine ⟨.ref c1, planD (L ++ M), rfl, R13, S13.tb, fun H14 x14 t14 => ⟨_, rfl, ?_⟩⟩
        rw [hR]
        dsimp only
        rw [if_pos rfl]
        have S14 := S13.ex x14
        have R12 := Rp.ex x14 _ _ R12
        refine ⟨.ref p, rfl, ?_⟩
        refine h_cat (rp S14) (rm S14) rfl rfl hL.l8 hMm.l8 fun c2 H15 x15 R15 => ?_
        have S15 := S14.ex x15
        have R12 := Rp.ex x15 _ _ R12
        refine ⟨planD (L ++ M), planD (L ++ M), rp_dp R12 layN.1, rp_dp R15 layN.1, layN.2, layN.2, _, rfl, ?_⟩
        rw [selfN]
        dsimp only
        rw [if_neg (by decide)]
        refine h_cat (rp S15) (rm S15) rfl rfl hL.l8 hMm.l8 fun c3 H16 x16 R16 => ?_
        have S16 := S15.ex x16
        refine ⟨.ref c3, planD (L ++ M), rfl, R16, S16.tb, fun H17 x17 t17 => ⟨_, rfl, ?_⟩⟩
        have S17 := S16.ex x17
        rw [hR]
        dsimp only
        rw [if_neg (by decide)]
        try dsimp only
        rw [if_neg (by decide)]
        exact hnx _ _ ⟨_, rfl, S17⟩
      rotate_left
      · refine h_cat (rp S12) (rm S12) rfl rfl hL.l8 hMm.l8 fun c1 H13 x13 R13 => ?_
        have S13 := S12.ex x13
        refine ⟨.ref c1, planD (L ++ M), rfl, R13, S13.tb, fun H14 x14 t14 => ⟨_, rfl, ?_⟩⟩
        have S14 := S13.ex x14
        rw [hR]
        dsimp only
        rw [if_neg (by decide)]
        try dsimp only
        rw [if_neg (by decide)]
        refine h_cat (rp S14) (rm S14) rfl rfl hL.l8 hMm.l8 fun c3 H16 x16 R16 => ?_
        have S16 := S14.ex x16
        refine ⟨.ref c3, planD (L ++ M), rfl, R16, S16.tb, fun H17 x17 t17 => ⟨_, rfl, ?_⟩⟩
        have S17 := S16.ex x17
        rw [hR]
        dsimp only
        rw [if_pos (by decide)]
        refine ⟨.non, rfl, _, rfl, ?_⟩
        dsimp only
        rw [if_neg (by simp)]
        exact hnx _ _ ⟨_, rfl, S17⟩
      all_goals
        obtain ⟨u, rfl, S18⟩ := hR'
        clear S12 x12
        show tSeq _ _ _ [some (.ref a), some (.ref r.a), some (.int (0 + (i : Int))), some vP, some vM, some (.str (planS (planD L))), z6, z7, z8, some u, y10] H13
        obtain ⟨pL, xL, rfl, eL, rL⟩ := rp_list (rp S18)
        have lL := rL.length
        rw [List.length_map] at lL
        have hl8 := hL.l8
        have hl1 := hL.l1
        refine ⟨.ref r.a, rfl, _, rfl, pL, xL, rfl, .inl (SqL.of eL), r, _, _, rfl, S18.se.re, by omega, by omega, by omega, fun x H19 b19 m19 x0 x1 => ⟨1, x, rfl, rfl, ?_⟩⟩
        have S19 := S18.mv b19 m19
        obtain ⟨k, hk⟩ : ∃ k : Nat, x + 1 = (k : Int) := ⟨(x + 1).toNat, by omega⟩
        have hk1 : 1 ≤ k ∧ k ≤ L.length := by omega
        have e1 : (1 : Int) + x = (k : Int) := by omega
        dsimp only [gName]
        show tIfS _ _ _ _ [some (.ref a), some (.ref r.a), some (.int (0 + (i : Int))), some (.ref pL), some vM, some (.str (planS (planD L))), z6, z7, z8, some u, some (.int (1 + x))] H19
        rw [e1]
        have neT : L.take k ≠ [] := fun z => by have z2 := congrArg List.length z; rw [List.length_take, List.length_nil, Nat.min_eq_left hk1.2] at z2; omega
        have rowT : ∀ x ∈ L.take k, RowN x := fun x hx => rowL x (List.mem_of_mem_take hx)
        have plT := planL_plan (hL.take hk1.1)
        have fitsT := fits_plan neT (hL.take hk1.1).l8 rowT
        have plainT : ∀ x ∈ L.take k, PlainR x := fun x hx => (rowT x hx).plain
        have layT := plan_lay plainT
        have selfT := (plan_eqv plainT plainT).mpr rfl
        refine ⟨⟨", ", rfl⟩, .str (planS (planD L)), rfl, ⟨_, rfl⟩, planS (planD L), ", ", rfl, rfl, rfl, Nat.le_trans (show (planS (planD L)).length + 2 ≤ 40000 by omega) (by rw [sizeLine_eq]; decide), fun c20 nc20 => ?_⟩
        rw [plan_split neL rowL]
        have x20 : Ex H19 (upd H19 c20 (.lst ((L.map pieceR).map V.str))) := Ex.of (same_upd nc20)
        have S20 := S19.ex x20
        have e20 : (upd H19 c20 (.lst ((L.map pieceR).map V.str))) c20 = some (.lst ((L.map pieceR).map V.str)) := upd_same
        generalize upd H19 c20 (.lst ((L.map pieceR).map V.str)) = H20 at S20 e20 ⊢
        refine ⟨.int (k : Int), rfl, (k : Int), rfl, c20, _, rfl, SqL.of e20, fun c21 nc21 => ?_⟩
        rw [cutV_to _ k (by rw [List.length_map, List.length_map]; exact hk1.2)]
        rw [← List.map_take]
        have x21 : Ex H20 (upd H20 c21 (.lst (((L.map pieceR).take k).map V.str))) := Ex.of (same_upd nc21)
        have S21 := S20.ex x21
        have e21 : (upd H20 c21 (.lst (((L.map pieceR).take k).map V.str))) c21 = some (.lst (((L.map pieceR).take k).map V.str)) := upd_same
        generalize upd H20 c21 (.lst (((L.map pieceR).take k).map V.str)) = H21 at S21 e21 ⊢
        have hys : ∀ y ∈ (L.map pieceR).take k, y.length ≤ 2000 := fun y hy => by
          obtain ⟨z, hz, rfl⟩ := List.mem_map.mp (List.mem_of_mem_take hy)
          exact pieceR_len (rowL z hz)
        have hsz := sum2000 _ hys
        have hly : ((L.map pieceR).take k).length ≤ 8 := by rw [List.length_take, List.length_map]; omega
        refine ⟨", ", c21, (L.map pieceR).take k, rfl, rfl, .inl (SqL.of e21), ?_, ?_⟩
        · have : (Str.ofString ", ").length = 2 := rfl
          show _ + _ * (Str.ofString ", ").length ≤ 16777216
          rw [this]
          omega
        have ecut := plan_cut neL rowL k
        rw [plan_split neL rowL] at ecut
        refine ⟨planS (planD (L.take k)), by rw [← ecut]; rfl, fitsT, S21.tb, S21.t3, fun hx => ?_, fun _ hpf => ?_, fun _ _ p bs ts H23 x23 T23 => ?_⟩
        · obtain ⟨p, hp, hpf⟩ := hx
          rw [forms_plan neT rowT p hp] at hpf
          cases hpf
        · rw [rows_back neT rowT, plT] at hpf
          cases hpf
        rw [rows_back neT rowT] at T23
        have S23 := S21.ex x23
        have R23 := T23.rp plainT
        clear T23
        obtain ⟨pL2, xL2, ep2, eL2, rL2⟩ := rp_list (rp S23)
        cases ep2
        have lL2 := rL2.length
        rw [List.length_map] at lL2
        refine ⟨.ref pL, rfl, .int (k : Int), rfl, (k : Int), rfl, pL, xL2, rfl, SqL.of eL2, fun c24 nc24 => ?_⟩
        rw [cutV_to _ k (by omega)]
        have x24 : Ex H23 (upd H23 c24 (.lst (xL2.take k))) := Ex.of (same_upd nc24)
        have S24 := S23.ex x24
        have R24 := Rp.ex x24 _ _ R23
        have Rc : Rp (upd H23 c24 (.lst (xL2.take k))) (.ref c24) (planD (L.take k)) := .lst upd_same (by rw [List.map_take]; exact RpAll.ex x24 _ _ (rL2.take k))
        refine ⟨planD (L.take k), planD (L.take k), rp_dp R24 layT.1, rp_dp Rc layT.1, layT.2, layT.2, _, rfl, ?_⟩
        rw [selfT]
        dsimp only
        rw [if_neg (by decide)]
        exact ⟨_, _, _, _, _, _, _, _, _, rfl, S24.none.le (by show 2000 * i + 1 + 400 + 400 + 3 * 10 + 3 + 1 ≤ _; omega)⟩
  · exact q _
end
end CL
set_option Elab.async false
set_option linter.all false
set_option maxRecDepth 100000
set_option maxHeartbeats 4000000
namespace CL
open PySem PySem.Spec PyProof.Rows L2 GE
/-! ### the end: what is tracked when the law is called, and that the run leaves the heap as it was but for the tables -/
def H0 (ts : List Addr) (K : PySem.W.Frag) (a : Addr) (vs : List Value) (ns : List Int) : Hp := fun b =>
  if b ∈ ts then some (.tbl #[]) else if b = a ∧ (K.lookup a).isNone = true then some (.frz { cls := .type "list", data := .seq vs.toArray } (.lst (ns.map V.int))) else none
section
variable {ts : List Addr} {K : PySem.W.Frag} {a : Addr} {vs : List Value} {ns : List Int} {h : Heap}
theorem H0.tab {b : Addr} (m : b ∈ ts) : H0 ts K a vs ns b = some (.tbl #[]) := if_pos m
theorem H0.cases {b : Addr} {u : HO} (e : H0 ts K a vs ns b = some u) : (b ∈ ts ∧ u = .tbl #[]) ∨ (b = a ∧ K.lookup a = none ∧ u = .frz { cls := .type "list", data := .seq vs.toArray } (.lst (ns.map V.int))) := by
  unfold H0 at e
  split at e
  · rename_i m
    exact .inl ⟨m, (Option.some.inj e).symm⟩
  · split at e
    · rename_i z
      exact .inr ⟨z.1, Option.isNone_iff_eq_none.mp z.2, (Option.some.inj e).symm⟩
    · cases e
/-- an object that is no list and no empty table is not tracked -/
theorem H0.other (hT : ∀ b ∈ ts, h.get? b = some { cls := .none, data := .fields #[] }) (ha : h.get? a = some { cls := .type "list", data := .seq vs.toArray }) {b : Addr} {o : Obj} (e : h.get? b = some o) (h1 : o.data ≠ .seq vs.toArray) (h2 : o.data ≠ .fields #[]) :
    H0 ts K a vs ns b = none := by
  cases q : H0 ts K a vs ns b with
  | none => rfl
  | some u =>
    rcases H0.cases q with ⟨m, _⟩ | ⟨rfl, _, _⟩
    · rw [hT b m] at e
      cases e
      exact absurd rfl h2
    · rw [ha] at e
      cases e
      exact absurd rfl h1
end
theorem end_own {P : Program} {w : World} {K : PySem.W.Frag} {mg mb : Str → Option Value} {q : Program} {loose : List Str} {mean : ExcName → Option Value} {k : Nat} {fa a : Addr} {fd : FuncData} {x : Str} {sp : Sp} {s₁ : Shared} {vs : List Value} {ns : List Int} (ts : List Addr)
    (KX : K.In s₁.heap) (T : Top q loose mean mg mb s₁.heap) (hi0 : importsNone q = true) (hg : s₁.gens = #[])
    (hT : ∀ b ∈ ts, s₁.heap.get? b = some { cls := .none, data := .fields #[] }) (hC : ∀ b ∈ ts, ∃ c, PySem.W.codeHdIn K c b = true) (nT : ∀ b ∈ ts, K.lookup b = none)
    (ha : s₁.heap.get? a = some { cls := .type "list", data := .seq vs.toArray }) (hi : IntsAre vs ns) (hl : ns.length ≤ sizeLine) (hr : Room k callerA)
    (F : ∀ base : Heap, K.In base → base.Ns mainGlobals mg → (∃ o, base.get? sysModules = some o) → (∀ b ∈ ts, base.BuiltinsAt mg b ∧ mainGlobals ≠ b) → FnG P w K mg base k fa fd [x] sp)
    (hbind : ∀ (s : Shared) (u : Value), BindsTo s fd ⟨[u], []⟩ [(x, u)])
    (hsp : ∀ H : Hp, (∀ b ∈ ts, H b = some (.tbl #[])) → SqL K H a (ns.map V.int) → sp [.ref a] H (fun v _ => v = .bl true) fun _ _ _ => False) :
    codeAny (model P w) callerA (.call (.ref fa) ⟨[.ref a], []⟩) (fun r s' => r = .ok (.ret (.bool true)) ∧ OldK s₁.heap s'.heap ∧ s'.os = s₁.os ∧ AllBare s'.gens) s₁ := by
  have rv := vals_ints hi
  have aT : a ∉ ts := fun m => by
    have z := hT a m
    rw [ha] at z
    cases z
  generalize hH : H0 ts K a vs ns = H
  have tabs : ∀ b ∈ ts, H b = some (.tbl #[]) := fun b m => by rw [← hH]; exact H0.tab m
  have cs : ∀ {b : Addr} {u : HO}, H b = some u → (b ∈ ts ∧ u = .tbl #[]) ∨ (b = a ∧ K.lookup a = none ∧ u = .frz { cls := .type "list", data := .seq vs.toArray } (.lst (ns.map V.int))) := fun e => by
    rw [← hH] at e
    exact H0.cases e
  have oth : ∀ {b : Addr} {o : Obj}, s₁.heap.get? b = some o → o.data ≠ .seq vs.toArray → o.data ≠ .fields #[] → H b = none := fun e h1 h2 => by
    rw [← hH]
    exact H0.other hT ha e h1 h2
  have inB : ∀ {b : Addr} {o : Obj}, s₁.heap.get? b = some o → H b = none → (hidT s₁.heap H).get? b = some o := fun e n => hidT_get e n
  have nsB : ∀ {b : Addr} {m : Str → Option Value}, s₁.heap.Ns b m → (hidT s₁.heap H).Ns b m := fun ⟨o, es, ep, e, d, r⟩ => ⟨o, es, ep, inB e (oth e (by rw [d]; exact nofun) (by rw [d]; exact nofun)), d, r⟩
  have hok : HOk P w H s₁.heap := fun b u e => by
    rcases cs e with ⟨m, rfl⟩ | ⟨rfl, _, rfl⟩
    · exact hT b m
    · exact ⟨ha, by rw [List.length_map]; exact hl, vs, _, rv, ha⟩
  have hS : SqL K H a (ns.map V.int) := by
    cases hk : K.lookup a with
    | some o =>
      have e := KX a o hk
      rw [ha] at e
      cases e
      exact .inr ⟨_, vs.toArray, _, hk, rfl, rfl, rfl, by rw [List.size_toArray, hi.length]; exact hl, by simpa using rv⟩
    | none =>
      have e : H a = some (.frz { cls := .type "list", data := .seq vs.toArray } (.lst (ns.map V.int))) := by
        rw [← hH]
        unfold H0
        rw [if_neg aT, if_pos ⟨rfl, by rw [hk]; rfl⟩]
      exact .inl (.inr ⟨_, e⟩)
  have KB : K.In (hidT s₁.heap H) := fun b o e => inB (KX b o e) (by
    cases z : H b with
    | none => rfl
    | some u =>
      rcases cs z with ⟨m, _⟩ | ⟨rfl, n, _⟩
      · rw [nT b m] at e; cases e
      · rw [n] at e; cases e)
  have hM : L2.Mod K mg (hidT s₁.heap H) := ⟨KB, nsB T.g, ⟨mb, nsB T.b, T.builtins⟩, let ⟨mc, h1, h2⟩ := T.nolimit; ⟨mc, nsB h1, h2⟩⟩
  have sysB : ∃ o, (hidT s₁.heap H).get? sysModules = some o := by
    obtain ⟨mm, ⟨o, es, ep, e, d, _⟩, _⟩ := (T.seer hi0).mods
    exact ⟨o, inB e (oth e (by rw [d]; exact nofun) (by rw [d]; exact nofun))⟩
  have gB : ∀ b ∈ ts, mainGlobals ≠ b := fun b m z => by
    obtain ⟨o, es, ep, e, d, _⟩ := T.g
    rw [z, hT b m] at e
    cases e
    cases d
  have bB : ∀ b ∈ ts, (hidT s₁.heap H).BuiltinsAt mg b := fun b m => by
    obtain ⟨bm, ob, b1, b2, b3, b4, b5, b6⟩ := T.bmain
    refine ⟨bm, ob, b1, b2, fun z => ?_, fun z => ?_, inB b3 (oth b3 (by rw [b6]; exact nofun) (by rw [b6]; exact nofun)), b4, b5, b6⟩
    · obtain ⟨o, es, ep, e, d, _⟩ := T.g
      rw [z, e] at b3
      cases b3
      rw [d] at b6
      cases b6
    · rw [z, hT b m] at b3
      cases b3
      cases b6
  have e0 : Env0 P w K mg (hidT s₁.heap H) callerA [] s₁ H := ⟨rfl, hM, fun b o e => of_hidT e, Nat.le_of_eq (hidT_size _ _), trivial, fun b hb => absurd (show b ∈ ([] : List Addr) from hb) (by simp), hok, .of_eq hg⟩
  have G := F _ KB (nsB T.g) sysB fun b m => ⟨bB b m, gB b m⟩
  refine codeAny_mono (G.run callerA [] s₁ H ⟨[.ref a], []⟩ [.ref a] [.ref a] _ _ rfl hr e0 (hbind s₁ (.ref a)) (.cons rfl .nil) (hsp H tabs hS)) fun r s' z => ?_
  cases r with
  | error e => exact False.elim z
  | ok fl =>
    cases fl with
    | next => exact False.elim z
    | brk => exact False.elim z
    | cont => exact False.elim z
    | ret u =>
      obtain ⟨v, H', os, bare, un, hok', r', e'⟩ := z
      obtain rfl : v = .bl true := e'
      obtain rfl : u = Value.bool true := r'
      have stays : ∀ b o, b ∉ ts → s₁.heap.get? b = some o → s'.heap.get? b = some o := fun b o nb e => by
        cases z : H b with
        | none => exact un.keep b o e z (fun y => absurd (show b ∈ ([] : List Addr) from y) (by simp)) (by simp)
        | some u =>
          rcases cs z with ⟨m, _⟩ | ⟨rfl, _, rfl⟩
          · exact absurd m nb
          · rw [ha] at e
            cases e
            exact (hok' _ _ (un.frzs _ _ _ z)).1
      have grow : ∀ b ∈ ts, ∃ more : Array Value, s'.heap.get? b = some { cls := .none, data := .fields more } := fun b m => by
        obtain ⟨more, e⟩ := un.tbls b #[] (tabs b m)
        exact ⟨_, hok' b _ e⟩
      refine ⟨rfl, ⟨fun b o e => ?_, fun b o e => ?_⟩, os, bare⟩
      · by_cases m : b ∈ ts
        · obtain ⟨c, hc⟩ := hC b m
          obtain ⟨more, hm⟩ := grow b m
          rw [hT b m] at e
          cases e
          exact .inr (.inl ⟨((PySem.W.codeHd_of_K KX hc).tab (hT b m)).isCodeTable, rfl, #[], more, rfl, by rw [Array.empty_append]; exact hm⟩)
        · exact .inl (stays b o m e)
      · by_cases m : b ∈ ts
        · obtain ⟨more, hm⟩ := grow b m
          exact ⟨_, hm⟩
        · exact ⟨o, stays b o m e⟩
end CL
set_option Elab.async false
set_option pp.maxSteps 300
set_option linter.all false
set_option maxRecDepth 100000
set_option maxHeartbeats 4000000
namespace CL
open PySem PySem.Spec PyProof.Rows L2 GE
theorem fnE {P : Program} {w : World} {K : PySem.W.Frag} {mg : Str → Option Value} {base : Heap} {k : Nat} {f : Addr} {fd : FuncData} {ps : List Str} {sp : Bg → Sp} (F : ∀ r, FnOk P w K mg base CX0 k f fd ps (sp r)) : FnOk P w K mg base CX0 k f fd ps (spE sp) :=
  ⟨fun vs H Q E ⟨r, h⟩ => (F r).len vs H Q E h, fun A outer s H args us vs Q E hr e0 hb rv ⟨r, h⟩ => (F r).run A outer s H args us vs Q E hr e0 hb rv h⟩
/-- the table of a def of the program is empty when the law is called -/
theorem tab_of {q : Program} {loose : List Str} {mean : ExcName → Option Value} {mg mb : Str → Option Value} {h : Heap} {K : PySem.W.Frag} {n : Str} {f c P : Addr} {o : Obj} {fd : FuncData} (T : Top q loose mean mg mb h) (KX : K.In h) (hr : ((recsOf q).any fun e => e.name == n) = true)
    (hm : mg n = some (.ref f)) (k1 : K.lookup f = some o) (k2 : o.data = .func fd) (k3 : fd.code = .ref c) (hh : PySem.W.codeHdIn K c P = true) : h.get? P = some { cls := .none, data := .fields #[] } := by
  obtain ⟨d, hd, e⟩ := List.any_eq_true.mp hr
  have e' : d.name = n := beq_iff_eq.mp e
  obtain ⟨a', o', fd', c', P', t1, t2, t3, t4, t5, t6⟩ := T.tab d hd
  rw [e', hm] at t1
  cases t1
  rw [KX _ _ k1] at t2
  cases t2
  rw [k2] at t3
  cases t3
  rw [k3] at t4
  cases t4
  obtain ⟨⟨oc, vc, g1, _, g3, g4⟩, g5⟩ := t6
  obtain ⟨oh, uh, _, _, _, _, _, _, _, i1, _, i2, i3, _⟩ := PySem.W.codeHd_of_K KX hh
  rw [g1] at i1
  cases i1
  rw [g3] at i2
  cases i2
  rw [g4] at i3
  cases i3
  exact g5
/-- what the head must know of the law's def -/
def AtLaw (l : PySem.W.OpenLaw) (w : World) (K : PySem.W.Frag) (mg : Str → Option Value) (fa : Addr) (h : Heap) : Prop :=
  ∃ (fd : FuncData) (Q1 Q2 Q3 : Addr), (∀ b ∈ ([Q1, Q2, Q3] : List Addr), h.get? b = some { cls := .none, data := .fields #[] }) ∧ (∀ b ∈ ([Q1, Q2, Q3] : List Addr), ∃ c, PySem.W.codeHdIn K c b = true) ∧ (∀ b ∈ ([Q1, Q2, Q3] : List Addr), K.lookup b = none) ∧ (∀ (s : Shared) (u : Value), BindsTo s fd ⟨[u], []⟩ [("script", u)]) ∧
    ∀ base : Heap, K.In base → base.Ns mainGlobals mg → (∃ o, base.get? sysModules = some o) → (∀ b ∈ ([Q1, Q2, Q3] : List Addr), base.BuiltinsAt mg b ∧ mainGlobals ≠ b) → FnG l.prog w K mg base 13 fa fd ["script"] (spLaw K Q1 Q2 Q3)
theorem walk {l : PySem.W.OpenLaw} {q : Program} {loose : List Str} {XP : (Str → Option Value) → Heap → Prop} {YP : World → Heap → Prop} {d : DefRec} {K : Params → PySem.W.Frag} (hn : l.most = some 63) (hdf : d.params.defaults = []) (hi0 : importsNone q = true)
    (hY : ∀ (w : World) (h : Heap), YP w h → (K w.params).In h)
    (F : ∀ (w : World) (mg mb : Str → Option Value) (mean : ExcName → Option Value) (lo : List Str) (fa : Addr) (h : Heap), (K w.params).In h → Top q lo mean mg mb h → mg d.name = some (.ref fa) → AtLaw l w (K w.params) mg fa h) :
    PySem.W.WalkO q loose XP YP l.row.toRowW d [] (fun f vs => PySem.call f vs) := by
  refine Att.attach_callB hn hdf fun w s₀ s₁ mg mb fa o pm cd doc a vs ns G Y ho hd hcd hmg hobj hints hlen _ hg => ?_
  obtain ⟨fd, Q1, Q2, Q3, h1, h2, h3, h4, h5⟩ := F w mg mb _ _ fa s₁.heap (hY w _ Y) G.T hmg
  exact end_own [Q1, Q2, Q3] (hY w _ Y) G.T hi0 hg h1 h2 h3 hobj hints (Nat.le_trans hlen (by decide)) ⟨rfl, by decide, by decide⟩ h5 h4 fun H t hS => ⟨a, ns, rfl, hS, hlen, ⟨⟨#[], t Q1 (by simp), trivial⟩, ⟨#[], t Q2 (by simp), trivial⟩⟩, ⟨#[], t Q3 (by simp), trivial⟩, fun _ => rfl⟩
theorem all_mk {l : PySem.W.OpenLaw} {w : World} {K : PySem.W.Frag} {q : Program} {lo : List Str} {mean : ExcName → Option Value} {h : Heap} {mg mb : Str → Option Value} {fa fTI fW fR fA fT fI fL fCK fG fM fV fta fpt fC fN fhm fpf flp fln flt fqu fFI fFO fPC fSH fIN fNB fIO fNO fHF fRD fBG fSR fDR fPA fPN fLR fBN fSM fZ cT cL cHF PT PL PHF  cCT XE X1 X2 X3 X7 : Addr} (X : K.In h) (G : Top q lo mean mg mb h) (hfa : mg "law" = some (.ref fa))
    {odTI anTI : Option Addr} {slTI : Array (Option Value)} {ocTI kVTI dcTI pmTI cdTI ctTI : Value}
    {odW anW : Option Addr} {slW : Array (Option Value)} {ocW kVW dcW pmW cdW ctW : Value}
    {odR anR : Option Addr} {slR : Array (Option Value)} {ocR kVR dcR pmR cdR ctR : Value}
    {odA anA : Option Addr} {slA : Array (Option Value)} {ocA kVA dcA pmA cdA ctA : Value}
    {odT anT : Option Addr} {slT : Array (Option Value)} {ocT kVT dcT pmT ctT : Value}
    {odI anI : Option Addr} {slI : Array (Option Value)} {ocI kVI dcI pmI cdI ctI : Value}
    {odL anL : Option Addr} {slL : Array (Option Value)} {ocL kVL dcL pmL ctL : Value}
    {odCK anCK : Option Addr} {slCK : Array (Option Value)} {ocCK kVCK dcCK pmCK cdCK ctCK : Value}
    {odG anG : Option Addr} {slG : Array (Option Value)} {ocG kVG dcG pmG cdG ctG : Value}
    {odM anM : Option Addr} {slM : Array (Option Value)} {ocM kVM dcM pmM cdM ctM : Value}
    {odV anV : Option Addr} {slV : Array (Option Value)} {ocV kVV dcV pmV cdV ctV : Value}
    {odta anta : Option Addr} {slta : Array (Option Value)} {octa kVta dcta pmta cdta ctta : Value}
    {odpt anpt : Option Addr} {slpt : Array (Option Value)} {ocpt kVpt dcpt pmpt cdpt ctpt : Value}
    {odC anC : Option Addr} {slC : Array (Option Value)} {ocC kVC dcC pmC cdC ctC : Value}
    {odN anN : Option Addr} {slN : Array (Option Value)} {ocN kVN dcN pmN cdN ctN : Value}
    {odhm anhm : Option Addr} {slhm : Array (Option Value)} {ochm kVhm dchm pmhm cdhm cthm : Value}
    {odpf anpf : Option Addr} {slpf : Array (Option Value)} {ocpf kVpf dcpf pmpf cdpf ctpf : Value}
    {odlp anlp : Option Addr} {sllp : Array (Option Value)} {oclp kVlp dclp pmlp cdlp ctlp : Value}
    {odln anln : Option Addr} {slln : Array (Option Value)} {ocln kVln dcln pmln cdln ctln : Value}
    {odlt anlt : Option Addr} {sllt : Array (Option Value)} {oclt kVlt dclt pmlt cdlt ctlt : Value}
    {odqu anqu : Option Addr} {slqu : Array (Option Value)} {ocqu kVqu dcqu pmqu cdqu ctqu : Value}
    {odFI anFI : Option Addr} {slFI : Array (Option Value)} {ocFI kVFI dcFI pmFI cdFI ctFI : Value}
    {odFO anFO : Option Addr} {slFO : Array (Option Value)} {ocFO kVFO dcFO pmFO cdFO ctFO : Value}
    {odPC anPC : Option Addr} {slPC : Array (Option Value)} {ocPC kVPC dcPC pmPC cdPC ctPC : Value}
    {odSH anSH : Option Addr} {slSH : Array (Option Value)} {ocSH kVSH dcSH pmSH cdSH ctSH : Value}
    {odIN anIN : Option Addr} {slIN : Array (Option Value)} {ocIN kVIN dcIN pmIN cdIN ctIN : Value}
    {odNB anNB : Option Addr} {slNB : Array (Option Value)} {ocNB kVNB dcNB pmNB cdNB ctNB : Value}
    {odIO anIO : Option Addr} {slIO : Array (Option Value)} {ocIO kVIO dcIO pmIO cdIO ctIO : Value}
    {odNO anNO : Option Addr} {slNO : Array (Option Value)} {ocNO kVNO dcNO pmNO cdNO ctNO : Value}
    {odHF anHF : Option Addr} {slHF : Array (Option Value)} {ocHF kVHF dcHF pmHF ctHF : Value}
    {odRD anRD : Option Addr} {slRD : Array (Option Value)} {ocRD kVRD dcRD pmRD cdRD ctRD : Value}
    {odBG anBG : Option Addr} {slBG : Array (Option Value)} {ocBG kVBG dcBG pmBG cdBG ctBG : Value}
    {odSR anSR : Option Addr} {slSR : Array (Option Value)} {ocSR kVSR dcSR pmSR cdSR ctSR : Value}
    {odDR anDR : Option Addr} {slDR : Array (Option Value)} {ocDR kVDR dcDR pmDR cdDR ctDR : Value}
    {odPA anPA : Option Addr} {slPA : Array (Option Value)} {ocPA kVPA dcPA pmPA cdPA ctPA : Value}
    {odPN anPN : Option Addr} {slPN : Array (Option Value)} {ocPN kVPN dcPN pmPN cdPN ctPN : Value}
    {odLR anLR : Option Addr} {slLR : Array (Option Value)} {ocLR kVLR dcLR pmLR cdLR ctLR : Value}
    {odBN anBN : Option Addr} {slBN : Array (Option Value)} {ocBN kVBN dcBN pmBN cdBN ctBN : Value}
    {odSM anSM : Option Addr} {slSM : Array (Option Value)} {ocSM kVSM dcSM pmSM cdSM ctSM : Value}
    {odZ anZ : Option Addr} {slZ : Array (Option Value)} {ocZ kVZ dcZ pmZ cdZ ctZ : Value} {eT : Value} {dT : Option Addr} {usT : Array Value} {wT : Array (Option Value)} {eL : Value} {dL : Option Addr} {usL : Array Value} {wL : Array (Option Value)} {eHF : Value} {dHF : Option Addr} {usHF : Array Value} {wHF : Array (Option Value)} {tgM : Tok} {tgLo : Tok} {tgPL : Tok} {tgPW : Tok} {tgNV : Tok} {tgEV : Tok} {tgMost : Tok}
    (aTI : PySem.W.findIn K (.ref cCT) "__init__" = some (some (.ref fTI))) (lTI : K.lookup fTI = some ⟨ocTI, odTI, .func (PySem.W.fnOf "__init__" "NoText.__init__" (defArgs sInitNT) (defBody sInitNT) (defScope sInitNT) .none kVTI dcTI pmTI anTI cdTI ctTI), slTI⟩) (TIc : PySem.W.codeIn K cdTI "NoText.__init__" = true) (kTI : PySem.W.keepIn K (.ref fTI) = true) (iTI : PySem.W.isFn K (.ref fTI) = true)
    (aW : PySem.W.nsIn K mainGlobals "is_whole" = some (some (.ref fW))) (lW : K.lookup fW = some ⟨ocW, odW, .func (PySem.W.fnOf "is_whole" "is_whole" (defArgs sWhole) (defBody sWhole) (defScope sWhole) .none kVW dcW pmW anW cdW ctW), slW⟩) (Wc : PySem.W.codeIn K cdW "is_whole" = true) (kW : PySem.W.keepIn K (.ref fW) = true)
    (aR : PySem.W.nsIn K mainGlobals "is_row" = some (some (.ref fR))) (lR : K.lookup fR = some ⟨ocR, odR, .func (PySem.W.fnOf "is_row" "is_row" (defArgs sRow) (defBody sRow) (defScope sRow) .none kVR dcR pmR anR cdR ctR), slR⟩) (Rc : PySem.W.codeIn K cdR "is_row" = true) (kR : PySem.W.keepIn K (.ref fR) = true)
    (aA : PySem.W.nsIn K mainGlobals "is_patience" = some (some (.ref fA))) (lA : K.lookup fA = some ⟨ocA, odA, .func (PySem.W.fnOf "is_patience" "is_patience" (defArgs sPat) (defBody sPat) (defScope sPat) .none kVA dcA pmA anA cdA ctA), slA⟩) (Ac : PySem.W.codeIn K cdA "is_patience" = true) (kA : PySem.W.keepIn K (.ref fA) = true)
    (aT : PySem.W.nsIn K mainGlobals "is_turns" = some (some (.ref fT))) (lT : K.lookup fT = some ⟨ocT, odT, .func (PySem.W.fnOf "is_turns" "is_turns" (defArgs sTurns) (defBody sTurns) (defScope sTurns) .none kVT dcT pmT anT (.ref cT) ctT), slT⟩) (Tc : PySem.W.codeIn K (.ref cT) "is_turns" = true) (kT : PySem.W.keepIn K (.ref fT) = true)
    (aI : PySem.W.nsIn K mainGlobals "is_piece" = some (some (.ref fI))) (lI : K.lookup fI = some ⟨ocI, odI, .func (PySem.W.fnOf "is_piece" "is_piece" (defArgs sPiece) (defBody sPiece) (defScope sPiece) .none kVI dcI pmI anI cdI ctI), slI⟩) (Ic : PySem.W.codeIn K cdI "is_piece" = true) (kI : PySem.W.keepIn K (.ref fI) = true)
    (aL : PySem.W.nsIn K mainGlobals "is_plan" = some (some (.ref fL))) (lL : K.lookup fL = some ⟨ocL, odL, .func (PySem.W.fnOf "is_plan" "is_plan" (defArgs sPlan) (defBody sPlan) (defScope sPlan) .none kVL dcL pmL anL (.ref cL) ctL), slL⟩) (Lc : PySem.W.codeIn K (.ref cL) "is_plan" = true) (kL : PySem.W.keepIn K (.ref fL) = true)
    (aCK : PySem.W.nsIn K mainGlobals "check_plan" = some (some (.ref fCK))) (lCK : K.lookup fCK = some ⟨ocCK, odCK, .func (PySem.W.fnOf "check_plan" "check_plan" (defArgs sCheck) (defBody sCheck) (defScope sCheck) .none kVCK dcCK pmCK anCK cdCK ctCK), slCK⟩) (CKc : PySem.W.codeIn K cdCK "check_plan" = true) (kCK : PySem.W.keepIn K (.ref fCK) = true)
    (aG : PySem.W.nsIn K mainGlobals "pieces_of" = some (some (.ref fG))) (lG : K.lookup fG = some ⟨ocG, odG, .func (PySem.W.fnOf "pieces_of" "pieces_of" (defArgs sPieces) (defBody sPieces) (defScope sPieces) .none kVG dcG pmG anG cdG ctG), slG⟩) (Gc : PySem.W.codeIn K cdG "pieces_of" = true) (kG : PySem.W.keepIn K (.ref fG) = true)
    (aM : PySem.W.nsIn K mainGlobals "many_in" = some (some (.ref fM))) (lM : K.lookup fM = some ⟨ocM, odM, .func (PySem.W.fnOf "many_in" "many_in" (defArgs sMany) (defBody sMany) (defScope sMany) .none kVM dcM pmM anM cdM ctM), slM⟩) (Mc : PySem.W.codeIn K cdM "many_in" = true) (kM : PySem.W.keepIn K (.ref fM) = true)
    (aV : PySem.W.nsIn K mainGlobals "piece_number" = some (some (.ref fV))) (lV : K.lookup fV = some ⟨ocV, odV, .func (PySem.W.fnOf "piece_number" "piece_number" (defArgs sPieceNo) (defBody sPieceNo) (defScope sPieceNo) .none kVV dcV pmV anV cdV ctV), slV⟩) (Vc : PySem.W.codeIn K cdV "piece_number" = true) (kV : PySem.W.keepIn K (.ref fV) = true)
    (ata : PySem.W.nsIn K mainGlobals "turn_at" = some (some (.ref fta))) (lta : K.lookup fta = some ⟨octa, odta, .func (PySem.W.fnOf "turn_at" "turn_at" (defArgs sTurnAt) (defBody sTurnAt) (defScope sTurnAt) .none kVta dcta pmta anta cdta ctta), slta⟩) (tac : PySem.W.codeIn K cdta "turn_at" = true) (kta : PySem.W.keepIn K (.ref fta) = true)
    (apt : PySem.W.nsIn K mainGlobals "patience_at" = some (some (.ref fpt))) (lpt : K.lookup fpt = some ⟨ocpt, odpt, .func (PySem.W.fnOf "patience_at" "patience_at" (defArgs sPatAt) (defBody sPatAt) (defScope sPatAt) .none kVpt dcpt pmpt anpt cdpt ctpt), slpt⟩) (ptc : PySem.W.codeIn K cdpt "patience_at" = true) (kpt : PySem.W.keepIn K (.ref fpt) = true)
    (aC : PySem.W.nsIn K mainGlobals "check_person" = some (some (.ref fC))) (lC : K.lookup fC = some ⟨ocC, odC, .func (PySem.W.fnOf "check_person" "check_person" (defArgs sCkP) (defBody sCkP) (defScope sCkP) .none kVC dcC pmC anC cdC ctC), slC⟩) (Cc : PySem.W.codeIn K cdC "check_person" = true) (kC : PySem.W.keepIn K (.ref fC) = true)
    (aN : PySem.W.nsIn K mainGlobals "check_moment" = some (some (.ref fN))) (lN : K.lookup fN = some ⟨ocN, odN, .func (PySem.W.fnOf "check_moment" "check_moment" (defArgs sCkM) (defBody sCkM) (defScope sCkM) .none kVN dcN pmN anN cdN ctN), slN⟩) (Nc : PySem.W.codeIn K cdN "check_moment" = true) (kN : PySem.W.keepIn K (.ref fN) = true)
    (ahm : PySem.W.nsIn K mainGlobals "how_many" = some (some (.ref fhm))) (lhm : K.lookup fhm = some ⟨ochm, odhm, .func (PySem.W.fnOf "how_many" "how_many" (defArgs sHow) (defBody sHow) (defScope sHow) .none kVhm dchm pmhm anhm cdhm cthm), slhm⟩) (hmc : PySem.W.codeIn K cdhm "how_many" = true) (khm : PySem.W.keepIn K (.ref fhm) = true)
    (apf : PySem.W.nsIn K mainGlobals "patience_of" = some (some (.ref fpf))) (lpf : K.lookup fpf = some ⟨ocpf, odpf, .func (PySem.W.fnOf "patience_of" "patience_of" (defArgs sPatOf) (defBody sPatOf) (defScope sPatOf) .none kVpf dcpf pmpf anpf cdpf ctpf), slpf⟩) (pfc : PySem.W.codeIn K cdpf "patience_of" = true) (kpf : PySem.W.keepIn K (.ref fpf) = true)
    (alp : PySem.W.nsIn K mainGlobals "let_past" = some (some (.ref flp))) (llp : K.lookup flp = some ⟨oclp, odlp, .func (PySem.W.fnOf "let_past" "let_past" (defArgs sLet) (defBody sLet) (defScope sLet) .none kVlp dclp pmlp anlp cdlp ctlp), sllp⟩) (lpc : PySem.W.codeIn K cdlp "let_past" = true) (klp : PySem.W.keepIn K (.ref flp) = true)
    (aln : PySem.W.nsIn K mainGlobals "line_up" = some (some (.ref fln))) (lln : K.lookup fln = some ⟨ocln, odln, .func (PySem.W.fnOf "line_up" "line_up" (defArgs sLine) (defBody sLine) (defScope sLine) .none kVln dcln pmln anln cdln ctln), slln⟩) (lnc : PySem.W.codeIn K cdln "line_up" = true) (kln : PySem.W.keepIn K (.ref fln) = true)
    (alt : PySem.W.nsIn K mainGlobals "listed_at" = some (some (.ref flt))) (llt : K.lookup flt = some ⟨oclt, odlt, .func (PySem.W.fnOf "listed_at" "listed_at" (defArgs sListed) (defBody sListed) (defScope sListed) .none kVlt dclt pmlt anlt cdlt ctlt), sllt⟩) (ltc : PySem.W.codeIn K cdlt "listed_at" = true) (klt : PySem.W.keepIn K (.ref flt) = true)
    (aqu : PySem.W.nsIn K mainGlobals "queue_at" = some (some (.ref fqu))) (lqu : K.lookup fqu = some ⟨ocqu, odqu, .func (PySem.W.fnOf "queue_at" "queue_at" (defArgs sQueue) (defBody sQueue) (defScope sQueue) .none kVqu dcqu pmqu anqu cdqu ctqu), slqu⟩) (quc : PySem.W.codeIn K cdqu "queue_at" = true) (kqu : PySem.W.keepIn K (.ref fqu) = true)
    (aFI : PySem.W.nsIn K mainGlobals "figures_of" = some (some (.ref fFI))) (lFI : K.lookup fFI = some ⟨ocFI, odFI, .func (PySem.W.fnOf "figures_of" "figures_of" (defArgs sFig) (defBody sFig) (defScope sFig) .none kVFI dcFI pmFI anFI cdFI ctFI), slFI⟩) (FIc : PySem.W.codeIn K cdFI "figures_of" = true) (kFI : PySem.W.keepIn K (.ref fFI) = true)
    (aFO : PySem.W.nsIn K mainGlobals "figures_or" = some (some (.ref fFO))) (lFO : K.lookup fFO = some ⟨ocFO, odFO, .func (PySem.W.fnOf "figures_or" "figures_or" (defArgs sFor) (defBody sFor) (defScope sFor) .none kVFO dcFO pmFO anFO cdFO ctFO), slFO⟩) (FOc : PySem.W.codeIn K cdFO "figures_or" = true) (kFO : PySem.W.keepIn K (.ref fFO) = true)
    (aPC : PySem.W.nsIn K mainGlobals "show_piece" = some (some (.ref fPC))) (lPC : K.lookup fPC = some ⟨ocPC, odPC, .func (PySem.W.fnOf "show_piece" "show_piece" (defArgs sPc) (defBody sPc) (defScope sPc) .none kVPC dcPC pmPC anPC cdPC ctPC), slPC⟩) (PCc : PySem.W.codeIn K cdPC "show_piece" = true) (kPC : PySem.W.keepIn K (.ref fPC) = true)
    (aSH : PySem.W.nsIn K mainGlobals "show_plan" = some (some (.ref fSH))) (lSH : K.lookup fSH = some ⟨ocSH, odSH, .func (PySem.W.fnOf "show_plan" "show_plan" (defArgs sShow) (defBody sShow) (defScope sShow) .none kVSH dcSH pmSH anSH cdSH ctSH), slSH⟩) (SHc : PySem.W.codeIn K cdSH "show_plan" = true) (kSH : PySem.W.keepIn K (.ref fSH) = true)
    (aIN : PySem.W.nsIn K mainGlobals "is_number" = some (some (.ref fIN))) (lIN : K.lookup fIN = some ⟨ocIN, odIN, .func (PySem.W.fnOf "is_number" "is_number" (defArgs sIsN) (defBody sIsN) (defScope sIsN) .none kVIN dcIN pmIN anIN cdIN ctIN), slIN⟩) (INc : PySem.W.codeIn K cdIN "is_number" = true) (kIN : PySem.W.keepIn K (.ref fIN) = true)
    (aNB : PySem.W.nsIn K mainGlobals "number_by" = some (some (.ref fNB))) (lNB : K.lookup fNB = some ⟨ocNB, odNB, .func (PySem.W.fnOf "number_by" "number_by" (defArgs sBy) (defBody sBy) (defScope sBy) .none kVNB dcNB pmNB anNB cdNB ctNB), slNB⟩) (NBc : PySem.W.codeIn K cdNB "number_by" = true) (kNB : PySem.W.keepIn K (.ref fNB) = true)
    (aIO : PySem.W.nsIn K mainGlobals "is_number_or" = some (some (.ref fIO))) (lIO : K.lookup fIO = some ⟨ocIO, odIO, .func (PySem.W.fnOf "is_number_or" "is_number_or" (defArgs sIsO) (defBody sIsO) (defScope sIsO) .none kVIO dcIO pmIO anIO cdIO ctIO), slIO⟩) (IOc : PySem.W.codeIn K cdIO "is_number_or" = true) (kIO : PySem.W.keepIn K (.ref fIO) = true)
    (aNO : PySem.W.nsIn K mainGlobals "number_or" = some (some (.ref fNO))) (lNO : K.lookup fNO = some ⟨ocNO, odNO, .func (PySem.W.fnOf "number_or" "number_or" (defArgs sNor) (defBody sNor) (defScope sNor) .none kVNO dcNO pmNO anNO cdNO ctNO), slNO⟩) (NOc : PySem.W.codeIn K cdNO "number_or" = true) (kNO : PySem.W.keepIn K (.ref fNO) = true)
    (aHF : PySem.W.nsIn K mainGlobals "has_form" = some (some (.ref fHF))) (lHF : K.lookup fHF = some ⟨ocHF, odHF, .func (PySem.W.fnOf "has_form" "has_form" (defArgs sForm) (defBody sForm) (defScope sForm) .none kVHF dcHF pmHF anHF (.ref cHF) ctHF), slHF⟩) (HFc : PySem.W.codeIn K (.ref cHF) "has_form" = true) (kHF : PySem.W.keepIn K (.ref fHF) = true)
    (aRD : PySem.W.nsIn K mainGlobals "read_plan" = some (some (.ref fRD))) (lRD : K.lookup fRD = some ⟨ocRD, odRD, .func (PySem.W.fnOf "read_plan" "read_plan" (defArgs sRead) (defBody sRead) (defScope sRead) .none kVRD dcRD pmRD anRD cdRD ctRD), slRD⟩) (RDc : PySem.W.codeIn K cdRD "read_plan" = true) (kRD : PySem.W.keepIn K (.ref fRD) = true)
    (aBG : PySem.W.nsIn K mainGlobals "_law_bag" = some (some (.ref fBG))) (lBG : K.lookup fBG = some ⟨ocBG, odBG, .func (PySem.W.fnOf "_law_bag" "_law_bag" (defArgs sBag) (defBody sBag) (defScope sBag) .none kVBG dcBG pmBG anBG cdBG ctBG), slBG⟩) (BGc : PySem.W.codeIn K cdBG "_law_bag" = true) (kBG : PySem.W.keepIn K (.ref fBG) = true)
    (aSR : PySem.W.nsIn K mainGlobals "_law_stir" = some (some (.ref fSR))) (lSR : K.lookup fSR = some ⟨ocSR, odSR, .func (PySem.W.fnOf "_law_stir" "_law_stir" (defArgs sStir) (defBody sStir) (defScope sStir) .none kVSR dcSR pmSR anSR cdSR ctSR), slSR⟩) (SRc : PySem.W.codeIn K cdSR "_law_stir" = true) (kSR : PySem.W.keepIn K (.ref fSR) = true)
    (aDR : PySem.W.nsIn K mainGlobals "_law_draw" = some (some (.ref fDR))) (lDR : K.lookup fDR = some ⟨ocDR, odDR, .func (PySem.W.fnOf "_law_draw" "_law_draw" (defArgs sDraw) (defBody sDraw) (defScope sDraw) .none kVDR dcDR pmDR anDR cdDR ctDR), slDR⟩) (DRc : PySem.W.codeIn K cdDR "_law_draw" = true) (kDR : PySem.W.keepIn K (.ref fDR) = true)
    (aPA : PySem.W.nsIn K mainGlobals "_law_patience" = some (some (.ref fPA))) (lPA : K.lookup fPA = some ⟨ocPA, odPA, .func (PySem.W.fnOf "_law_patience" "_law_patience" (defArgs sPatB) (defBody sPatB) (defScope sPatB) .none kVPA dcPA pmPA anPA cdPA ctPA), slPA⟩) (PAc : PySem.W.codeIn K cdPA "_law_patience" = true) (kPA : PySem.W.keepIn K (.ref fPA) = true)
    (aPN : PySem.W.nsIn K mainGlobals "_law_plan" = some (some (.ref fPN))) (lPN : K.lookup fPN = some ⟨ocPN, odPN, .func (PySem.W.fnOf "_law_plan" "_law_plan" (defArgs sPlanB) (defBody sPlanB) (defScope sPlanB) .none kVPN dcPN pmPN anPN cdPN ctPN), slPN⟩) (PNc : PySem.W.codeIn K cdPN "_law_plan" = true) (kPN : PySem.W.keepIn K (.ref fPN) = true)
    (aLR : PySem.W.nsIn K mainGlobals "_law_read" = some (some (.ref fLR))) (lLR : K.lookup fLR = some ⟨ocLR, odLR, .func (PySem.W.fnOf "_law_read" "_law_read" (defArgs sLRd) (defBody sLRd) (defScope sLRd) .none kVLR dcLR pmLR anLR cdLR ctLR), slLR⟩) (LRc : PySem.W.codeIn K cdLR "_law_read" = true) (kLR : PySem.W.keepIn K (.ref fLR) = true)
    (aBN : PySem.W.nsIn K mainGlobals "_law_bent" = some (some (.ref fBN))) (lBN : K.lookup fBN = some ⟨ocBN, odBN, .func (PySem.W.fnOf "_law_bent" "_law_bent" (defArgs sBent) (defBody sBent) (defScope sBent) .none kVBN dcBN pmBN anBN cdBN ctBN), slBN⟩) (BNc : PySem.W.codeIn K cdBN "_law_bent" = true) (kBN : PySem.W.keepIn K (.ref fBN) = true)
    (aSM : PySem.W.nsIn K mainGlobals "_law_same" = some (some (.ref fSM))) (lSM : K.lookup fSM = some ⟨ocSM, odSM, .func (PySem.W.fnOf "_law_same" "_law_same" (defArgs sSame) (defBody sSame) (defScope sSame) .none kVSM dcSM pmSM anSM cdSM ctSM), slSM⟩) (SMc : PySem.W.codeIn K cdSM "_law_same" = true) (kSM : PySem.W.keepIn K (.ref fSM) = true)
    (aZ : PySem.W.nsIn K mainGlobals "law" = some (some (.ref fZ))) (lZ : K.lookup fZ = some ⟨ocZ, odZ, .func (PySem.W.fnOf "law" "law" (defArgs sLaw) (defBody sLaw) (defScope sLaw) .none kVZ dcZ pmZ anZ cdZ ctZ), slZ⟩) (Zc : PySem.W.codeIn K cdZ "law" = true) (kZ : PySem.W.keepIn K (.ref fZ) = true)
    (z_isinstance : PySem.W.nsIn K mainGlobals "isinstance" = some none) (z_len : PySem.W.nsIn K mainGlobals "len" = some none) (z_all : PySem.W.nsIn K mainGlobals "all" = some none) (z_any : PySem.W.nsIn K mainGlobals "any" = some none) (z_sum : PySem.W.nsIn K mainGlobals "sum" = some none) (z_int : PySem.W.nsIn K mainGlobals "int" = some none) (z_bool : PySem.W.nsIn K mainGlobals "bool" = some none) (z_list : PySem.W.nsIn K mainGlobals "list" = some none) (z_tuple : PySem.W.nsIn K mainGlobals "tuple" = some none) (z_str : PySem.W.nsIn K mainGlobals "str" = some none) (z_divmod : PySem.W.nsIn K mainGlobals "divmod" = some none) (z_reversed : PySem.W.nsIn K mainGlobals "reversed" = some none) (z_range : PySem.W.nsIn K mainGlobals "range" = some none) (z_min : PySem.W.nsIn K mainGlobals "min" = some none) (z_repr : PySem.W.nsIn K mainGlobals "repr" = some none) (z_enumerate : PySem.W.nsIn K mainGlobals "enumerate" = some none)
    (mT : K.lookup cT = some ⟨eT, dT, .fields usT, wT⟩) (pT : usT[11]? = some (.ref PT)) (qT : PySem.W.codeHdIn K cT PT = true) (nT : (K.lookup PT).isNone = true) (rT : ((recsOf q).any fun e => e.name == "is_turns") = true)
    (mL : K.lookup cL = some ⟨eL, dL, .fields usL, wL⟩) (pL : usL[11]? = some (.ref PL)) (qL : PySem.W.codeHdIn K cL PL = true) (nL : (K.lookup PL).isNone = true) (rL : ((recsOf q).any fun e => e.name == "is_plan") = true)
    (mHF : K.lookup cHF = some ⟨eHF, dHF, .fields usHF, wHF⟩) (pHF : usHF[11]? = some (.ref PHF)) (qHF : PySem.W.codeHdIn K cHF PHF = true) (nHF : (K.lookup PHF).isNone = true) (rHF : ((recsOf q).any fun e => e.name == "has_form") = true)
    
    (aCLS : PySem.W.nsIn K mainGlobals "NoText" = some (some (.ref cCT)))
    (gE : PySem.W.nsIn K mainGlobals "LineError" = some (some (.ref XE)))
    (xg1 : PySem.W.nsIn K mainGlobals "NoPlan" = some (some (.ref X1)))
    (xx1 : PySem.W.excIn K X1 [.type "ValueError", .type "Exception", .type "BaseException", .type "object"] "ValueError.__new__" = true)
    (xk1 : PySem.W.keepIn K (.ref X1) = true)
    (xb1 : PySem.W.subIn K (.ref X1) (.type "BaseException") = some true)
    (xt1 : PySem.W.typeIn K (.ref X1) = some (.type "type"))
    (xg2 : PySem.W.nsIn K mainGlobals "NoPerson" = some (some (.ref X2)))
    (xx2 : PySem.W.excIn K X2 [.type "ValueError", .type "Exception", .type "BaseException", .type "object"] "ValueError.__new__" = true)
    (xk2 : PySem.W.keepIn K (.ref X2) = true)
    (xb2 : PySem.W.subIn K (.ref X2) (.type "BaseException") = some true)
    (xt2 : PySem.W.typeIn K (.ref X2) = some (.type "type"))
    (xg3 : PySem.W.nsIn K mainGlobals "NoMoment" = some (some (.ref X3)))
    (xx3 : PySem.W.excIn K X3 [.type "ValueError", .type "Exception", .type "BaseException", .type "object"] "ValueError.__new__" = true)
    (xk3 : PySem.W.keepIn K (.ref X3) = true)
    (xb3 : PySem.W.subIn K (.ref X3) (.type "BaseException") = some true)
    (xt3 : PySem.W.typeIn K (.ref X3) = some (.type "type"))
    (xg7 : PySem.W.nsIn K mainGlobals "TooMany" = some (some (.ref X7)))
    (xx7 : PySem.W.excIn K X7 [.type "ValueError", .type "Exception", .type "BaseException", .type "object"] "ValueError.__new__" = true)
    (xk7 : PySem.W.keepIn K (.ref X7) = true)
    (xb7 : PySem.W.subIn K (.ref X7) (.type "BaseException") = some true)
    (xt7 : PySem.W.typeIn K (.ref X7) = some (.type "type"))
    (e1 : PySem.W.exmOne K (.ref cCT) (.ref XE) = some true)
    (e2 : PySem.W.exmOne K (.ref X1) (.ref XE) = some true)
    (rdE : PySem.W.readsIn K XE (.type "type") = true)
    (sgE : PySem.W.specialIn K (.ref XE) "__getattribute__" = some (some (.builtin "type.__getattribute__")))
    (iniE : PySem.W.findCls K (.ref XE) (.type "type") "__init__" = some (.val (.builtin "ValueError.__init__")))
    {nmT qnT : Str} {NT : Addr} {bsT bmT : List Value} {snT : List Str} {subT : List Value} {abT : Bool} {colT : Option Bool} {ddT : Option Addr} {k0T k1T k2T k3T k5T : Option Value} (oxl : K.lookup cCT = some (excClassObj nmT qnT cCT NT bsT bmT true snT subT abT colT ddT k0T k1T k2T k3T k5T "ValueError.__new__"))
    (oxr : PySem.HandSPX.refsVE bmT = true)
    (saT : PySem.W.findIn K (.ref cCT) "__setattr__" = some (some (.builtin "object.__setattr__")))
    (exT : PySem.W.subIn K (.ref cCT) (.type "BaseException") = some true)
    (tyT : PySem.W.typeIn K (.ref cCT) = some (.type "type"))
    (ktxt : PySem.W.keepIn K (.ref cCT) = true)
    (nsT : PySem.W.findIn K (.ref cCT) "sign" = some none)
    (tTI : PySem.W.typeIn K (.ref fTI) = some (.type "function"))
    (gM : PySem.W.nsIn K mainGlobals "GREATEST" = some (some (.int GREAT tgM))) (gLo : PySem.W.nsIn K mainGlobals "LONGEST" = some (some (.int 8 tgLo))) (gPL : PySem.W.nsIn K mainGlobals "PART_LENGTH" = some (some (.int 50 tgPL))) (gPW : PySem.W.nsIn K mainGlobals "PART_WORTH" = some (some (.int FIFTY tgPW))) (gNV : PySem.W.nsIn K mainGlobals "NEVER" = some (some (.str "never" tgNV))) (gEV : PySem.W.nsIn K mainGlobals "EVER" = some (some (.str "ever" tgEV))) (gMost : PySem.W.nsIn K mainGlobals "MOST_LISTED" = some (some (.int 2000 tgMost))) : AtLaw l w K mg fa h := by
  have e := hfa.symm.trans (PySem.W.mg_of X G.g aZ)
  cases e
  have FTI := fun_mk (st := sInitNT) lTI TIc kTI
  have FW := fun_mk (st := sWhole) lW Wc kW
  have FR := fun_mk (st := sRow) lR Rc kR
  have FA := fun_mk (st := sPat) lA Ac kA
  have FT := fun_mk (st := sTurns) lT Tc kT
  have FI := fun_mk (st := sPiece) lI Ic kI
  have FL := fun_mk (st := sPlan) lL Lc kL
  have FCK := fun_mk (st := sCheck) lCK CKc kCK
  have FG := fun_mk (st := sPieces) lG Gc kG
  have FM := fun_mk (st := sMany) lM Mc kM
  have FV := fun_mk (st := sPieceNo) lV Vc kV
  have Fta := fun_mk (st := sTurnAt) lta tac kta
  have Fpt := fun_mk (st := sPatAt) lpt ptc kpt
  have FC := fun_mk (st := sCkP) lC Cc kC
  have FN := fun_mk (st := sCkM) lN Nc kN
  have Fhm := fun_mk (st := sHow) lhm hmc khm
  have Fpf := fun_mk (st := sPatOf) lpf pfc kpf
  have Flp := fun_mk (st := sLet) llp lpc klp
  have Fln := fun_mk (st := sLine) lln lnc kln
  have Flt := fun_mk (st := sListed) llt ltc klt
  have Fqu := fun_mk (st := sQueue) lqu quc kqu
  have FFI := fun_mk (st := sFig) lFI FIc kFI
  have FFO := fun_mk (st := sFor) lFO FOc kFO
  have FPC := fun_mk (st := sPc) lPC PCc kPC
  have FSH := fun_mk (st := sShow) lSH SHc kSH
  have FIN := fun_mk (st := sIsN) lIN INc kIN
  have FNB := fun_mk (st := sBy) lNB NBc kNB
  have FIO := fun_mk (st := sIsO) lIO IOc kIO
  have FNO := fun_mk (st := sNor) lNO NOc kNO
  have FHF := fun_mk (st := sForm) lHF HFc kHF
  have FRD := fun_mk (st := sRead) lRD RDc kRD
  have FBG := fun_mk (st := sBag) lBG BGc kBG
  have FSR := fun_mk (st := sStir) lSR SRc kSR
  have FDR := fun_mk (st := sDraw) lDR DRc kDR
  have FPA := fun_mk (st := sPatB) lPA PAc kPA
  have FPN := fun_mk (st := sPlanB) lPN PNc kPN
  have FLR := fun_mk (st := sLRd) lLR LRc kLR
  have FBN := fun_mk (st := sBent) lBN BNc kBN
  have FSM := fun_mk (st := sSame) lSM SMc kSM
  have FZ := fun_mk (st := sLaw) lZ Zc kZ
  have bTI := FTI.binds (ps := ["self", "sign"]) fun _ _ _ _ _ _ us hl => match us, hl with | [_, _], _ => rfl
  have bW := FW.binds (ps := ["thing"]) fun _ _ _ _ _ _ us hl => match us, hl with | [_], _ => rfl
  have bR := FR.binds (ps := ["thing"]) fun _ _ _ _ _ _ us hl => match us, hl with | [_], _ => rfl
  have bA := FA.binds (ps := ["thing"]) fun _ _ _ _ _ _ us hl => match us, hl with | [_], _ => rfl
  have bT := FT.binds (ps := ["thing"]) fun _ _ _ _ _ _ us hl => match us, hl with | [_], _ => rfl
  have bI := FI.binds (ps := ["thing"]) fun _ _ _ _ _ _ us hl => match us, hl with | [_], _ => rfl
  have bL := FL.binds (ps := ["thing"]) fun _ _ _ _ _ _ us hl => match us, hl with | [_], _ => rfl
  have bCK := FCK.binds (ps := ["thing"]) fun _ _ _ _ _ _ us hl => match us, hl with | [_], _ => rfl
  have bG := FG.binds (ps := ["plan"]) fun _ _ _ _ _ _ us hl => match us, hl with | [_], _ => rfl
  have bM := FM.binds (ps := ["pieces"]) fun _ _ _ _ _ _ us hl => match us, hl with | [_], _ => rfl
  have bV := FV.binds (ps := ["pieces", "person"]) fun _ _ _ _ _ _ us hl => match us, hl with | [_, _], _ => rfl
  have bta := Fta.binds (ps := ["pieces", "person"]) fun _ _ _ _ _ _ us hl => match us, hl with | [_, _], _ => rfl
  have bpt := Fpt.binds (ps := ["pieces", "person"]) fun _ _ _ _ _ _ us hl => match us, hl with | [_, _], _ => rfl
  have bC := FC.binds (ps := ["pieces", "person"]) fun _ _ _ _ _ _ us hl => match us, hl with | [_, _], _ => rfl
  have bN := FN.binds (ps := ["pieces", "moment"]) fun _ _ _ _ _ _ us hl => match us, hl with | [_, _], _ => rfl
  have bhm := Fhm.binds (ps := ["plan"]) fun _ _ _ _ _ _ us hl => match us, hl with | [_], _ => rfl
  have bpf := Fpf.binds (ps := ["plan", "person"]) fun _ _ _ _ _ _ us hl => match us, hl with | [_, _], _ => rfl
  have blp := Flp.binds (ps := ["left"]) fun _ _ _ _ _ _ us hl => match us, hl with | [_], _ => rfl
  have bln := Fln.binds (ps := ["pieces", "moment"]) fun _ _ _ _ _ _ us hl => match us, hl with | [_, _], _ => rfl
  have blt := Flt.binds (ps := ["plan", "moment"]) fun _ _ _ _ _ _ us hl => match us, hl with | [_, _], _ => rfl
  have bqu := Fqu.binds (ps := ["plan", "moment"]) fun _ _ _ _ _ _ us hl => match us, hl with | [_, _], _ => rfl
  have bFI := FFI.binds (ps := ["number"]) fun _ _ _ _ _ _ us hl => match us, hl with | [_], _ => rfl
  have bFO := FFO.binds (ps := ["number", "none"]) fun _ _ _ _ _ _ us hl => match us, hl with | [_, _], _ => rfl
  have bPC := FPC.binds (ps := ["turns", "many"]) fun _ _ _ _ _ _ us hl => match us, hl with | [_, _], _ => rfl
  have bSH := FSH.binds (ps := ["plan"]) fun _ _ _ _ _ _ us hl => match us, hl with | [_], _ => rfl
  have bIN := FIN.binds (ps := ["word"]) fun _ _ _ _ _ _ us hl => match us, hl with | [_], _ => rfl
  have bNB := FNB.binds (ps := ["figures"]) fun _ _ _ _ _ _ us hl => match us, hl with | [_], _ => rfl
  have bIO := FIO.binds (ps := ["word", "none"]) fun _ _ _ _ _ _ us hl => match us, hl with | [_, _], _ => rfl
  have bNO := FNO.binds (ps := ["word", "none"]) fun _ _ _ _ _ _ us hl => match us, hl with | [_, _], _ => rfl
  have bHF := FHF.binds (ps := ["words"]) fun _ _ _ _ _ _ us hl => match us, hl with | [_], _ => rfl
  have bRD := FRD.binds (ps := ["text"]) fun _ _ _ _ _ _ us hl => match us, hl with | [_], _ => rfl
  have bBG := FBG.binds (ps := ["script"]) fun _ _ _ _ _ _ us hl => match us, hl with | [_], _ => rfl
  have bSR := FSR.binds (ps := ["number", "place"]) fun _ _ _ _ _ _ us hl => match us, hl with | [_, _], _ => rfl
  have bDR := FDR.binds (ps := ["bag", "many"]) fun _ _ _ _ _ _ us hl => match us, hl with | [_, _], _ => rfl
  have bPA := FPA.binds (ps := ["bag", "most"]) fun _ _ _ _ _ _ us hl => match us, hl with | [_, _], _ => rfl
  have bPN := FPN.binds (ps := ["bag", "most", "wide"]) fun _ _ _ _ _ _ us hl => match us, hl with | [_, _, _], _ => rfl
  have bLR := FLR.binds (ps := ["text"]) fun _ _ _ _ _ _ us hl => match us, hl with | [_], _ => rfl
  have bBN := FBN.binds (ps := ["bag", "text"]) fun _ _ _ _ _ _ us hl => match us, hl with | [_, _], _ => rfl
  have bSM := FSM.binds (ps := ["bag", "plan", "other"]) fun _ _ _ _ _ _ us hl => match us, hl with | [_, _, _], _ => rfl
  have bZ := FZ.binds (ps := ["script"]) fun _ _ _ _ _ _ us hl => match us, hl with | [_], _ => rfl
  have CT : FunC K "is_turns" "is_turns" sTurns fT _ cT := ⟨⟨ocT, odT, kVT, dcT, pmT, anT, ctT, slT, rfl, lT, Tc⟩, kT⟩
  have CL : FunC K "is_plan" "is_plan" sPlan fL _ cL := ⟨⟨ocL, odL, kVL, dcL, pmL, anL, ctL, slL, rfl, lL, Lc⟩, kL⟩
  have CHF : FunC K "has_form" "has_form" sForm fHF _ cHF := ⟨⟨ocHF, odHF, kVHF, dcHF, pmHF, anHF, ctHF, slHF, rfl, lHF, HFc⟩, kHF⟩
  have m := fun {n : Str} (e : PySem.W.nsIn K mainGlobals n = some none) => PySem.W.mg_none_of X G.g e
  have g := fun {n : Str} {v : Value} (e : PySem.W.nsIn K mainGlobals n = some (some v)) => PySem.W.mg_of X G.g e
  have T : Nm mg := ⟨m z_isinstance, m z_len, m z_all, m z_any, m z_sum, m z_int, m z_bool, m z_list, m z_tuple, ⟨_, g gM⟩, ⟨_, g gLo⟩⟩
  have N4 : Nm4 mg := ⟨m z_str, m z_divmod, m z_reversed, ⟨_, g gPL⟩, ⟨_, g gPW⟩, ⟨_, g gNV⟩, ⟨_, g gEV⟩⟩
  have N5 : Nm5 mg := ⟨m z_range, m z_min, m z_repr⟩
  have N6 : Nm6 mg := ⟨m z_enumerate⟩
  have XC1 : ExcC K mg "NoPlan" X1 := ⟨g xg1, xx1, xk1, xb1, xt1⟩
  have XC2 : ExcC K mg "NoPerson" X2 := ⟨g xg2, xx2, xk2, xb2, xt2⟩
  have XC3 : ExcC K mg "NoMoment" X3 := ⟨g xg3, xx3, xk3, xb3, xt3⟩
  have XC7 : ExcC K mg "TooMany" X7 := ⟨g xg7, xx7, xk7, xb7, xt7⟩
  have NTX : NTx K mg XE cCT := ⟨g gE, rdE, sgE, iniE, g aCLS, ⟨⟨_, _, _, _, _, _, _, _, _, _, _, _, _, _, _, oxl, oxr⟩, saT, exT, tyT, ktxt⟩, nsT⟩
  refine ⟨PySem.W.fnOf "law" "law" (defArgs sLaw) (defBody sLaw) (defScope sLaw) .none kVZ dcZ pmZ anZ cdZ ctZ, PT, PL, PHF, fun b hb => ?_, fun b hb => ?_, fun b hb => ?_, fun s v => .of_eq rfl, fun base _ _ hsys hB => ?_⟩
  · simp only [List.mem_cons, List.not_mem_nil, or_false] at hb
    rcases hb with rfl | rfl | rfl
    · exact tab_of G X rT (PySem.W.mg_of X G.g aT) lT rfl rfl qT
    · exact tab_of G X rL (PySem.W.mg_of X G.g aL) lL rfl rfl qL
    · exact tab_of G X rHF (PySem.W.mg_of X G.g aHF) lHF rfl rfl qHF
  · simp only [List.mem_cons, List.not_mem_nil, or_false] at hb
    rcases hb with rfl | rfl | rfl
    · exact ⟨_, qT⟩
    · exact ⟨_, qL⟩
    · exact ⟨_, qHF⟩
  · simp only [List.mem_cons, List.not_mem_nil, or_false] at hb
    rcases hb with rfl | rfl | rfl
    · exact Option.isNone_iff_eq_none.mp nT
    · exact Option.isNone_iff_eq_none.mp nL
    · exact Option.isNone_iff_eq_none.mp nHF
  · have XB : K.In base := ‹K.In base›
    have TBT : GxR.TabB base mg cT PT := ⟨PySem.W.codeHd_of_K XB qT, (hB PT (by simp)).1, (hB PT (by simp)).2⟩
    have TBL : GxR.TabB base mg cL PL := ⟨PySem.W.codeHd_of_K XB qL, (hB PL (by simp)).1, (hB PL (by simp)).2⟩
    have TBHF : GxR.TabB base mg cHF PHF := ⟨PySem.W.codeHd_of_K XB qHF, (hB PHF (by simp)).1, (hB PHF (by simp)).2⟩
    have KW : Cal l.prog w K mg base 1 "is_whole" ["thing"] (spOne isWhole) := ⟨fW, _, g aW, kW, bW, ok_whole FW T⟩
    have KR : Cal l.prog w K mg base 1 "is_row" ["thing"] (spOne isRow) := ⟨fR, _, g aR, kR, bR, ok_row FR T⟩
    have KA : Cal l.prog w K mg base 2 "is_patience" ["thing"] (spOne isPatience) := ⟨fA, _, g aA, kA, bA, ok_pat FA T KW⟩
    have KT : Cal l.prog w K mg base 4 "is_turns" ["thing"] (spTab PT PL isTurns) := ⟨fT, _, g aT, kT, bT, ok_turns CT T TBT KR KA⟩
    have KI : Cal l.prog w K mg base 5 "is_piece" ["thing"] (spTab PT PL isPiece) := ⟨fI, _, g aI, kI, bI, ok_piece FI T KW KR KT⟩
    have KP : Cal l.prog w K mg base 7 "is_plan" ["thing"] (spTab PT PL isPlan) := ⟨fL, _, g aL, kL, bL, ok_plan CL T TBL KR KI⟩
    have KCK : Cal l.prog w K mg base 8 "check_plan" ["thing"] (spChk PT PL) := ⟨fCK, _, g aCK, kCK, bCK, ok_chk FCK KP⟩
    have KCX : CalX l.prog w K mg base 8 "check_plan" ["thing"] (spCheck PT PL X1) := ⟨fCK, _, g aCK, kCK, bCK, ok_check FCK XC1 KP⟩
    have KG : CalX l.prog w K mg base 9 "pieces_of" ["plan"] (spPieces PT PL X1) := ⟨fG, _, g aG, kG, bG, ok_pieces FG T KCX⟩
    have KM : Cal l.prog w K mg base 1 "many_in" ["pieces"] (spMany) := ⟨fM, _, g aM, kM, bM, ok_many FM⟩
    have KV : Cal l.prog w K mg base 1 "piece_number" ["pieces", "person"] (spPieceNo) := ⟨fV, _, g aV, kV, bV, ok_pieceNo FV⟩
    have Kta : Cal l.prog w K mg base 2 "turn_at" ["pieces", "person"] (spTurnAt) := ⟨fta, _, g ata, kta, bta, ok_turnAt Fta T KV⟩
    have Kpt : Cal l.prog w K mg base 3 "patience_at" ["pieces", "person"] (spPatAt) := ⟨fpt, _, g apt, kpt, bpt, ok_patAt Fpt Kta⟩
    have KC : CalX l.prog w K mg base 2 "check_person" ["pieces", "person"] (spCkP X2) := ⟨fC, _, g aC, kC, bC, ok_ckp FC XC2 KM KW⟩
    have KN : CalX l.prog w K mg base 2 "check_moment" ["pieces", "moment"] (spCkM X3) := ⟨fN, _, g aN, kN, bN, ok_ckm FN T XC3 KM KW⟩
    have Khm : CalX l.prog w K mg base 10 "how_many" ["plan"] (spHow PT PL X1) := ⟨fhm, _, g ahm, khm, bhm, ok_how Fhm KG (KM.mono (by decide))⟩
    have Kpf : CalX l.prog w K mg base 10 "patience_of" ["plan", "person"] (spPatOf PT PL X1 X2) := ⟨fpf, _, g apf, kpf, bpf, ok_patOf Fpf KG (KC.mono (by decide)) (Kpt.mono (by decide))⟩
    have KLe : Cal l.prog w K mg base 1 "let_past" ["left"] (spLet) := ⟨flp, _, g alp, klp, blp, ok_let Flp T⟩
    have Kln : Cal l.prog w K mg base 4 "line_up" ["pieces", "moment"] (spLine) := ⟨fln, _, g aln, kln, bln, ok_line Fln T N5.range Kpt (KLe.mono (by decide))⟩
    have Klt : CalX l.prog w K mg base 10 "listed_at" ["plan", "moment"] (spListed PT PL X1 X3 X7) := ⟨flt, _, g alt, klt, blt, ok_listed Flt ⟨_, g gMost⟩ XC7 KG (KN.mono (by decide)) (Kln.mono (by decide))⟩
    have Kqu : CalX l.prog w K mg base 11 "queue_at" ["plan", "moment"] (spQueue PT PL X1 X3 X7) := ⟨fqu, _, g aqu, kqu, bqu, ok_queue Fqu Klt⟩
    have KFI : Cal l.prog w K mg base 1 "figures_of" ["number"] (spFig) := ⟨fFI, _, g aFI, kFI, bFI, ok_fig FFI N4⟩
    have KFO : Cal l.prog w K mg base 2 "figures_or" ["number", "none"] (spFor) := ⟨fFO, _, g aFO, kFO, bFO, ok_for FFO KFI⟩
    have KPC : Cal l.prog w K mg base 3 "show_piece" ["turns", "many"] (spPc) := ⟨fPC, _, g aPC, kPC, bPC, ok_pc FPC N4 KFO⟩
    have KSH : Cal l.prog w K mg base 9 "show_plan" ["plan"] (spShow PT PL) := ⟨fSH, _, g aSH, kSH, bSH, ok_show FSH KCK KPC⟩
    have KIN : Cal l.prog w K mg base 1 "is_number" ["word"] (spIsN) := ⟨fIN, _, g aIN, kIN, bIN, ok_isN FIN⟩
    have KNB : Cal l.prog w K mg base 1 "number_by" ["figures"] (spBy) := ⟨fNB, _, g aNB, kNB, bNB, ok_by FNB T N4 N5⟩
    have KIO : Cal l.prog w K mg base 2 "is_number_or" ["word", "none"] (spIsO) := ⟨fIO, _, g aIO, kIO, bIO, ok_isO FIO KIN⟩
    have KNO : Cal l.prog w K mg base 2 "number_or" ["word", "none"] (spNor) := ⟨fNO, _, g aNO, kNO, bNO, ok_nor FNO KNB⟩
    have KHF : Cal l.prog w K mg base 4 "has_form" ["words"] (spForm PHF) := ⟨fHF, _, g aHF, kHF, bHF, ok_form CHF T N4 TBHF KIO⟩
    have KRX : CalX l.prog w K mg base 9 "read_plan" ["text"] (spReadX PT PL PHF cCT X1) := ⟨fRD, _, g aRD, kRD, bRD, ok_readX FRD T N4 N6 KHF KNO KCX NTX aTI tTI (ok_initNT FTI NTX) bTI⟩
    have KBG : Cal l.prog w K mg base 1 "_law_bag" ["script"] (spBag K) := ⟨fBG, _, g aBG, kBG, bBG, ok_bag FBG T.list⟩
    have KSR : Cal l.prog w K mg base 1 "_law_stir" ["number", "place"] (spStir) := ⟨fSR, _, g aSR, kSR, bSR, ok_stir FSR⟩
    have KDR : ∀ r, Cal l.prog w K mg base 2 "_law_draw" ["bag", "many"] (spDraw r) := fun r => ⟨fDR, _, g aDR, kDR, bDR, ok_draw FDR T.len KSR⟩
    have KDE : Cal l.prog w K mg base 2 "_law_draw" ["bag", "many"] (spE spDraw) := ⟨fDR, _, g aDR, kDR, bDR, fnE fun r => ok_draw FDR T.len KSR⟩
    have KPA : ∀ r, Cal l.prog w K mg base 3 "_law_patience" ["bag", "most"] (spPatB r) := fun r => ⟨fPA, _, g aPA, kPA, bPA, ok_patB FPA (KDR r)⟩
    have KPN : Cal l.prog w K mg base 4 "_law_plan" ["bag", "most", "wide"] (spE spPlanB) := ⟨fPN, _, g aPN, kPN, bPN, fnE fun r => ok_planB FPN N5 (KDR r) (KPA r)⟩
    have KLR : Cal l.prog w K mg base 10 "_law_read" ["text"] (spLRd PT PL PHF) := ⟨fLR, _, g aLR, kLR, bLR, ok_lrd FLR (g gE) e1 e2 KRX⟩
    have KBN : Cal l.prog w K mg base 3 "_law_bent" ["bag", "text"] (spE spBent) := ⟨fBN, _, g aBN, kBN, bBN, fnE fun r => ok_bent FBN T (KDR r)⟩
    have KSM : Cal l.prog w K mg base 12 "_law_same" ["bag", "plan", "other"] (spE (spSame PT PL)) := ⟨fSM, _, g aSM, kSM, bSM, fnE fun r => ok_same FSM T N5 (KDR r) Khm Kpf Kqu⟩
    exact (let GL := ok_law FZ T N5 hsys KBG KPN KDE KBN KLR KSM KP KSH KRX; ⟨fun A outer s H args us vs Q E _ hr he hb hv hs => GL.run A outer s H args us vs Q E hr he hb hv hs⟩)
end CL
open PySem PySem.W PyProof.Rows
set_option maxRecDepth 100000 in
set_option maxHeartbeats 0 in
theorem PySem.Challenge.cw_comersline_k48_whole_one_writing_holds : PySem.Challenge.rw_comersline_k48_whole_one_writing.Holds := by
  w_on; o_law; k_head; (case hw => w_witness2)
  k_fill
  refine CL.walk (l := PySem.Challenge.rw_comersline_k48_whole_one_writing) rfl rfl (by decide +kernel) (fun w h Y => PySem.W.kIn_of Y) ?F
  case F =>
    intro w mg mb mean lo fa h KX G hmg
    refine' CL.all_mk KX G hmg ?aTI ?lTI ?TIc ?kTI ?iTI ?aW ?lW ?Wc ?kW ?aR ?lR ?Rc ?kR ?aA ?lA ?Ac ?kA ?aT ?lT ?Tc ?kT ?aI ?lI ?Ic ?kI ?aL ?lL ?Lc ?kL ?aCK ?lCK ?CKc ?kCK ?aG ?lG ?Gc ?kG ?aM ?lM ?Mc ?kM ?aV ?lV ?Vc ?kV ?ata ?lta ?tac ?kta ?apt ?lpt ?ptc ?kpt ?aC ?lC ?Cc ?kC ?aN ?lN ?Nc ?kN ?ahm ?lhm ?hmc ?khm ?apf ?lpf ?pfc ?kpf ?alp ?llp ?lpc ?klp ?aln ?lln ?lnc ?kln ?alt ?llt ?ltc ?klt ?aqu ?lqu ?quc ?kqu ?aFI ?lFI ?FIc ?kFI ?aFO ?lFO ?FOc ?kFO ?aPC ?lPC ?PCc ?kPC ?aSH ?lSH ?SHc ?kSH ?aIN ?lIN ?INc ?kIN ?aNB ?lNB ?NBc ?kNB ?aIO ?lIO ?IOc ?kIO ?aNO ?lNO ?NOc ?kNO ?aHF ?lHF ?HFc ?kHF ?aRD ?lRD ?RDc ?kRD ?aBG ?lBG ?BGc ?kBG ?aSR ?lSR ?SRc ?kSR ?aDR ?lDR ?DRc ?kDR ?aPA ?lPA ?PAc ?kPA ?aPN ?lPN ?PNc ?kPN ?aLR ?lLR ?LRc ?kLR ?aBN ?lBN ?BNc ?kBN ?aSM ?lSM ?SMc ?kSM ?aZ ?lZ ?Zc ?kZ ?z_isinstance ?z_len ?z_all ?z_any ?z_sum ?z_int ?z_bool ?z_list ?z_tuple ?z_str ?z_divmod ?z_reversed ?z_range ?z_min ?z_repr ?z_enumerate ?mT ?pT ?qT ?nT ?rT ?mL ?pL ?qL ?nL ?rL ?mHF ?pHF ?qHF ?nHF ?rHF ?aCLS ?gE ?xg1 ?xx1 ?xk1 ?xb1 ?xt1 ?xg2 ?xx2 ?xk2 ?xb2 ?xt2 ?xg3 ?xx3 ?xk3 ?xb3 ?xt3 ?xg7 ?xx7 ?xk7 ?xb7 ?xt7 ?e1 ?e2 ?rdE ?sgE ?iniE ?oxl ?oxr ?saT ?exT ?tyT ?ktxt ?nsT ?tTI ?gM ?gLo ?gPL ?gPW ?gNV ?gEV ?gMost
    (case aCLS => k_is)
    (case gE => k_is)
    (case xg1 => k_is)
    (case xg2 => k_is)
    (case xg3 => k_is)
    (case xg7 => k_is)
    (case aTI => k_is)
    (case lTI => k_is)
    (case TIc => k_is)
    (case kTI => k_is)
    (case iTI => k_is)
    (case aW => k_is)
    (case lW => k_is)
    (case Wc => k_is)
    (case kW => k_is)
    (case aR => k_is)
    (case lR => k_is)
    (case Rc => k_is)
    (case kR => k_is)
    (case aA => k_is)
    (case lA => k_is)
    (case Ac => k_is)
    (case kA => k_is)
    (case aT => k_is)
    (case lT => k_is)
    (case Tc => k_is)
    (case kT => k_is)
    (case aI => k_is)
    (case lI => k_is)
    (case Ic => k_is)
    (case kI => k_is)
    (case aL => k_is)
    (case lL => k_is)
    (case Lc => k_is)
    (case kL => k_is)
    (case aCK => k_is)
    (case lCK => k_is)
    (case CKc => k_is)
    (case kCK => k_is)
    (case aG => k_is)
    (case lG => k_is)
    (case Gc => k_is)
    (case kG => k_is)
    (case aM => k_is)
    (case lM => k_is)
    (case Mc => k_is)
    (case kM => k_is)
    (case aV => k_is)
    (case lV => k_is)
    (case Vc => k_is)
    (case kV => k_is)
    (case ata => k_is)
    (case lta => k_is)
    (case tac => k_is)
    (case kta => k_is)
    (case apt => k_is)
    (case lpt => k_is)
    (case ptc => k_is)
    (case kpt => k_is)
    (case aC => k_is)
    (case lC => k_is)
    (case Cc => k_is)
    (case kC => k_is)
    (case aN => k_is)
    (case lN => k_is)
    (case Nc => k_is)
    (case kN => k_is)
    (case ahm => k_is)
    (case lhm => k_is)
    (case hmc => k_is)
    (case khm => k_is)
    (case apf => k_is)
    (case lpf => k_is)
    (case pfc => k_is)
    (case kpf => k_is)
    (case alp => k_is)
    (case llp => k_is)
    (case lpc => k_is)
    (case klp => k_is)
    (case aln => k_is)
    (case lln => k_is)
    (case lnc => k_is)
    (case kln => k_is)
    (case alt => k_is)
    (case llt => k_is)
    (case ltc => k_is)
    (case klt => k_is)
    (case aqu => k_is)
    (case lqu => k_is)
    (case quc => k_is)
    (case kqu => k_is)
    (case aFI => k_is)
    (case lFI => k_is)
    (case FIc => k_is)
    (case kFI => k_is)
    (case aFO => k_is)
    (case lFO => k_is)
    (case FOc => k_is)
    (case kFO => k_is)
    (case aPC => k_is)
    (case lPC => k_is)
    (case PCc => k_is)
    (case kPC => k_is)
    (case aSH => k_is)
    (case lSH => k_is)
    (case SHc => k_is)
    (case kSH => k_is)
    (case aIN => k_is)
    (case lIN => k_is)
    (case INc => k_is)
    (case kIN => k_is)
    (case aNB => k_is)
    (case lNB => k_is)
    (case NBc => k_is)
    (case kNB => k_is)
    (case aIO => k_is)
    (case lIO => k_is)
    (case IOc => k_is)
    (case kIO => k_is)
    (case aNO => k_is)
    (case lNO => k_is)
    (case NOc => k_is)
    (case kNO => k_is)
    (case aHF => k_is)
    (case lHF => k_is)
    (case HFc => k_is)
    (case kHF => k_is)
    (case aRD => k_is)
    (case lRD => k_is)
    (case RDc => k_is)
    (case kRD => k_is)
    (case aBG => k_is)
    (case lBG => k_is)
    (case BGc => k_is)
    (case kBG => k_is)
    (case aSR => k_is)
    (case lSR => k_is)
    (case SRc => k_is)
    (case kSR => k_is)
    (case aDR => k_is)
    (case lDR => k_is)
    (case DRc => k_is)
    (case kDR => k_is)
    (case aPA => k_is)
    (case lPA => k_is)
    (case PAc => k_is)
    (case kPA => k_is)
    (case aPN => k_is)
    (case lPN => k_is)
    (case PNc => k_is)
    (case kPN => k_is)
    (case aLR => k_is)
    (case lLR => k_is)
    (case LRc => k_is)
    (case kLR => k_is)
    (case aBN => k_is)
    (case lBN => k_is)
    (case BNc => k_is)
    (case kBN => k_is)
    (case aSM => k_is)
    (case lSM => k_is)
    (case SMc => k_is)
    (case kSM => k_is)
    (case aZ => k_is)
    (case lZ => k_is)
    (case Zc => k_is)
    (case kZ => k_is)
    (case z_isinstance => k_is)
    (case z_len => k_is)
    (case z_all => k_is)
    (case z_any => k_is)
    (case z_sum => k_is)
    (case z_int => k_is)
    (case z_bool => k_is)
    (case z_list => k_is)
    (case z_tuple => k_is)
    (case z_str => k_is)
    (case z_divmod => k_is)
    (case z_reversed => k_is)
    (case z_range => k_is)
    (case z_min => k_is)
    (case z_repr => k_is)
    (case z_enumerate => k_is)
    (case mT => k_is)
    (case pT => rfl)
    (case qT => kernel_rfl)
    (case nT => kernel_rfl)
    (case rT => kernel_rfl)
    (case mL => k_is)
    (case pL => rfl)
    (case qL => kernel_rfl)
    (case nL => kernel_rfl)
    (case rL => kernel_rfl)
    (case mHF => k_is)
    (case pHF => rfl)
    (case qHF => kernel_rfl)
    (case nHF => kernel_rfl)
    (case rHF => kernel_rfl)
    (case xx1 => k_exc)
    (case xk1 => k_is)
    (case xb1 => k_is)
    (case xt1 => k_is)
    (case xx2 => k_exc)
    (case xk2 => k_is)
    (case xb2 => k_is)
    (case xt2 => k_is)
    (case xx3 => k_exc)
    (case xk3 => k_is)
    (case xb3 => k_is)
    (case xt3 => k_is)
    (case xx7 => k_exc)
    (case xk7 => k_is)
    (case xb7 => k_is)
    (case xt7 => k_is)
    (case e1 => kernel_rfl)
    (case e2 => kernel_rfl)
    (case rdE => first | k_is | kernel_rfl)
    (case sgE => first | k_is | kernel_rfl)
    (case iniE => first | k_is | kernel_rfl)
    (case oxl => k_is)
    (case oxr => first | rfl | decide +kernel)
    (case saT => k_is)
    (case exT => k_is)
    (case tyT => k_is)
    (case ktxt => k_is)
    (case nsT => k_is)
    (case tTI => first | k_is | kernel_rfl)
    (case gM => k_is)
    (case gLo => k_is)
    (case gPL => k_is)
    (case gPW => k_is)
    (case gNV => k_is)
    (case gEV => k_is)
    (case gMost => k_is)
