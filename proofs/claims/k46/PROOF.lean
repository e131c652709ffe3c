import PyProof.Rows.All
import Wide.All
import OpenK.AllK
import Wide.FinOn
import HandS.ForMost
import HandS.ForExc
import HandS.AnyAll
import HandS.GenBody
import HandS.IsInst
import HandS.TupAny
import HandS.Wide
import HandS.Codes
import HandS.HotCalls
import HandS.ExcIs
import HandS.ExcValue
import HandS.ExcCtx
import KE.KExcIs
import HandS.ExcField
import HandS.Rev
import HandS.RevTup
import HandS.MapJoin
import HandS.Star
import HandS.StrMore
import HandS.Text
import HandS.WideBits
import HandS.Walk
import HandS.ExcInit
import HandS.ExcOwn
import HandS.Words
import KE.KIntText
import PyProof.Rows.Digits
import KE.IntTextLaws
import PyProof.Rows.StrCut
import HandS.Replace
import HandS.EndTab
import HandS.NestedK
import PySem.Challenge.RW_comersline_k46_texts_of_no_plan
set_option Elab.async false
set_option linter.all false
set_option maxRecDepth 100000
set_option maxHeartbeats 1000000
namespace GE
open PySem PySem.Spec PyProof.Rows L2 GenW
open Sem (wp)

/-- what a consumer holds between two turns of a generator -/
structure Con (α : Type) where
  fp : List Addr
  at_ : α → Heap → Prop
structure ConOk {α : Type} (C : Con α) : Prop where
  obj : ∀ a h, C.at_ a h → ∀ b ∈ C.fp, ∃ o, h.get? b = some o ∧ ∀ v, o.data ≠ .cell v
  keep : ∀ a h h', C.at_ a h → (∀ b ∈ C.fp, ∀ o, h.get? b = some o → h'.get? b = some o) → C.at_ a h'
  inj : ∀ a b h, C.at_ a h → C.at_ b h → a = b
def conU : Con Unit := ⟨[], fun _ _ => True⟩
theorem conU_ok : ConOk conU := ⟨(fun _ _ _ b hb => nomatch hb), (fun _ _ _ _ _ => trivial), (fun _ _ _ _ _ => rfl)⟩

abbrev nones (n : Nat) : L2.St := List.replicate n none
theorem nones_some {n i : Nat} {v : V} (h : (nones n)[i]? = some (some v)) : False := by
  rw [List.getElem?_replicate] at h
  split at h <;> cases h

section
variable {α : Type}
def GI (Y : Cx) (C : Con α) (fpI : List Addr) (tn : Nat → Heap → Prop) (a : α) (i : Nat) (H : Hp) (s : Shared) : Prop :=
  Inv Y (pinsAt C.fp s.heap) (nones Y.N.length) H s ∧ C.at_ a s.heap ∧ tn i s.heap ∧ ∀ b ∈ fpI, H b = none
def GP (Y : Cx) (C : Con α) (fpI : List Addr) (tn : Nat → Heap → Prop) (Out : α → V → Hp → (α → Hp → Prop) → Prop) : Protocol := fun _ s₀ v s kap =>
  ∃ a i H y Nx, RelV y v ∧ GI Y C fpI tn a i H s ∧ Out a y H Nx ∧ (∀ b ∈ C.fp, ∀ o, s₀.heap.get? b = some o → s.heap.get? b = some o) ∧ ∀ a' s'', GI Y C fpI tn a' i H s'' → Nx a' H → kap (.send .none) s''
def GF (Y : Cx) (C : Con α) (Fin : α → Hp → Prop) : Nat → Shared → Shared → Prop := fun _ s₀ s₁ =>
  ∃ a H, Inv Y (pinsAt C.fp s₁.heap) (nones Y.N.length) H s₁ ∧ C.at_ a s₁.heap ∧ (∀ b ∈ C.fp, ∀ o, s₀.heap.get? b = some o → s₁.heap.get? b = some o) ∧ Fin a H
abbrev GRr (Y : Cx) (C : Con α) (Fin : α → Hp → Prop) : GenEnd := fun n s₀ r s₁ => r = .ok .next ∧ GF Y C Fin n s₀ s₁
def TurnOf (J : It) (n0 : Nat) (g : TG) (tt : TT) (te : TE) (Out : α → V → Hp → (α → Hp → Prop) → Prop) (Fin : α → Hp → Prop) (W : α → Nat → Nat → Hp → Prop) : Prop :=
  ∀ a i m H, W a i m H → (J.stop i H ∧ Fin a H) ∨ (J.go i H ∧ ∃ Nx : α → Hp → Prop, (∀ a' H', Nx a' H' → ∃ m', m' < m ∧ W a' (i + 1) m' H') ∧
    ∀ x H', J.yld i H x H' → g x (nones n0) H' fun σ2 H2 => tt σ2 H2 fun b H3 => if b = true then te σ2 H3 fun y H4 => Out a y H4 Nx else Nx a H3)

def GoOn (M : Model) (A : Around) (R : GenEnd) (P : Protocol) (gi : α → Shared → Prop) (nx : α → Prop) (gs1 : GenState) : Nat → Prop
  | 0 => ∀ a' s'', gi a' s'' → nx a' → False
  | n1 + 1 => ∀ a' s'', gi a' s'' → nx a' → gs1.Goes M A R P n1 (.send .none) s''
theorem over_loopG {A : Around} {elt tg iter : Expr} {ifs : List Expr} {scope : Scope} {pos : Pos} {it acc : Value} {env : Env} :
    A.over (.compLoop (.GeneratorExp elt [⟨tg, iter, ifs, 0⟩] scope pos) 0 it acc env) [] = A.deeper env := by
  first
    | rfl
    | (obtain ⟨hd, d, fr, gs, u⟩ := A; simp [Around.over, Around.deeper, marksOver, frameCount, unitsOf, envsOf, guardsOf, pushEnvs, pushGuards, Code.envs, Code.env?, Code.isFrame, Code.guards, Code.isGuard, Code.weight, Code.frames, Code.isCreation, Code.isCaller, Code.cUnits])
theorem over_startG {A : Around} {elt tg iter : Expr} {ifs : List Expr} {scope : Scope} {pos : Pos} {it acc : Value} {env : Env} :
    A.over (.compStart (.GeneratorExp elt [⟨tg, iter, ifs, 0⟩] scope pos) 0 it acc env) [] = A.deeper env := by
  first
    | rfl
    | (obtain ⟨hd, d, fr, gs, u⟩ := A; simp [Around.over, Around.deeper, marksOver, frameCount, unitsOf, envsOf, guardsOf, pushEnvs, pushGuards, Code.envs, Code.env?, Code.isFrame, Code.guards, Code.isGuard, Code.weight, Code.frames, Code.isCreation, Code.isCaller, Code.cUnits])

theorem Inv.gensG {X : Cx} {pins : List (Addr × Obj)} {σ : L2.St} {H : Hp} {s : Shared} (I : Inv X pins σ H s) {G : Array GenState} (h : AllBare G) : Inv X pins σ H { s with gens := G } :=
  ⟨I.ok, I.os, h, I.base, I.loc, I.cell, I.free, I.freeC, I.pin, I.hok, I.len⟩
theorem bare_setGen {s : Shared} {g : Nat} {x : GenState} (h : AllBare s.gens) (hx : x.bare = true) : AllBare (s.setGen g x).gens := by
  intro y hy
  show y.bare = true
  have hy : y ∈ s.gens.setIfInBounds g x := hy
  rcases Array.mem_or_eq_of_mem_setIfInBounds hy with h1 | h1
  · exact h y h1
  · rw [h1]; exact hx

section
variable {Y : Cx} {C : Con α} {tg elt iter : Expr} {ifs : List Expr} {scope : Scope} {pos : Pos} {J : It} {fpI : List Addr} {it : Addr} {tn : Nat → Heap → Prop} {g : TG} {tt : TT} {te : TE}
  {Out : α → V → Hp → (α → Hp → Prop) → Prop} {Fin : α → Hp → Prop} {W : α → Nat → Nat → Hp → Prop} {A : Around}
/-- the loop of a generator expression -/
theorem seg_loop (CO : ConOk C) (hcalm : Y.calm = true) (T : Turn Y.prog Y.w Y.K tg J fpI it tn) (hg : PG Y tg g) (ht : PTs Y ifs tt) (he : PE Y elt te) (hA : A.deeper Y.env = Y.A)
    (hex : ∀ b ∈ fpI, b ∈ Y.ex) (hdis : ∀ b ∈ C.fp, b ∉ fpI) (hpn : ∀ p ∈ Y.pn, p.1 ∉ fpI) (hxe : Y.xe = fun _ _ => False) (hco : Y.env.scope.isCoroutine = false) (turn : TurnOf J Y.N.length g tt te Out Fin W) :
    ∀ (m : Nat) (a : α) (i n : Nat) (H : Hp) (s₀ s : Shared), m < n → W a i m H → GI Y C fpI tn a i H s → (∀ b ∈ C.fp, ∀ o, s₀.heap.get? b = some o → s.heap.get? b = some o) →
      Seg (model Y.prog Y.w) A (GRr Y C Fin) (GP Y C fpI tn Out) n s₀ (.compLoop (.GeneratorExp elt [⟨tg, iter, ifs, 0⟩] scope pos) 0 (.ref it) .none Y.env)
        ((model Y.prog Y.w).den (.compLoop (.GeneratorExp elt [⟨tg, iter, ifs, 0⟩] scope pos) 0 (.ref it) .none Y.env)) [] s := by
  have ov : A.over (.compLoop (.GeneratorExp elt [⟨tg, iter, ifs, 0⟩] scope pos) 0 (.ref it) .none Y.env) [] = Y.A := over_loopG.trans hA
  have stat : ∀ {pins : List (Addr × Obj)} {σ' : L2.St} {H' : Hp} {s' : Shared}, Inv Y pins σ' H' s' → (∀ p ∈ pins, p.1 ∉ fpI) → (∀ b ∈ fpI, H' b = none) → ∀ b ∈ fpI, FpOk Y pins H' b := fun {pins σ' H' s'} I' hp hn b hb =>
    ⟨hn b hb, (I'.ok.exf b (hex b hb)).1, I'.ok.exfs b (hex b hb), .inl (hex b hb), fun x c e => (I'.ok.exf b (hex b hb)).2 x c e, fun p hp' z => (List.mem_append.mp hp').elim (fun q => hpn p q (z ▸ hb)) fun q => hp p q (z ▸ hb)⟩
  have pinN : ∀ h : Heap, ∀ p ∈ pinsAt C.fp h, p.1 ∉ fpI := fun h p hp => hdis p.1 (of_pinsAt hp).1
  intro m
  induction m using Nat.strongRecOn with
  | ind m ih =>
    intro a i n H s₀ s hmn hw hGI since
    obtain ⟨I, hat, st, hn0⟩ := hGI
    show Seg _ A _ _ n s₀ _ ((compTurn (.GeneratorExp elt [⟨tg, iter, ifs, 0⟩] scope pos) 0 (.ref it) .none Y.env).onRaise (leaving Y.env)) [] s
    rw [compTurn_gen, Sem.onRaise_eq_wrap]
    refine seg_bind_wrap (wpAny_standAt ?_)
    have sf := stat I (pinN s.heap) hn0
    rcases turn a i m H hw with ⟨stop, fin⟩ | ⟨go, Nx, hNx, step⟩
    · refine seg_bind_wrap ?_
      rw [ov]
      refine thnF (T.done Y rfl rfl rfl hcalm i _ s _ H (fun _ _ => False) I sf st stop) fun r s1 ⟨hr, I1⟩ => ?_
      subst hr
      have hk : ∀ b ∈ C.fp, ∀ o, s.heap.get? b = some o → s1.heap.get? b = some o := fun b hb o e => (I1.pin (b, o) (List.mem_append_right _ (mem_pinsAt hb e))).1
      refine seg_end (.ok .next) ⟨rfl, a, H, I1.pins_of fun p hp => ?_, CO.keep _ _ _ hat hk, fun b hb o e => hk b hb o (since b hb o e), fin⟩
      obtain ⟨hb, e⟩ := of_pinsAt hp
      obtain ⟨o, e2, _⟩ := CO.obj _ _ hat p.1 hb
      have e3 := hk p.1 hb o e2
      rw [e] at e3
      cases e3
      exact I1.pin (p.1, p.2) (List.mem_append_right _ (mem_pinsAt hb e2))
    · refine seg_bind_wrap ?_
      rw [ov]
      refine thnF (T.item Y rfl rfl rfl hcalm i _ s _ H (fun _ _ => False) I sf st go) fun r s1 ⟨u, hr, h1⟩ => ?_
      subst hr
      refine seg_bind_wrap ?_
      rw [ov]
      refine thnF h1 fun _ s2 ⟨x, H2, I2, r2, y2, st2, n2⟩ => ?_
      have I2' := I2.pinned (stat I2 (pinN s.heap) n2) (T.obj _ _ st2)
      refine seg_bind_wrap ?_
      rw [ov]
      have xf : ∀ {β : Type} {t : Sem β} {P P' : β → Shared → Prop} {E' : Value → Shared → Prop} {z : Shared}, wpAny (model Y.prog Y.w) Y.A t P Y.xe z → (∀ a s, P a s → P' a s) → wpAny (model Y.prog Y.w) Y.A t P' E' z := fun {β t P P' E' z} q hq => by
        rw [hxe] at q
        exact thnF q hq
      refine xf (hg.run _ s2 _ H2 x u _ I2' r2 (step x H2 y2)) fun _ s3 ⟨σ3, H3, I3, q3⟩ => ?_
      refine seg_bind_wrap ?_
      rw [ov]
      refine xf (ht.run _ s3 σ3 H3 _ I3 q3) fun ok s4 ⟨H4, I4, q4⟩ => ?_
      -- what stands at a turn's end
      have fin : ∀ {s' : Shared} {H' : Hp} {σ' : L2.St}, Inv Y (pinsAt C.fp s.heap ++ pinsAt fpI s2.heap) σ' H' s' →
          GI Y C fpI tn a (i + 1) H' s' ∧ ∀ b ∈ C.fp, ∀ o, s₀.heap.get? b = some o → s'.heap.get? b = some o := fun {s' H' σ'} I' => by
        have hk : ∀ b ∈ C.fp, ∀ o, s.heap.get? b = some o → s'.heap.get? b = some o := fun b hb o e => (I'.pin (b, o) (List.mem_append_right _ (List.mem_append_left _ (mem_pinsAt hb e)))).1
        have pin' : ∀ b ∈ fpI, ∀ o, s2.heap.get? b = some o → s'.heap.get? b = some o ∧ H' b = none := fun b hb o e =>
          let z := I'.pin (b, o) (List.mem_append_right _ (List.mem_append_right _ (mem_pinsAt hb e)))
          ⟨z.1, z.2.1⟩
        have I1 : Inv Y (pinsAt C.fp s'.heap) σ' H' s' := I'.pins_of fun p hp => by
          obtain ⟨hb, e⟩ := of_pinsAt hp
          obtain ⟨o, e2, _⟩ := CO.obj _ _ hat p.1 hb
          have e3 := hk p.1 hb o e2
          rw [e] at e3
          cases e3
          exact I'.pin (p.1, p.2) (List.mem_append_right _ (List.mem_append_left _ (mem_pinsAt hb e2)))
        refine ⟨⟨I1.weak (by rw [I1.len, List.length_replicate]) fun j v e => (nones_some e).elim, CO.keep _ _ _ hat hk, T.keep _ _ _ st2 fun b hb o e => (pin' b hb o e).1, fun b hb => ?_⟩, fun b hb o e => hk b hb o (since b hb o e)⟩
        obtain ⟨o, e, _⟩ := T.obj _ _ st2 b hb
        exact (pin' b hb o e).2
      cases ok with
      | false =>
        simp only [Bool.false_eq_true, if_false] at q4 ⊢
        obtain ⟨f1, f2⟩ := fin I4
        obtain ⟨m', hm', w'⟩ := hNx a H4 q4
        exact seg_again rfl (ih m' hm' a (i + 1) n H4 s₀ s4 (by omega) w' f1 f2)
      | true =>
        simp only [if_true] at q4 ⊢
        obtain ⟨n', rfl⟩ : ∃ n', n = n' + 1 := ⟨n - 1, by omega⟩
        have hy : ∀ v, yieldOut Y.env v = yieldValue v := fun v => by simp only [yieldOut, hco, Bool.false_eq_true, if_false]
        simp only [hy]
        rw [Sem.bind_eq_wrap', Sem.bind_eq_wrap', Sem.wrap_wrap, Sem.wrap_wrap]
        refine seg_wrap ?_
        rw [ov]
        refine xf (he.run _ s4 σ3 H4 _ I4 q4) fun y s5 ⟨yv, H5, I5, r5, o5⟩ => ?_
        obtain ⟨f1, f2⟩ := fin I5
        refine seg_at (seg_yield rfl rfl rfl ⟨a, i + 1, H5, yv, Nx, r5, f1, o5, f2, fun a' s'' hGI' hN' => ?_⟩)
        obtain ⟨m', hm', w'⟩ := hNx a' H5 hN'
        exact seg_again rfl (ih m' hm' a' (i + 1) n' H5 s'' s'' (by omega) w' hGI' fun _ _ _ e => e)

/-- .. and its start -/
theorem seg_start (CO : ConOk C) (hcalm : Y.calm = true) (T : Turn Y.prog Y.w Y.K tg J fpI it tn) (hg : PG Y tg g) (ht : PTs Y ifs tt) (he : PE Y elt te) (hA : A.deeper Y.env = Y.A)
    (hex : ∀ b ∈ fpI, b ∈ Y.ex) (hdis : ∀ b ∈ C.fp, b ∉ fpI) (hpn : ∀ p ∈ Y.pn, p.1 ∉ fpI) (hxe : Y.xe = fun _ _ => False) (hco : Y.env.scope.isCoroutine = false) (turn : TurnOf J Y.N.length g tt te Out Fin W)
    (m : Nat) (a : α) (n : Nat) (H : Hp) (s : Shared) (hm : m < n) (hw : W a 0 m H) (hGI : GI Y C fpI tn a 0 H s) :
      Seg (model Y.prog Y.w) A (GRr Y C Fin) (GP Y C fpI tn Out) n s (.compStart (.GeneratorExp elt [⟨tg, iter, ifs, 0⟩] scope pos) 0 (.ref it) .none Y.env)
        ((model Y.prog Y.w).den (.compStart (.GeneratorExp elt [⟨tg, iter, ifs, 0⟩] scope pos) 0 (.ref it) .none Y.env)) [] s := by
  have loop := seg_loop (iter := iter) (scope := scope) (pos := pos) CO hcalm T hg ht he hA hex hdis hpn hxe hco turn m a 0 n H s s hm hw hGI fun _ _ _ e => e
  show Seg _ A _ _ _ s _ ((compStart (.GeneratorExp elt [⟨tg, iter, ifs, 0⟩] scope pos) 0 (.ref it) .none Y.env).onRaise (leaving Y.env)) [] s
  unfold compStart
  rw [Sem.onRaise_eq_wrap]
  show Seg _ A _ _ _ s _ ((ask >>= _).wrap _ _ _ _) [] s
  refine seg_bind_wrap (wpAny_askSetting ?_)
  split
  · exact seg_again rfl loop
  · first
      | exact seg_bind_wrap (wpAny_rule (seg_bind_wrap (wpAny_standAt (seg_bind_wrap (T.self _ 0 s _ _ hGI.2.2.1 (seg_again rfl loop))))))
      | (refine seg_bind_wrap (wpAny_rule ?_); show Seg _ A _ _ _ s _ ((standAt iter.pos >>= _).wrap _ _ _ _) [] s; exact seg_bind_wrap (wpAny_standAt (seg_bind_wrap (T.self _ 0 s _ _ hGI.2.2.1 (seg_again rfl loop)))))

theorem repin {a : α} {h : Heap} {σ : L2.St} {H : Hp} {s' : Shared} (CO : ConOk C) (hat : C.at_ a h) (I : Inv Y (pinsAt C.fp h) σ H s') (hk : ∀ b ∈ C.fp, ∀ o, h.get? b = some o → s'.heap.get? b = some o) :
    Inv Y (pinsAt C.fp s'.heap) σ H s' := I.pins_of fun p hp => by
  obtain ⟨hb, e⟩ := of_pinsAt hp
  obtain ⟨o, e2, _⟩ := CO.obj _ _ hat p.1 hb
  have e3 := hk p.1 hb o e2
  rw [e] at e3
  cases e3
  exact I.pin (p.1, p.2) (List.mem_append_right _ (mem_pinsAt hb e2))

/-- one item of such a generator -/
theorem next_ge {A : Around} {ga : Addr} {go : Obj} {g i n : Nat} {gs : GenState} {a : α} {H : Hp} {Nx : α → Hp → Prop} {s : Shared} {Q : Option Value → Shared → Prop} {E : Value → Shared → Prop}
    (CO : ConOk C) (hh : A.handled = none) (hd : A.depth < recursionLimit) (hpn : (ga, go) ∈ Y.pn) (hgo : ∀ h : Heap, h.get? ga = some go → h.IsGen ga g) (hgs : s.gens[g]? = some gs)
    (gi : GI Y C fpI tn a i H s) (hN : Nx a H)
    (goes : ∀ a' s'', GI Y C fpI tn a' i H s'' → Nx a' H → gs.Goes (model Y.prog Y.w) A.in1 (GRr Y C Fin) (GP Y C fpI tn Out) n (.send .none) s'')
    (hsome : ∀ i1 H1 y v Nx1 s1 gs1, RelV y v → GI Y C fpI tn a i1 H1 s1 → Out a y H1 Nx1 → s1.gens[g]? = some gs1 →
      GoOn (model Y.prog Y.w) A.in1 (GRr Y C Fin) (GP Y C fpI tn Out) (fun a' s'' => GI Y C fpI tn a' i1 H1 s'') (fun a' => Nx1 a' H1) gs1 n → Q (some v) s1)
    (hnone : ∀ H1 s1, Inv Y (pinsAt C.fp s1.heap) (nones Y.N.length) H1 s1 → C.at_ a s1.heap → Fin a H1 → Q none s1) :
    wpAny (model Y.prog Y.w) A (pyNext (.ref ga)) Q E s := by
  obtain ⟨I, hat, st, hn0⟩ := id gi
  have hlt : g < s.gens.size := by
    rcases Nat.lt_or_ge g s.gens.size with h' | h'
    · exact h'
    · rw [Array.getElem?_eq_none h'] at hgs; cases hgs
  refine wpAny_gsz (n := g + 1) hlt ?_
  have gi' : GI Y C fpI tn a i H (s.setGen g .running) := ⟨Inv.gensG I (bare_setGen I.bare rfl), hat, st, hn0⟩
  have hig : s.heap.IsGen ga g := hgo _ (I.pin (ga, go) (List.mem_append_left _ hpn)).1
  refine wpAny_pyNext_genexpQ (P := GF Y C Fin) (Y := GP Y C fpI tn Out) hh I.nolimit hd hig hgs (goes a _ gi' hN) (fun v s1 gs1 hb hv => ?_) (fun s1 hp h' hk => ?_)
  · obtain ⟨a1, i1, H1, y, Nx1, rv, gi1, o1, since, kap⟩ := hv
    have hat1 : C.at_ a s1.heap := CO.keep _ _ _ hat since
    have ea : a1 = a := CO.inj _ _ _ gi1.2.1 hat1
    subst ea
    intro hsz
    have hlt1 : g < s1.gens.size := by
      rw [setGen_size] at hsz
      exact hsz
    have gi2 : GI Y C fpI tn a1 i1 H1 (s1.setGen g gs1) := ⟨Inv.gensG gi1.1 (bare_setGen gi1.1.bare hb), gi1.2.1, gi1.2.2.1, gi1.2.2.2⟩
    refine hsome i1 H1 y v Nx1 _ gs1 rv gi2 o1 (by simp [Shared.setGen, hlt1]) ?_
    cases n with
    | zero => exact fun a' s'' q1 q2 => kap a' s'' q1 q2
    | succ n1 => exact fun a' s'' q1 q2 => kap a' s'' q1 q2
  · obtain ⟨a1, H1, I1, hat1, since, fin⟩ := hp
    have ea : a1 = a := CO.inj _ _ _ hat1 (CO.keep _ _ _ hat since)
    subst ea
    intro _
    have I2 : Inv Y (pinsAt C.fp s1.heap) (nones Y.N.length) H1 { s1.setGen g .finished with heap := h' } := (Inv.gensG I1 (bare_setGen (x := .finished) (g := g) I1.bare rfl)).kept (t' := s1.toks) hk
    exact hnone H1 _ (repin CO hat1 I2 fun b _ o e => hk b o e) (CO.keep _ _ _ hat1 fun b _ o e => hk b o e) fin
end
end

section
variable {Y : Cx} {fpI : List Addr} {tn : Nat → Heap → Prop}
def outAll (QB : Bool → Hp → Prop) : Unit → V → Hp → (Unit → Hp → Prop) → Prop := fun _ y H Nx => ∃ c, y = .bl c ∧ if c = true then Nx () H else QB false H
def outAny (QB : Bool → Hp → Prop) : Unit → V → Hp → (Unit → Hp → Prop) → Prop := fun _ y H Nx => ∃ c, y = .bl c ∧ if c = true then QB true H else Nx () H
theorem all_loop {A : Around} {ga : Addr} {go : Obj} {g : Nat} {QB : Bool → Hp → Prop} {R : Result → Shared → Prop} (hh : A.handled = none) (hd : A.depth < recursionLimit) (hpn : (ga, go) ∈ Y.pn) (hgo : ∀ h : Heap, h.get? ga = some go → h.IsGen ga g)
    (hR : ∀ b s' H', Inv Y [] (nones Y.N.length) H' s' → QB b H' → R (.ok (.ret (.bool b))) s') :
    ∀ (n i : Nat) (H : Hp) (Nx : Unit → Hp → Prop) (s : Shared) (gs : GenState), s.gens[g]? = some gs → GI Y conU fpI tn () i H s → Nx () H →
      (∀ a' s'', GI Y conU fpI tn a' i H s'' → Nx a' H → gs.Goes (model Y.prog Y.w) A.in1.in1 (GRr Y conU fun _ H => QB true H) (GP Y conU fpI tn (outAll QB)) n (.send .none) s'') →
      codeAny (model Y.prog Y.w) A (.builtin "all.loop" ⟨[.ref ga], []⟩) R s := by
  intro n
  induction n with
  | zero =>
    intro i H Nx s gs hgs gi hN goes
    refine codeAny_builtin F.entry_all_loop ?_
    rw [Around.under_plainId F.plain_all_loop _]
    show wpAny _ A.in1 (pyNext (.ref ga) >>= _) _ _ s
    refine wpAny_bind (next_ge (A := A.in1) conU_ok hh hd hpn hgo hgs gi hN goes (fun i1 H1 y v Nx1 s1 gs1 rv gi1 o1 hg1 go1 => ?_) (fun H1 s1 I1 _ fin => ?_))
    · obtain ⟨c, rfl, hc⟩ := o1
      cases (show v = Value.bool c from rv)
      refine wpAny_bind (wpAny_holding (wpAny_truthy_bool ?_))
      refine wpAny_bind (wpAny_letGo ?_)
      cases c with
      | true => exact (go1 () s1 gi1 hc).elim
      | false =>
        simp only [Bool.false_eq_true, if_false]
        exact wpAny_bind (wpAny_rule (wpAny_pure (hR false s1 H1 gi1.1 hc)))
    · exact wpAny_bind (wpAny_rule (wpAny_pure (hR true s1 H1 I1 fin)))
  | succ n ih =>
    intro i H Nx s gs hgs gi hN goes
    refine codeAny_builtin F.entry_all_loop ?_
    rw [Around.under_plainId F.plain_all_loop _]
    show wpAny _ A.in1 (pyNext (.ref ga) >>= _) _ _ s
    refine wpAny_bind (next_ge (A := A.in1) conU_ok hh hd hpn hgo hgs gi hN goes (fun i1 H1 y v Nx1 s1 gs1 rv gi1 o1 hg1 go1 => ?_) (fun H1 s1 I1 _ fin => ?_))
    · obtain ⟨c, rfl, hc⟩ := o1
      cases (show v = Value.bool c from rv)
      refine wpAny_bind (wpAny_holding (wpAny_truthy_bool ?_))
      refine wpAny_bind (wpAny_letGo ?_)
      cases c with
      | true =>
        simp only [if_true]
        exact wpAny_pure ⟨plainId_quiet F.plain_all_loop _, ih i1 H1 Nx1 s1 gs1 hg1 gi1 hc go1⟩
      | false =>
        simp only [Bool.false_eq_true, if_false]
        exact wpAny_bind (wpAny_rule (wpAny_pure (hR false s1 H1 gi1.1 hc)))
    · exact wpAny_bind (wpAny_rule (wpAny_pure (hR true s1 H1 I1 fin)))
theorem any_loop {A : Around} {ga : Addr} {go : Obj} {g : Nat} {QB : Bool → Hp → Prop} {R : Result → Shared → Prop} (hh : A.handled = none) (hd : A.depth < recursionLimit) (hpn : (ga, go) ∈ Y.pn) (hgo : ∀ h : Heap, h.get? ga = some go → h.IsGen ga g)
    (hR : ∀ b s' H', Inv Y [] (nones Y.N.length) H' s' → QB b H' → R (.ok (.ret (.bool b))) s') :
    ∀ (n i : Nat) (H : Hp) (Nx : Unit → Hp → Prop) (s : Shared) (gs : GenState), s.gens[g]? = some gs → GI Y conU fpI tn () i H s → Nx () H →
      (∀ a' s'', GI Y conU fpI tn a' i H s'' → Nx a' H → gs.Goes (model Y.prog Y.w) A.in1.in1 (GRr Y conU fun _ H => QB false H) (GP Y conU fpI tn (outAny QB)) n (.send .none) s'') →
      codeAny (model Y.prog Y.w) A (.builtin "any.loop" ⟨[.ref ga], []⟩) R s := by
  intro n
  induction n with
  | zero =>
    intro i H Nx s gs hgs gi hN goes
    refine codeAny_builtin F.entry_any_loop ?_
    rw [Around.under_plainId F.plain_any_loop _]
    show wpAny _ A.in1 (pyNext (.ref ga) >>= _) _ _ s
    refine wpAny_bind (next_ge (A := A.in1) conU_ok hh hd hpn hgo hgs gi hN goes (fun i1 H1 y v Nx1 s1 gs1 rv gi1 o1 hg1 go1 => ?_) (fun H1 s1 I1 _ fin => ?_))
    · obtain ⟨c, rfl, hc⟩ := o1
      cases (show v = Value.bool c from rv)
      refine wpAny_bind (wpAny_holding (wpAny_truthy_bool ?_))
      refine wpAny_bind (wpAny_letGo ?_)
      cases c with
      | false => exact (go1 () s1 gi1 hc).elim
      | true =>
        simp only [if_true]
        exact wpAny_bind (wpAny_rule (wpAny_pure (hR true s1 H1 gi1.1 hc)))
    · exact wpAny_bind (wpAny_rule (wpAny_pure (hR false s1 H1 I1 fin)))
  | succ n ih =>
    intro i H Nx s gs hgs gi hN goes
    refine codeAny_builtin F.entry_any_loop ?_
    rw [Around.under_plainId F.plain_any_loop _]
    show wpAny _ A.in1 (pyNext (.ref ga) >>= _) _ _ s
    refine wpAny_bind (next_ge (A := A.in1) conU_ok hh hd hpn hgo hgs gi hN goes (fun i1 H1 y v Nx1 s1 gs1 rv gi1 o1 hg1 go1 => ?_) (fun H1 s1 I1 _ fin => ?_))
    · obtain ⟨c, rfl, hc⟩ := o1
      cases (show v = Value.bool c from rv)
      refine wpAny_bind (wpAny_holding (wpAny_truthy_bool ?_))
      refine wpAny_bind (wpAny_letGo ?_)
      cases c with
      | false =>
        simp only [Bool.false_eq_true, if_false]
        exact wpAny_pure ⟨plainId_quiet F.plain_any_loop _, ih i1 H1 Nx1 s1 gs1 hg1 gi1 hc go1⟩
      | true =>
        simp only [if_true]
        exact wpAny_bind (wpAny_rule (wpAny_pure (hR true s1 H1 gi1.1 hc)))
    · exact wpAny_bind (wpAny_rule (wpAny_pure (hR false s1 H1 I1 fin)))
end

/-! ### a generator expression is made -/
abbrev ce (X : Cx) (scope : Scope) (C : Addr) (code : Value) : Env := genEnv scope [] C code builtinsNs X.env
abbrev gx (X : Cx) (A : Around) (N : List Str) (s : Shared) (H : Hp) (cenv : Env) (fp : List Addr) (pn : List (Addr × Obj)) : Cx :=
  { X with A := A.deeper cenv, N := N, s_0 := s, H_0 := H, env := cenv, outer := X.stack, stack := cenv :: X.stack, ex := fp, fn := fun _ => false, calm := true, pn := pn, xe := fun _ _ => False }
structure GSc (scope : Scope) : Prop where
  kind : scope.kind = .function
  co : scope.isCoroutine = false
  own : ∀ y ∈ scope.names, y.2 ≠ .cell ∧ y.2 ≠ .free
  dot : scope.names.lookup (".0" : Str) = some NameKind.local
theorem cloFrom_nil {cells : List (Str × Addr)} : ∀ {names : List (Str × NameKind)} {acc : List (Str × Addr)}, (∀ y ∈ names, y.2 ≠ .free) → cloFrom cells names acc = acc
  | [], _, _ => rfl
  | (n, k) :: r, acc, h => by
    unfold cloFrom
    rw [if_neg (by simpa using h (n, k) List.mem_cons_self)]
    exact cloFrom_nil fun y hy => h y (List.mem_cons_of_mem _ hy)
theorem GSc.nocell {scope : Scope} (S : GSc scope) {x : Str} (h : scope.names.lookup x = some .cell ∨ scope.names.lookup x = some .free) : False := by
  rcases h with h | h
  · exact (S.own _ (PySem.mem_of_lookup h)).1 rfl
  · exact (S.own _ (PySem.mem_of_lookup h)).2 rfl
section
variable {X : Cx} {pins : List (Addr × Obj)} {σ : L2.St} {H : Hp} {s : Shared}
theorem ge_start {A : Around} {N : List Str} {scope : Scope} {code : Value} {fp : List Addr} {go : Obj} {G : Array GenState} {tk : Nat} {h5 : Heap} {m0 : Str → Option Value} (I : Inv X pins σ H s) (S : GSc scope) (hA : A.handled = none) (hf : A.frames = some X.stack)
    (hfp : ∀ b ∈ fp, FpOk X pins H b ∧ b < s.heap.objs.size) (hG : AllBare G) (hns : h5.Ns s.heap.objs.size m0) (hk : ∀ b o, s.heap.get? b = some o → h5.get? b = some o) (hgo : h5.get? (s.heap.objs.size + 1) = some go) (hgd : ∀ v, go.data ≠ .cell v) :
    Inv (gx X A N s H (ce X scope s.heap.objs.size code) fp [(s.heap.objs.size + 1, go)]) [] (nones N.length) H { s with gens := G, toks := tk, heap := h5 } := by
  have noc : ∀ x c, (ce X scope s.heap.objs.size code).cells.lookup x = some c → False := fun x c e => by simp [genEnv] at e
  have stkne : ∀ b, s.heap.objs.size ≤ b → b ∉ frs X.stack := fun b hb z => by
    rcases List.mem_cons.mp (I.stkSub b z) with e | e
    · exact absurd (Nat.lt_of_lt_of_le I.lt (by rw [← e]; exact hb)) (Nat.lt_irrefl _)
    · exact I.nofs hb e
  refine ⟨⟨I.ok.mod, S.kind, I.ok.glob, rfl, Nat.le_refl _, fun x y c h1 _ => (noc x c h1).elim, fun x hx => (S.nocell hx).elim, fun x c h _ => (by cases h), fun _ => hA, Around.frames_deeper hf, .inr ⟨rfl, rfl⟩, fun b hb => ⟨Nat.ne_of_lt (hfp b hb).2, fun x c e => (noc x c e).elim⟩,
    I.bs, Nat.le_trans I.ok.bsz I.sz, fun b o e hb => ?_, fun b hb z => ?_, I.stack, I.stkFree⟩, rfl, hG, Un.kept hk, ⟨m0, hns, fun i x v _ h2 _ => (nones_some h2).elim⟩, fun x c e => (noc x c e).elim, I.hok.fresh (Nat.le_refl _), fun x c e => (noc x c e).elim, fun p hp => ?_, I.hok.kept hk, List.length_replicate⟩
  · rcases (hfp b hb).1.2.2.2.1 with z | z
    · exact I.ok.noex b o e z
    · exact absurd (Nat.lt_of_lt_of_le (Heap.lt_size e) (Nat.le_trans I.ok.bsz z)) (Nat.lt_irrefl _)
  · rcases List.mem_cons.mp (I.stkSub b z) with e | e
    · exact (hfp b hb).1.2.1 e
    · exact (hfp b hb).1.2.2.1 e
  · have hp' : p ∈ [(s.heap.objs.size + 1, go)] := by simpa using hp
    rw [List.mem_singleton.mp hp']
    exact ⟨hgo, I.hok.fresh (Nat.le_succ _), Nat.succ_ne_self _, stkne _ (Nat.le_succ _), hgd⟩
/-- back in the def that asked -/
theorem ge_back {A : Around} {N : List Str} {cenv : Env} {fp : List Addr} {pn pins' : List (Addr × Obj)} {σ' : L2.St} {H' : Hp} {s' : Shared} (I : Inv X pins σ H s) (hfp : ∀ b ∈ fp, FpOk X pins H b ∧ b < s.heap.objs.size)
    (J : Inv (gx X A N s H cenv fp pn) pins' σ' H' s') : Inv X pins σ H' s' :=
  I.call' (ch := fp) J.os J.base J.hok J.bare fun b hb => ⟨(hfp b hb).1.2.2.2.1, (hfp b hb).1.2.1, (hfp b hb).1.2.2.2.2.1, (hfp b hb).1.2.2.2.2.2⟩
theorem room3 {k : Nat} {A : Around} (r : Room (k + 1) A) (env : Env) : Room k (A.in1.in1.deeper env) :=
  ⟨r.hd, by have := r.dp; show A.depth + 1 + 3 * k + 5 < _; omega, by have := r.un; show A.units + 1 + 1 + 3 + 16 * k + 200 < _; omega⟩

theorem gen_make {c P : Addr} {elt tg iter : Expr} {ifs : List Expr} {gpos : Pos} {scope : Scope} {wi : TI} {k : Nat} {Q' : Value → Shared → Prop} {R : It → Hp → Prop}
    (hr : Room k X.A) (TB : GxR.TabB X.base X.mg c P) (hcode : X.env.code = .ref c) (S : GSc scope) (hi : PI X tg iter wi) (hs : ∀ v, genFold iter X.env v = pure v) (I : Inv X pins σ H s) (h : wi σ H fun J H1 => GxR.TabG H1 P ∧ R J H1)
    (hQ : ∀ J H1 H2 s4 s5 code fp it tn go g, R J H1 → GxR.Tabbed P H1 H2 → Inv X pins σ H2 s4 → (∀ b ∈ fp, FpOk X pins H2 b ∧ b < s4.heap.objs.size) → Turn X.prog X.w X.K tg J fp it tn → tn 0 s5.heap →
      (∀ A N, A.handled = none → A.frames = some X.stack → Inv (gx X A N s4 H2 (ce X scope s4.heap.objs.size code) fp [(s4.heap.objs.size + 1, go)]) [] (nones N.length) H2 s5) →
      (∀ h : Heap, h.get? (s4.heap.objs.size + 1) = some go → h.IsGen (s4.heap.objs.size + 1) g) →
      s5.gens[g]? = some (.fresh (.compStart (.GeneratorExp elt [⟨tg, iter, ifs, 0⟩] scope gpos) 0 (.ref it) .none (ce X scope s4.heap.objs.size code))) → Q' (.ref (s4.heap.objs.size + 1)) s5) :
    wpAny (model X.prog X.w) X.A (eval (.GeneratorExp elt [⟨tg, iter, ifs, 0⟩] scope gpos) X.env) Q' X.xe s := by
  have hcl : closureFor scope X.env = pure [] := by
    rw [closure_ok fun y hy e => absurd e (S.own y hy).2, cloFrom_nil fun y hy => (S.own y hy).2]
  refine wpAny_GeneratorExp_make S.co hcl (fun y hy => (S.own y hy).1) S.dot S.kind (by have := hr.dp; omega) (thn (hi.run pins s σ H _ I h) fun xv s1 hx => thn hx fun itv s2 h2 => ?_) hs
  obtain ⟨it, fp, tn, J, H1, e, I2, T, st2, f2, ⟨ps, hP, ht⟩, q1⟩ := h2
  subst e
  have hPs : s2.heap.get? P = some { cls := .none, data := .fields ps } := I2.hok P _ hP
  have cd : PySem.W.CodeHd s2.heap c P := TB.code.keeps fun b u e => I2.bk b u e
  have nfp : ∀ b ∈ fp, b ≠ P := fun b hb z => by
    have := (f2 b hb).1
    rw [z, hP] at this
    cases this
  have szf : ∀ b ∈ fp, b < s2.heap.objs.size := fun b hb => by
    obtain ⟨o, e, _⟩ := T.obj _ _ st2 b hb
    exact Heap.lt_size e
  have cont : ∀ (code : Value) (h3 : Heap) (tk : Nat) (ps' : Array Value), Heap.ExtBut P s2.heap h3 → s2.heap.objs.size ≤ h3.objs.size → h3.get? P = some { cls := .none, data := .fields ps' } → (∃ more, ps' = ps ++ more) → TriplesOk ps'.toList →
      wpAny (model X.prog X.w) X.A (builtinsFor X.env.globals X.env.builtins) (fun bi s4 =>
        ∀ h', h'.Ns s4.heap.objs.size (fun y => if y = ".0" then some (.ref it) else none) → Heap.SameBut s4.heap.objs.size (s4.heap.push { cls := .type "frame", data := .dict #[] }) h' →
          Q' (.ref h'.objs.size) { s4 with
            gens := s4.gens.push (.fresh (.compStart (.GeneratorExp elt [⟨tg, iter, ifs, 0⟩] scope gpos) 0 (.ref it) .none (genEnv scope [] s4.heap.objs.size code bi X.env))),
            toks := s4.toks + 1 + 1 + 1,
            heap := h'.push { cls := .type "generator", data := .fields #[.int s4.gens.size 0, .str "<genexpr>" (s4.toks + 1), .str (X.env.qual ++ "<genexpr>") (s4.toks + 1 + 1)] } }) X.xe { s2 with heap := h3, toks := tk } := by
    intro code h3 tk ps' hx hsz hP3 hmore ht3
    obtain ⟨bm, ob, e1, e2, e3, e4, e5, e6, e7, e8⟩ := TB.bm
    obtain ⟨more, rfl⟩ := hmore
    have I3 : Inv X pins σ (upd H1 P (.tbl (ps ++ more))) { s2 with heap := h3, toks := tk } := GxR.inv_tab (more := more) (g' := s2.gens) (d' := s2.drawn) I2 hP (fun b u hb e => hx b u hb e) hP3 I2.bare
    have tab : GxR.Tabbed P H1 (upd H1 P (.tbl (ps ++ more))) := ⟨⟨_, upd_same, ht3⟩, fun b hb => upd_ne hb⟩
    have st3 : tn 0 h3 := T.keep _ _ _ st2 fun b hb o e => hx b o (nfp b hb) e
    have f3 : ∀ b ∈ fp, FpOk X pins (upd H1 P (.tbl (ps ++ more))) b ∧ b < h3.objs.size := fun b hb =>
      ⟨⟨by rw [upd_ne (nfp b hb)]; exact (f2 b hb).1, (f2 b hb).2⟩, Nat.lt_of_lt_of_le (szf b hb) hsz⟩
    refine wpAny_builtinsFor (m := X.mg) (by rw [I3.ok.glob]; exact I3.mod.glob.keeps I3.bk) e1 e2 (I3.bk _ _ e5) e6 e7 e8 ?_
    intro h' hns hsb
    have hsz' : h'.objs.size = h3.objs.size + 1 := by rw [hsb.1, Heap.size_push]
    have keep' : ∀ b o, h3.get? b = some o → h'.get? b = some o := fun b o e => hsb.extBut b o (Nat.ne_of_lt (Heap.lt_size e)) (Heap.get?_push_of_some _ e)
    have main : ∀ (go : Obj), go.cls = .type "generator" → (∃ nm qn, go.data = .fields #[.int s2.gens.size 0, nm, qn]) → go.slots = #[] → (∀ h : Heap, (h.push go).get? h.objs.size = some go) → ∀ t',
        Q' (.ref h'.objs.size) { s2 with heap := h'.push go, toks := t', gens := s2.gens.push (.fresh (.compStart (.GeneratorExp elt [⟨tg, iter, ifs, 0⟩] scope gpos) 0 (.ref it) .none (genEnv scope [] h3.objs.size code builtinsNs X.env))) } := by
      intro go gc ⟨nm, qn, gd⟩ gsl gp t'
      have hgp := gp h'
      rw [hsz'] at hgp ⊢
      have keep5 : ∀ b o, h3.get? b = some o → (h'.push go).get? b = some o := fun b o e => Heap.get?_push_of_some _ (keep' b o e)
      refine hQ J H1 (upd H1 P (.tbl (ps ++ more))) { s2 with heap := h3, toks := tk } _ code fp it tn go s2.gens.size q1 tab I3 f3 T (T.keep _ _ _ st3 fun b _ o e => keep5 b o e) (fun A N hA hf => ?_) (fun h e => ⟨go, nm, qn, e, gc, gd, gsl⟩) (Array.getElem?_push_size ..)
      exact ge_start (s := { s2 with heap := h3, toks := tk }) I3 S hA hf f3 (I2.bare.push rfl) (hns.push _) keep5 hgp (fun v z => by rw [gd] at z; cases z)
    exact main _ rfl ⟨_, _, rfl⟩ rfl (fun h => Heap.get?_push_size _ rfl) _
  refine ⟨I2.nolimit, ?_⟩
  cases hf : codeAmong gpos ps.toList with
  | none =>
    refine wpAny_genexprCodeX hcode (cd.code hPs ht) (cd.tab hPs) hf fun c' h' tk hx hge hlt hco' _ htab' _ => ?_
    obtain ⟨o1, vs, f1, tf, fl, tg', inF, tx, tt, op, _, _, _, _, _, _, _, _, _, htr, _⟩ := hco'
    exact cont _ h' tk _ hx (Nat.le_trans hge (Nat.le_of_lt hlt)) htab'.2 ⟨_, rfl⟩ htr
  | some cv =>
    refine wpAny_genexprCode_hit hcode (cd.code hPs ht) hf ?_
    exact cont cv s2.heap s2.toks ps (Heap.ExtBut.refl _ _) (Nat.le_refl _) hPs ⟨#[], by simp⟩ ht

/-! ### all and any of one -/
def tGen (P : Addr) (n0 : Nat) (wi : TI) (g : TG) (tt : TT) (te : TE) (Out : (Bool → Hp → Prop) → Unit → V → Hp → (Unit → Hp → Prop) → Prop) (fin : Bool) : TE := fun σ H Q => wi σ H fun J H1 => GxR.TabG H1 P ∧ ∀ H2, GxR.Tabbed P H1 H2 →
  ∃ W : Unit → Nat → Nat → Hp → Prop, (∃ m, W () 0 m H2) ∧ TurnOf J n0 g tt te (Out fun b H => Q (.bl b) H) (fun _ H => Q (.bl fin) H) W
theorem pe_allG {N : List Str} {c P : Addr} {elt tg iter : Expr} {ifs : List Expr} {p pos gpos : Pos} {scope : Scope} {wi : TI} {g : TG} {tt : TT} {te : TE} {k : Nat}
    (hr : Room (k + 1) X.A) (hgl : Gl X "all") (hm : X.mg "all" = none) (TB : GxR.TabB X.base X.mg c P) (hcode : X.env.code = .ref c) (S : GSc scope) (hi : PI X tg iter wi)
    (hg : ∀ (A : Around) (s : Shared) (H : Hp) (C : Addr) (code : Value) (fp : List Addr) (pn : List (Addr × Obj)), Room k (A.deeper (ce X scope C code)) → PG (gx X A N s H (ce X scope C code) fp pn) tg g)
    (ht : ∀ (A : Around) (s : Shared) (H : Hp) (C : Addr) (code : Value) (fp : List Addr) (pn : List (Addr × Obj)), Room k (A.deeper (ce X scope C code)) → PTs (gx X A N s H (ce X scope C code) fp pn) ifs tt)
    (he : ∀ (A : Around) (s : Shared) (H : Hp) (C : Addr) (code : Value) (fp : List Addr) (pn : List (Addr × Obj)), Room k (A.deeper (ce X scope C code)) → PE (gx X A N s H (ce X scope C code) fp pn) elt te)
    (hs : ∀ v, genFold iter X.env v = pure v := by intro _; rfl)
    (hb : bootBuiltins "all" = some (.builtin "all") := by decide +kernel)
    (hst : starEach [.GeneratorExp elt [⟨tg, iter, ifs, 0⟩] scope gpos] X.env = (false, eval (.GeneratorExp elt [⟨tg, iter, ifs, 0⟩] scope gpos) X.env) :: starEach [] X.env := by rfl) :
    PE X (.Call (.Name "all" p) [.GeneratorExp elt [⟨tg, iter, ifs, 0⟩] scope gpos] [] pos) (tGen P N.length wi g tt te outAll true) := by
  refine ⟨fun pins s σ H Q I h => ?_⟩
  refine wpAny_Call_Name_kw (ld_blt I hgl hm hb ?_)
  refine PyProof.Rows.callWith_builtin1 ?_ hst (by rfl)
  rw [hst]
  show wpAny _ _ (spliced ((false, eval (.GeneratorExp elt [⟨tg, iter, ifs, 0⟩] scope gpos) X.env) :: backTo pos (starEach [] X.env))) _ _ s
  refine Calls.spliced_cons (gen_make hr TB hcode S hi hs I h fun J H1 H2 s4 s5 code fp it tn go gn hR tab I4 f4 T st5 mk hgo hgs => ?_)
  refine Calls.spliced_nil ?_
  obtain ⟨W, ⟨m0, w0⟩, turn⟩ := hR H2 tab
  have rY := room3 hr (ce X scope s4.heap.objs.size code)
  have I5 := mk X.A.in1.in1 N hr.hd I.ok.frames
  generalize hpn : [(s4.heap.objs.size + 1, go)] = pn at I5
  have hpm : (s4.heap.objs.size + 1, go) ∈ pn := by rw [← hpn]; exact List.mem_singleton.mpr rfl
  have hpf : ∀ p ∈ pn, p.1 ∉ fp := fun p hp z => by
    rw [← hpn] at hp
    rw [List.mem_singleton.mp hp] at z
    exact absurd (f4 _ z).2 (Nat.not_lt.mpr (Nat.le_succ _))
  have gi0 : GI (gx X X.A.in1.in1 N s4 H2 (ce X scope s4.heap.objs.size code) fp pn) conU fp tn () 0 H2 s5 := ⟨I5, trivial, st5, fun b hb => (f4 b hb).1.1⟩
  have isg := hgo _ (I5.pin _ (List.mem_append_left _ hpm)).1
  refine call_function_tree F.kind_all F.plain_all F.entry_all (F.args_all1 _) ?_
  unfold Builtin.«all»
  refine wpAny_bind (m := oneArg "all" _) (wpAny_pure ?_)
  refine wpAny_bind (wpAny_pyIter_gen isg ?_)
  refine wpAny_pure ⟨plainId_quiet F.plain_all_loop _, ?_⟩
  refine all_loop (Y := gx X X.A.in1.in1 N s4 H2 (ce X scope s4.heap.objs.size code) fp pn) (A := X.A) (g := gn) (QB := fun b H => Q (.bl b) H) hr.hd hr.depth hpm hgo (fun b s' H' I' q => ?_) (m0 + 1) 0 H2 (fun a H => W a 0 m0 H) s5 _ hgs gi0 w0 (fun a' s'' gi' w' => ?_)
  · exact ⟨.bl b, H', ge_back I4 f4 I', rfl, q⟩
  · exact ⟨rfl, seg_start (Y := gx X X.A.in1.in1 N s4 H2 (ce X scope s4.heap.objs.size code) fp pn) conU_ok rfl T (hg _ _ _ _ _ _ _ rY) (ht _ _ _ _ _ _ _ rY) (he _ _ _ _ _ _ _ rY) rfl (fun b hb => hb) (fun b hb => nomatch hb) hpf rfl S.co turn m0 a' (m0 + 1) H2 s'' (Nat.lt_succ_self _) w' gi'⟩
theorem pe_anyG {N : List Str} {c P : Addr} {elt tg iter : Expr} {ifs : List Expr} {p pos gpos : Pos} {scope : Scope} {wi : TI} {g : TG} {tt : TT} {te : TE} {k : Nat}
    (hr : Room (k + 1) X.A) (hgl : Gl X "any") (hm : X.mg "any" = none) (TB : GxR.TabB X.base X.mg c P) (hcode : X.env.code = .ref c) (S : GSc scope) (hi : PI X tg iter wi)
    (hg : ∀ (A : Around) (s : Shared) (H : Hp) (C : Addr) (code : Value) (fp : List Addr) (pn : List (Addr × Obj)), Room k (A.deeper (ce X scope C code)) → PG (gx X A N s H (ce X scope C code) fp pn) tg g)
    (ht : ∀ (A : Around) (s : Shared) (H : Hp) (C : Addr) (code : Value) (fp : List Addr) (pn : List (Addr × Obj)), Room k (A.deeper (ce X scope C code)) → PTs (gx X A N s H (ce X scope C code) fp pn) ifs tt)
    (he : ∀ (A : Around) (s : Shared) (H : Hp) (C : Addr) (code : Value) (fp : List Addr) (pn : List (Addr × Obj)), Room k (A.deeper (ce X scope C code)) → PE (gx X A N s H (ce X scope C code) fp pn) elt te)
    (hs : ∀ v, genFold iter X.env v = pure v := by intro _; rfl)
    (hst : starEach [.GeneratorExp elt [⟨tg, iter, ifs, 0⟩] scope gpos] X.env = (false, eval (.GeneratorExp elt [⟨tg, iter, ifs, 0⟩] scope gpos) X.env) :: starEach [] X.env := by rfl) :
    PE X (.Call (.Name "any" p) [.GeneratorExp elt [⟨tg, iter, ifs, 0⟩] scope gpos] [] pos) (tGen P N.length wi g tt te outAny false) := by
  refine ⟨fun pins s σ H Q I h => ?_⟩
  refine wpAny_Call_Name_kw (ld_blt I hgl hm boot_any ?_)
  refine PyProof.Rows.callWith_builtin1 ?_ hst (by rfl)
  rw [hst]
  show wpAny _ _ (spliced ((false, eval (.GeneratorExp elt [⟨tg, iter, ifs, 0⟩] scope gpos) X.env) :: backTo pos (starEach [] X.env))) _ _ s
  refine Calls.spliced_cons (gen_make hr TB hcode S hi hs I h fun J H1 H2 s4 s5 code fp it tn go gn hR tab I4 f4 T st5 mk hgo hgs => ?_)
  refine Calls.spliced_nil ?_
  obtain ⟨W, ⟨m0, w0⟩, turn⟩ := hR H2 tab
  have rY := room3 hr (ce X scope s4.heap.objs.size code)
  have I5 := mk X.A.in1.in1 N hr.hd I.ok.frames
  generalize hpn : [(s4.heap.objs.size + 1, go)] = pn at I5
  have hpm : (s4.heap.objs.size + 1, go) ∈ pn := by rw [← hpn]; exact List.mem_singleton.mpr rfl
  have hpf : ∀ p ∈ pn, p.1 ∉ fp := fun p hp z => by
    rw [← hpn] at hp
    rw [List.mem_singleton.mp hp] at z
    exact absurd (f4 _ z).2 (Nat.not_lt.mpr (Nat.le_succ _))
  have gi0 : GI (gx X X.A.in1.in1 N s4 H2 (ce X scope s4.heap.objs.size code) fp pn) conU fp tn () 0 H2 s5 := ⟨I5, trivial, st5, fun b hb => (f4 b hb).1.1⟩
  have isg := hgo _ (I5.pin _ (List.mem_append_left _ hpm)).1
  refine call_function_tree F.kind_any F.plain_any F.entry_any (F.args_any1 _) ?_
  unfold Builtin.«any»
  refine wpAny_bind (m := oneArg "any" _) (wpAny_pure ?_)
  refine wpAny_bind (wpAny_pyIter_gen isg ?_)
  refine wpAny_pure ⟨plainId_quiet F.plain_any_loop _, ?_⟩
  refine any_loop (Y := gx X X.A.in1.in1 N s4 H2 (ce X scope s4.heap.objs.size code) fp pn) (A := X.A) (g := gn) (QB := fun b H => Q (.bl b) H) hr.hd hr.depth hpm hgo (fun b s' H' I' q => ?_) (m0 + 1) 0 H2 (fun a H => W a 0 m0 H) s5 _ hgs gi0 w0 (fun a' s'' gi' w' => ?_)
  · exact ⟨.bl b, H', ge_back I4 f4 I', rfl, q⟩
  · exact ⟨rfl, seg_start (Y := gx X X.A.in1.in1 N s4 H2 (ce X scope s4.heap.objs.size code) fp pn) conU_ok rfl T (hg _ _ _ _ _ _ _ rY) (ht _ _ _ _ _ _ _ rY) (he _ _ _ _ _ _ _ rY) rfl (fun b hb => hb) (fun b hb => nomatch hb) hpf rfl S.co turn m0 a' (m0 + 1) H2 s'' (Nat.lt_succ_self _) w' gi'⟩

/-! ### sum of one -/
def sumObj (a : Int) (t : Tok) (c : Nat) : Obj := { cls := .type "list", dict := none, data := .seq #[.int a t] c, slots := #[] }
def conS (S : Addr) : Con Int := ⟨[S], fun a h => ∃ t c, h.get? S = some (sumObj a t c)⟩
theorem conS_ok (S : Addr) : ConOk (conS S) :=
  ⟨(fun a h ⟨t, c, e⟩ b hb => by
      rw [List.mem_singleton.mp hb]
      exact ⟨_, e, fun v z => by cases z⟩),
   (fun a h h' ⟨t, c, e⟩ k => ⟨t, c, k S (List.mem_singleton.mpr rfl) _ e⟩),
   (fun a b h ⟨t, c, e⟩ ⟨t', c', e'⟩ => by
      rw [e] at e'
      have z : Data.seq #[Value.int a t] c = Data.seq #[Value.int b t'] c' := congrArg Obj.data (Option.some.inj e')
      injection z with z1 _
      have z2 : [Value.int a t] = [Value.int b t'] := congrArg Array.toList z1
      injection z2 with z3 _
      injection z3)⟩
def outSum : Int → V → Hp → (Int → Hp → Prop) → Prop := fun a y H Nx => ∃ v, y = .int v ∧ Nx (a + v) H
structure ApS (Y : Cx) (S : Addr) : Prop where
  young : Y.s_0.heap.objs.size ≤ S
  loc : S ≠ Y.env.locals
  cell : ∀ x c, Y.env.cells.lookup x = some c → c ≠ S
  pn : ∀ p ∈ Y.pn, p.1 ≠ S
theorem gi_upd {Y : Cx} {fpI : List Addr} {tn : Nat → Heap → Prop} {S : Addr} {a v : Int} {i : Nat} {H : Hp} {s : Shared} {tk : Nat} {h' : Heap} {t : Tok} {c : Nat} (hSf : S ∉ fpI) (ap : ApS Y S) (keepT : ∀ i h h', tn i h → (∀ b ∈ fpI, ∀ o, h.get? b = some o → h'.get? b = some o) → tn i h')
    (gi : GI Y (conS S) fpI tn a i H s) (hk : ∀ b o, b ≠ S → s.heap.get? b = some o → h'.get? b = some o) (hS : h'.get? S = some (sumObj v t c)) : GI Y (conS S) fpI tn v i H { s with heap := h', toks := tk } := by
  obtain ⟨I, ⟨t0, c0, e0⟩, st, hn⟩ := gi
  obtain ⟨_, p2, p3, p4, _⟩ := I.pin (S, sumObj a t0 c0) (List.mem_append_right _ (mem_pinsAt (List.mem_singleton.mpr rfl) e0))
  have I0 : Inv Y [] (nones Y.N.length) H s := I.pins_of fun p hp => by cases hp
  have I1 : Inv Y [] (nones Y.N.length) H { s with heap := h', toks := tk } := I0.turned (it := S) (fun b o hb e => hk b o hb e) p2 p3 (.inr ap.young) ap.cell fun p hp => (List.mem_append.mp hp).elim (fun z => ap.pn p z) fun z => by cases z
  refine ⟨I1.pins_of fun p hp => ?_, ⟨t, c, hS⟩, keepT _ _ _ st fun b hb o e => hk b o (fun z => hSf (z ▸ hb)) e, hn⟩
  obtain ⟨hb, e⟩ := of_pinsAt hp
  have eS : p.1 = S := List.mem_singleton.mp hb
  rw [eS] at e ⊢
  have e' : h'.get? S = some p.2 := e
  rw [hS] at e'
  refine ⟨e, p2, p3, p4, fun v z => ?_⟩
  rw [← Option.some.inj e'] at z
  cases z
theorem sum_loop {Y : Cx} {fpI : List Addr} {tn : Nat → Heap → Prop} {A : Around} {ga : Addr} {go : Obj} {g : Nat} {S : Addr} {QI : Int → Hp → Prop} {R : Result → Shared → Prop} (hSf : S ∉ fpI) (ap : ApS Y S) (keepT : ∀ i h h', tn i h → (∀ b ∈ fpI, ∀ o, h.get? b = some o → h'.get? b = some o) → tn i h')
    (hh : A.handled = none) (hd : A.depth < recursionLimit) (hpn : (ga, go) ∈ Y.pn) (hgo : ∀ h : Heap, h.get? ga = some go → h.IsGen ga g)
    (hR : ∀ a t' s' H', Inv Y [] (nones Y.N.length) H' s' → QI a H' → R (.ok (.ret (.int a t'))) s') :
    ∀ (n i : Nat) (H : Hp) (Nx : Int → Hp → Prop) (s : Shared) (gs : GenState) (a : Int) (t : Tok) (c : Nat) (st : Int), (st = 0 ∨ st = 2) → s.gens[g]? = some gs → GI Y (conS S) fpI tn a i H s → s.heap.get? S = some (sumObj a t c) → Nx a H →
      (∀ a' s'', GI Y (conS S) fpI tn a' i H s'' → Nx a' H → gs.Goes (model Y.prog Y.w) A.in1.in1 (GRr Y (conS S) QI) (GP Y (conS S) fpI tn outSum) n (.send .none) s'') →
      codeAny (model Y.prog Y.w) A (.builtin "sum.loop" ⟨[.ref ga, .ref S, rawInt st, rawInt 0], []⟩) R s := by
  -- what a turn comes to, the loop going on or not
  have turn : ∀ (n i : Nat) (H : Hp) (Nx : Int → Hp → Prop) (s : Shared) (gs : GenState) (a : Int) (t : Tok) (c : Nat) (st : Int), (st = 0 ∨ st = 2) → s.gens[g]? = some gs → GI Y (conS S) fpI tn a i H s → s.heap.get? S = some (sumObj a t c) → Nx a H →
      (∀ a' s'', GI Y (conS S) fpI tn a' i H s'' → Nx a' H → gs.Goes (model Y.prog Y.w) A.in1.in1 (GRr Y (conS S) QI) (GP Y (conS S) fpI tn outSum) n (.send .none) s'') →
      (∀ (i1 : Nat) (H1 : Hp) (Nx1 : Int → Hp → Prop) (s1 : Shared) (gs1 : GenState) (b : Int) (t1 : Tok) (c1 : Nat) (st1 : Int), (st1 = 0 ∨ st1 = 2) → s1.gens[g]? = some gs1 → GI Y (conS S) fpI tn b i1 H1 s1 → s1.heap.get? S = some (sumObj b t1 c1) → Nx1 b H1 →
        GoOn (model Y.prog Y.w) A.in1.in1 (GRr Y (conS S) QI) (GP Y (conS S) fpI tn outSum) (fun a' s'' => GI Y (conS S) fpI tn a' i1 H1 s'') (fun a' => Nx1 a' H1) gs1 n →
        codeAny (model Y.prog Y.w) A (.builtin "sum.loop" ⟨[.ref ga, .ref S, rawInt st1, rawInt 0], []⟩) R s1) →
      codeAny (model Y.prog Y.w) A (.builtin "sum.loop" ⟨[.ref ga, .ref S, rawInt st, rawInt 0], []⟩) R s := by
    intro n i H Nx s gs a t c st hst2 hgs gi hS hN goes again
    refine codeAny_builtin F.entry_sum_loop ?_
    rw [Around.under_plainId F.plain_sum_loop _]
    show wpAny _ A.in1 (seqItems? (.ref S) >>= _) _ _ s
    refine wpAny_bind (wpAny_seqItems hS rfl ?_)
    show wpAny _ A.in1 (tryCatch (pyNext (.ref ga)) _ >>= _) _ _ s
    refine wpAny_bind (wpAny_tryCatch (next_ge (A := A.in1) (conS_ok S) hh hd hpn hgo hgs gi hN goes (fun i1 H1 y v Nx1 s1 gs1 rv gi1 o1 hg1 go1 => ?_) (fun H1 s1 I1 _ fin => ?_)))
    · obtain ⟨v', rfl, hc⟩ := o1
      obtain ⟨t', rfl⟩ := (show ∃ t', v = Value.int v' t' from rv)
      obtain ⟨tS, cS, hS'⟩ := gi1.2.1
      rcases hst2 with rfl | rfl
      · show wpAny _ A.in1 (if (_ : Bool) = true then (mkInt (a + v') >>= _) else _) _ _ _
        split
        · refine wpAny_bind (wpAny_mkInt ?_)
          show wpAny _ A.in1 (updateSeq S (fun _ => #[.int (a + v') s1.toks]) >>= _) _ _ _
          refine wpAny_bind ?_
          refine wpAny_updateSeq hS' rfl (wpAny_pure ⟨plainId_quiet F.plain_sum_loop _, ?_⟩)
          refine again i1 H1 Nx1 _ gs1 (a + v') s1.toks _ 0 (.inl rfl) hg1 (gi_upd (t := s1.toks) (s := s1) hSf ap keepT gi1 (fun b o hb e => (Heap.get?_update_other _ _ (Ne.symm hb)).trans e) (Heap.get?_update_self _ hS' rfl)) (Heap.get?_update_self _ hS' rfl) hc go1
        · refine wpAny_bind (wpAny_rule ?_)
          refine wpAny_bind (wpAny_attempt (wpAny_holding (wpAny_add_int ?_)))
          show wpAny _ A.in1 (updateSeq S (fun _ => #[.int (a + v') s1.toks]) >>= _) _ _ _
          refine wpAny_bind (wpAny_updateSeq hS' rfl ?_)
          have hS₂ := Heap.get?_update_self (Obj.mapSeq fun _ => #[Value.int (a + v') s1.toks]) hS' rfl
          refine wpAny_bind (wpAny_letGo ?_)
          refine wpAny_bind (wpAny_updateSeq hS₂ rfl (wpAny_pure ⟨plainId_quiet F.plain_sum_loop _, ?_⟩))
          refine again i1 H1 Nx1 _ gs1 (a + v') s1.toks _ 2 (.inr rfl) hg1 (gi_upd (t := s1.toks) (s := s1) hSf ap keepT gi1 (fun b o hb e => (Heap.get?_update_other _ _ (Ne.symm hb)).trans ((Heap.get?_update_other _ _ (Ne.symm hb)).trans e)) (Heap.get?_update_self _ hS₂ rfl)) (Heap.get?_update_self _ hS₂ rfl) hc go1
      · show wpAny _ A.in1 ((holding [Value.int v' t'] (binaryOp .Add (.int a t) (.int v' t'))).attempt >>= _) _ _ _
        refine wpAny_bind (wpAny_attempt (wpAny_holding (wpAny_add_int ?_)))
        show wpAny _ A.in1 (updateSeq S (fun _ => #[.int (a + v') s1.toks]) >>= _) _ _ _
        refine wpAny_bind (wpAny_updateSeq hS' rfl ?_)
        have hS₂ := Heap.get?_update_self (Obj.mapSeq fun _ => #[Value.int (a + v') s1.toks]) hS' rfl
        refine wpAny_bind (wpAny_letGo ?_)
        refine wpAny_bind (wpAny_updateSeq hS₂ rfl (wpAny_pure ⟨plainId_quiet F.plain_sum_loop _, ?_⟩))
        refine again i1 H1 Nx1 _ gs1 (a + v') s1.toks _ 2 (.inr rfl) hg1 (gi_upd (t := s1.toks) (s := s1) hSf ap keepT gi1 (fun b o hb e => (Heap.get?_update_other _ _ (Ne.symm hb)).trans ((Heap.get?_update_other _ _ (Ne.symm hb)).trans e)) (Heap.get?_update_self _ hS₂ rfl)) (Heap.get?_update_self _ hS₂ rfl) hc go1
    · exact wpAny_pure (hR a t s1 H1 (I1.pins_of fun p hp => by cases hp) fin)
  intro n
  induction n with
  | zero => exact fun i H Nx s gs a t c st h1 h2 h3 h4 h5 h6 => turn 0 i H Nx s gs a t c st h1 h2 h3 h4 h5 h6 fun i1 H1 Nx1 s1 gs1 b t1 c1 st1 _ _ g1 _ g3 g4 => (g4 b s1 g1 g3).elim
  | succ n ih => exact fun i H Nx s gs a t c st h1 h2 h3 h4 h5 h6 => turn (n + 1) i H Nx s gs a t c st h1 h2 h3 h4 h5 h6 fun i1 H1 Nx1 s1 gs1 b t1 c1 st1 g0 g1 g2 g3 g4 g5 => ih i1 H1 Nx1 s1 gs1 b t1 c1 st1 g0 g1 g2 g3 g4 g5
def tSumG (P : Addr) (n0 : Nat) (wi : TI) (g : TG) (tt : TT) (te : TE) : TE := fun σ H Q => wi σ H fun J H1 => GxR.TabG H1 P ∧ ∀ H2, GxR.Tabbed P H1 H2 →
  ∃ W : Int → Nat → Nat → Hp → Prop, (∃ m, W 0 0 m H2) ∧ TurnOf J n0 g tt te outSum (fun a H => Q (.int a) H) W
theorem pe_sumG {N : List Str} {c P : Addr} {elt tg iter : Expr} {ifs : List Expr} {p pos gpos : Pos} {scope : Scope} {wi : TI} {g : TG} {tt : TT} {te : TE} {k : Nat}
    (hr : Room (k + 1) X.A) (hgl : Gl X "sum") (hm : X.mg "sum" = none) (TB : GxR.TabB X.base X.mg c P) (hcode : X.env.code = .ref c) (S : GSc scope) (hi : PI X tg iter wi)
    (hg : ∀ (A : Around) (s : Shared) (H : Hp) (C : Addr) (code : Value) (fp : List Addr) (pn : List (Addr × Obj)), Room k (A.deeper (ce X scope C code)) → PG (gx X A N s H (ce X scope C code) fp pn) tg g)
    (ht : ∀ (A : Around) (s : Shared) (H : Hp) (C : Addr) (code : Value) (fp : List Addr) (pn : List (Addr × Obj)), Room k (A.deeper (ce X scope C code)) → PTs (gx X A N s H (ce X scope C code) fp pn) ifs tt)
    (he : ∀ (A : Around) (s : Shared) (H : Hp) (C : Addr) (code : Value) (fp : List Addr) (pn : List (Addr × Obj)), Room k (A.deeper (ce X scope C code)) → PE (gx X A N s H (ce X scope C code) fp pn) elt te)
    (hs : ∀ v, genFold iter X.env v = pure v := by intro _; rfl)
    (hb : bootBuiltins "sum" = some (.builtin "sum") := by decide +kernel)
    (hst : starEach [.GeneratorExp elt [⟨tg, iter, ifs, 0⟩] scope gpos] X.env = (false, eval (.GeneratorExp elt [⟨tg, iter, ifs, 0⟩] scope gpos) X.env) :: starEach [] X.env := by rfl) :
    PE X (.Call (.Name "sum" p) [.GeneratorExp elt [⟨tg, iter, ifs, 0⟩] scope gpos] [] pos) (tSumG P N.length wi g tt te) := by
  refine ⟨fun pins s σ H Q I h => ?_⟩
  refine wpAny_Call_Name_kw (ld_blt I hgl hm hb ?_)
  refine PyProof.Rows.callWith_builtin1 ?_ hst (by rfl)
  rw [hst]
  show wpAny _ _ (spliced ((false, eval (.GeneratorExp elt [⟨tg, iter, ifs, 0⟩] scope gpos) X.env) :: backTo pos (starEach [] X.env))) _ _ s
  refine Calls.spliced_cons (gen_make hr TB hcode S hi hs I h fun J H1 H2 s4 s5 code fp it tn go gn hR tab I4 f4 T st5 mk hgo hgs => ?_)
  refine Calls.spliced_nil ?_
  obtain ⟨W, ⟨m0, w0⟩, turn⟩ := hR H2 tab
  have rY := room3 hr (ce X scope s4.heap.objs.size code)
  have I5 := mk X.A.in1.in1 N hr.hd I.ok.frames
  generalize hpn : [(s4.heap.objs.size + 1, go)] = pn at I5
  have hpm : (s4.heap.objs.size + 1, go) ∈ pn := by rw [← hpn]; exact List.mem_singleton.mpr rfl
  have hpf : ∀ p ∈ pn, p.1 ∉ fp := fun p hp z => by
    rw [← hpn] at hp
    rw [List.mem_singleton.mp hp] at z
    exact absurd (f4 _ z).2 (Nat.not_lt.mpr (Nat.le_succ _))
  have isg := hgo _ (I5.pin _ (List.mem_append_left _ hpm)).1
  have fpl : ∀ b ∈ fp, b < s5.heap.objs.size := fun b hb => Nat.lt_of_lt_of_le (f4 b hb).2 I5.sz
  refine call_function_tree F.kind_sum F.plain_sum F.entry_sum (F.args_sum1 _) ?_
  unfold Builtin.«sum»
  simp only [List.length_cons, List.length_nil]
  rw [if_neg (by decide)]
  refine wpAny_bind (wpAny_of_eq (show Builtin.Builtins.bindParams "sum" ["start"] 0 { } = pure [none] from rfl) ?_)
  refine wpAny_bind (wpAny_pyIter_gen isg ?_)
  refine wpAny_bind (wpAny_mkInt ?_)
  refine wpAny_bind (wpAny_pure ?_)
  simp only [List.forIn_cons, List.forIn_nil]
  refine wpAny_bind (wpAny_bind (wpAny_bind (wpAny_isInstance (T := "int") (b := false) (typeIs_int _ _ _) PySem.sub_int_str ?_)))
  simp only [Bool.false_eq_true, if_false]
  refine wpAny_pure (wpAny_bind (wpAny_bind (wpAny_isInstance (T := "int") (b := false) (typeIs_int _ _ _) PySem.sub_int_bytes ?_)))
  simp only [Bool.false_eq_true, if_false]
  refine wpAny_pure (wpAny_bind (wpAny_bind (wpAny_isInstance (T := "int") (b := false) (typeIs_int _ _ _) PySem.sub_int_bytearray ?_)))
  simp only [Bool.false_eq_true, if_false]
  refine wpAny_pure (wpAny_pure ?_)
  refine wpAny_bind (wpAny_newObj_type ?_)
  refine wpAny_pure ⟨plainId_quiet F.plain_sum_loop _, ?_⟩
  have hSf : s5.heap.objs.size ∉ fp := fun hm => Nat.lt_irrefl _ (fpl _ hm)
  have hget : (s5.heap.push (sumObj 0 s5.toks 0)).get? s5.heap.objs.size = some (sumObj 0 s5.toks 0) := Heap.get?_push_size _ rfl
  have I6 : Inv (gx X X.A.in1.in1 N s4 H2 (ce X scope s4.heap.objs.size code) fp pn) [] (nones N.length) H2 { s5 with heap := s5.heap.push (sumObj 0 s5.toks 0), toks := s5.toks + 1 } := I5.kept fun b o e => Heap.get?_push_of_some _ e
  have gi0 : GI (gx X X.A.in1.in1 N s4 H2 (ce X scope s4.heap.objs.size code) fp pn) (conS s5.heap.objs.size) fp tn 0 0 H2 { s5 with heap := s5.heap.push (sumObj 0 s5.toks 0), toks := s5.toks + 1 } := by
    refine ⟨I6.pins_of fun p hp => ?_, ⟨s5.toks, 0, hget⟩, T.keep _ _ _ st5 fun b _ o e => Heap.get?_push_of_some _ e, fun b hb => (f4 b hb).1.1⟩
    obtain ⟨hb, e⟩ := of_pinsAt hp
    have eS : p.1 = s5.heap.objs.size := List.mem_singleton.mp hb
    rw [eS] at e ⊢
    have e' : (s5.heap.push (sumObj 0 s5.toks 0)).get? s5.heap.objs.size = some p.2 := e
    rw [hget] at e'
    refine ⟨e, I5.hok.fresh (Nat.le_refl _), Nat.ne_of_gt I5.lt, I5.nofs (Nat.le_refl _), fun v z => ?_⟩
    rw [← Option.some.inj e'] at z
    cases z
  have ap : ApS (gx X X.A.in1.in1 N s4 H2 (ce X scope s4.heap.objs.size code) fp pn) s5.heap.objs.size := ⟨I5.sz, Nat.ne_of_gt I5.lt, fun x c e => by simp [genEnv] at e, fun p hp z => by
    have := Heap.lt_size (I5.pin p (List.mem_append_left _ hp)).1
    rw [z] at this
    exact Nat.lt_irrefl _ this⟩
  refine sum_loop (Y := gx X X.A.in1.in1 N s4 H2 (ce X scope s4.heap.objs.size code) fp pn) (A := X.A) (g := gn) (QI := fun a H => Q (.int a) H) hSf ap T.keep hr.hd hr.depth hpm hgo (fun a t' s' H' I' q => ?_) (m0 + 1) 0 H2 (fun a H => W a 0 m0 H) _ _ 0 s5.toks 0 0 (.inl rfl) hgs gi0 hget w0 (fun a' s'' gi' w' => ?_)
  · exact ⟨.int a, H', ge_back I4 f4 I', ⟨_, rfl⟩, q⟩
  · exact ⟨rfl, seg_start (Y := gx X X.A.in1.in1 N s4 H2 (ce X scope s4.heap.objs.size code) fp pn) (conS_ok _) rfl T (hg _ _ _ _ _ _ _ rY) (ht _ _ _ _ _ _ _ rY) (he _ _ _ _ _ _ _ rY) rfl (fun b hb => hb) (fun b hb => by rw [List.mem_singleton.mp hb]; exact hSf) hpf rfl S.co turn m0 a' (m0 + 1) H2 s'' (Nat.lt_succ_self _) w' gi'⟩
end
end GE
set_option Elab.async false
set_option linter.all false
set_option maxRecDepth 100000
set_option maxHeartbeats 1000000
namespace CL
open PySem PySem.Spec PyProof.Rows L2 GE
/-! ### what a value is worth, as data -/
mutual
inductive Rp (H : Hp) : V → PyData → Prop
  | non : Rp H .non .none
  | bl (b : Bool) : Rp H (.bl b) (.bool b)
  | int (i : Int) : Rp H (.int i) (.int i)
  | str (x : Str) : Rp H (.str x) (.str x)
  | lst {a : Addr} {xs : List V} {ds : List PyData} : H a = some (.lst xs) → RpAll H xs ds → Rp H (.ref a) (.list ds)
  | tup {a : Addr} {xs : List V} {ds : List PyData} : H a = some (.tup xs) → RpAll H xs ds → Rp H (.ref a) (.tuple ds)
  | dct {a : Addr} : H a = some (.dK []) → Rp H (.ref a) (.dict [])
inductive RpAll (H : Hp) : List V → List PyData → Prop
  | nil : RpAll H [] []
  | cons {v : V} {vs : List V} {d : PyData} {ds : List PyData} : Rp H v d → RpAll H vs ds → RpAll H (v :: vs) (d :: ds)
end
/-- all stays but tables, which may grow -/
def Ex (H H' : Hp) : Prop := ∀ b o, H b = some o → H' b = some o ∨ ∃ ps qs, o = .tbl ps ∧ H' b = some (.tbl qs) ∧ TriplesOk qs.toList
theorem Ex.refl (H : Hp) : Ex H H := fun _ _ h => .inl h
theorem Ex.of {H H' : Hp} (s : Same H H') : Ex H H' := fun b o h => .inl (s b o h)
theorem Ex.trans {H H1 H2 : Hp} (a : Ex H H1) (b : Ex H1 H2) : Ex H H2 := fun c o h => by
  rcases a c o h with q | ⟨ps, qs, e, q⟩
  · exact b c o q
  · rcases b c _ q.1 with r | ⟨ps', qs', _, r⟩
    · exact .inr ⟨ps, qs, e, r, q.2⟩
    · exact .inr ⟨ps, qs', e, r⟩
theorem Ex.keep {H H' : Hp} (e : Ex H H') {b : Addr} {o : HO} (h : H b = some o) (n : ∀ ps, o ≠ .tbl ps) : H' b = some o := by
  rcases e b o h with q | ⟨ps, _, z, _⟩
  · exact q
  · exact absurd z (n ps)
theorem Ex.lst {H H' : Hp} (e : Ex H H') {b : Addr} {xs : List V} (h : H b = some (.lst xs)) : H' b = some (.lst xs) := e.keep h fun _ => nofun
theorem Ex.tup {H H' : Hp} (e : Ex H H') {b : Addr} {xs : List V} (h : H b = some (.tup xs)) : H' b = some (.tup xs) := e.keep h fun _ => nofun
theorem Ex.free {H H' : Hp} (e : Ex H H') {l : Addr} (h : H' l = none) : H l = none := by
  cases q : H l with
  | none => rfl
  | some o =>
    rcases e l o q with r | ⟨_, _, _, r, _⟩
    · rw [h] at r; cases r
    · rw [h] at r; cases r
theorem Ex.new {H : Hp} {p : Addr} {o : HO} (h : H p = none) : Ex H (upd H p o) := fun b x e => .inl (by rw [upd_ne (ne_of_none e h)]; exact e)
theorem same_upd {H : Hp} {p : Addr} {o : HO} (h : H p = none) : Same H (upd H p o) := fun b x e => by
  rw [upd_ne (ne_of_none e h)]
  exact e
mutual
theorem Rp.ex {H H' : Hp} (e : Ex H H') : ∀ (d : PyData) (v : V), Rp H v d → Rp H' v d
  | .none, _, h => by cases h; exact .non
  | .bool b, _, h => by cases h; exact .bl b
  | .int i, _, h => by cases h; exact .int i
  | .str x, _, h => by cases h; exact .str x
  | .list ds, _, h => by
    cases h with
    | lst h1 h2 => exact .lst (e.lst h1) (RpAll.ex e ds _ h2)
  | .tuple ds, _, h => by
    cases h with
    | tup h1 h2 => exact .tup (e.tup h1) (RpAll.ex e ds _ h2)
  | .dict _, _, h => by
    cases h with
    | dct h1 => exact .dct (e.keep h1 fun _ => nofun)
theorem RpAll.ex {H H' : Hp} (e : Ex H H') : ∀ (ds : List PyData) (vs : List V), RpAll H vs ds → RpAll H' vs ds
  | [], _, h => by cases h; exact .nil
  | d :: ds, _, h => by
    cases h with
    | cons h1 h2 => exact .cons (Rp.ex e d _ h1) (RpAll.ex e ds _ h2)
end
theorem RpAll.length {H : Hp} : ∀ {vs : List V} {ds : List PyData}, RpAll H vs ds → vs.length = ds.length
  | _, _, .nil => rfl
  | _, _, .cons _ t => congrArg (· + 1) (RpAll.length t)
theorem RpAll.get {H : Hp} : ∀ {vs : List V} {ds : List PyData} {i : Nat} {v : V}, RpAll H vs ds → vs[i]? = some v → ∃ d, ds[i]? = some d ∧ Rp H v d
  | _, _, _, _, .nil, e => by simp at e
  | _, _, 0, _, .cons r _, e => by simp at e; subst e; exact ⟨_, rfl, r⟩
  | _, _, i + 1, _, .cons _ t, e => by
    obtain ⟨d, h1, h2⟩ := RpAll.get (i := i) t (by simpa using e)
    exact ⟨d, by simpa using h1, h2⟩
theorem RpAll.take {H : Hp} : ∀ {vs : List V} {ds : List PyData} (n : Nat), RpAll H vs ds → RpAll H (vs.take n) (ds.take n)
  | _, _, 0, _ => .nil
  | _, _, _ + 1, .nil => .nil
  | _, _, n + 1, .cons r t => .cons r (RpAll.take n t)
theorem RpAll.append {H : Hp} : ∀ {vs ws : List V} {ds es : List PyData}, RpAll H vs ds → RpAll H ws es → RpAll H (vs ++ ws) (ds ++ es)
  | _, _, _, _, .nil, s => s
  | _, _, _, _, .cons r t, s => .cons r (RpAll.append t s)
/-! ### plans, as the document tells -/
def tyName : PyData → String
  | .none => "NoneType" | .bool _ => "bool" | .int _ => "int" | .str _ => "str" | .list _ => "list" | .tuple _ => "tuple" | .dict _ => "dict"
def rowsD : PyData → Option (List PyData)
  | .list xs => some xs
  | .tuple xs => some xs
  | _ => none
def isRow (d : PyData) : Bool := (rowsD d).isSome
def isWhole : PyData → Bool
  | .int _ => true
  | _ => false
def isIntB : PyData → Bool
  | .int _ => true
  | .bool _ => true
  | _ => false
def isBoolB : PyData → Bool
  | .bool _ => true
  | _ => false
def isNone : PyData → Bool
  | .none => true
  | _ => false
abbrev GREAT : Int := 1000000000000000000000000000000
def isPatience : PyData → Bool
  | .none => true
  | .int i => decide (0 ≤ i) && decide (i ≤ GREAT)
  | _ => false
def isTurns (d : PyData) : Bool := match rowsD d with
  | some ds => decide (1 ≤ ds.length) && decide (ds.length ≤ 8) && ds.all isPatience
  | none => false
def isMany : PyData → Bool
  | .none => true
  | .int i => decide (0 ≤ i)
  | _ => false
def isPiece (d : PyData) : Bool := match rowsD d with
  | some [t, m] => isTurns t && isMany m
  | _ => false
def sndD (d : PyData) : PyData := match rowsD d with
  | some [_, m] => m
  | _ => .none
def worth : PyData → Int
  | .int i => i
  | _ => 0
def sumSnd (ds : List PyData) : Int := (ds.map fun d => worth (sndD d)).sum
def isPlanL (ds : List PyData) : Bool := decide (1 ≤ ds.length) && decide (ds.length ≤ 8) && ds.all isPiece && !((ds.take (ds.length - 1)).any fun d => isNone (sndD d)) && decide (sumSnd ds ≤ GREAT)
def isPlan (d : PyData) : Bool := match rowsD d with
  | some ds => isPlanL ds
  | none => false
theorem Rp.ty {K : PySem.W.Frag} {H : Hp} {v : V} {d : PyData} (h : Rp H v d) : TyX K H v (.type (tyName d)) := by
  cases h with
  | non => exact .base .non
  | bl b => exact .base (.bl b)
  | int i => exact .base (.int i)
  | str x => exact .base (.str x)
  | lst h _ => exact .base (.lst h)
  | tup h _ => exact .base (.tup h)
  | dct h => exact .base (.dK h)
theorem kit_int {K : PySem.W.Frag} (d : PyData) : PySem.W.kitOne K (.type (tyName d)) (.type "int") = some (isIntB d) := by cases d <;> (refine kit_ty ?_; dsimp only [tyName, isIntB]; decide +kernel)
theorem kit_bool {K : PySem.W.Frag} (d : PyData) : PySem.W.kitOne K (.type (tyName d)) (.type "bool") = some (isBoolB d) := by cases d <;> (refine kit_ty ?_; dsimp only [tyName, isBoolB]; decide +kernel)
theorem kit_list {K : PySem.W.Frag} (d : PyData) : PySem.W.kitOne K (.type (tyName d)) (.type "list") = some (match d with | .list _ => true | _ => false) := by cases d <;> (refine kit_ty ?_; dsimp only [tyName]; decide +kernel)
theorem kit_tuple {K : PySem.W.Frag} (d : PyData) : PySem.W.kitOne K (.type (tyName d)) (.type "tuple") = some (match d with | .tuple _ => true | _ => false) := by cases d <;> (refine kit_ty ?_; dsimp only [tyName]; decide +kernel)
theorem kit_rows {K : PySem.W.Frag} (d : PyData) : PySem.W.kitAny K (.type (tyName d)) [.type "list", .type "tuple"] = some (isRow d) := by
  refine kitAny_cons (kit_list d) (fun h => kitAny_cons (kit_tuple d) (fun h2 => ?_) fun h2 => ?_) fun h => ?_
  · cases d <;> first | exact kitAny_nil | (simp at h; done) | (simp at h2; done)
  · cases d <;> first | rfl | (simp at h; done) | (simp at h2; done)
  · cases d <;> first | rfl | (simp at h; done)
/-- a row's things -/
theorem Rp.rows {H : Hp} {v : V} {d : PyData} {ds : List PyData} (h : Rp H v d) (e : rowsD d = some ds) : ∃ a xs, v = .ref a ∧ RpAll H xs ds ∧ (H a = some (.lst xs) ∨ H a = some (.tup xs)) := by
  cases h with
  | lst h1 h2 => cases e; exact ⟨_, _, rfl, h2, .inl h1⟩
  | tup h1 h2 => cases e; exact ⟨_, _, rfl, h2, .inr h1⟩
  | _ => cases e
/-! ### for x in a list or a tuple -/
structure StSeq (H : Hp) (a : Addr) (xs : List V) : Prop where
  or : H a = some (.lst xs) ∨ H a = some (.tup xs)
theorem StSeq.ex {H H' : Hp} {a : Addr} {xs : List V} (s : StSeq H a xs) (e : Ex H H') : StSeq H' a xs := ⟨s.or.elim (fun h => .inl (e.lst h)) fun h => .inr (e.tup h)⟩
theorem StSeq.sq {K : PySem.W.Frag} {H : Hp} {a : Addr} {xs : List V} (s : StSeq H a xs) : SqL K H a xs ∨ SqT K H a xs := s.or.elim (fun h => .inl (SqL.of h)) fun h => .inr (SqT.of h)
/-- the thing that is walked stands -/
def StandsAs (K : PySem.W.Frag) (a : Addr) (xs : List V) (J : It) (H : Hp) : Prop := (J = Itl K a ∧ SqL K H a xs) ∨ (J = Itt K a ∧ SqT K H a xs)
section
variable {X : Cx} {tg : Expr}
def iSeq (K : PySem.W.Frag) (tl : TE) : TI := fun σ H R => tl σ H fun x H1 => ∃ a xs, x = .ref a ∧ StSeq H1 a xs ∧ ∀ J, (∀ H2, Ex H1 H2 → StandsAs K a xs J H2) → R J H1
theorem pi_seq {l : Expr} {tl : TE} (hl : PE X l tl) : PI X tg l (iSeq X.K tl) := by
  refine ⟨fun pins s σ H R I h => ?_⟩
  refine thn (hl.run pins s σ H _ I h) fun v s1 ⟨x, H1, I1, r1, q1⟩ => ?_
  obtain ⟨a, xs, e, st, q⟩ := q1
  subst e
  cases r1
  have new : ∀ b ∈ [s1.heap.objs.size], FpOk X pins H1 b := fun b hb => by
    rw [List.mem_singleton.mp hb]
    exact I1.fpOk (Nat.le_refl _) (I1.hok.fresh (Nat.le_refl _))
  rcases st.or with hq | hq
  · obtain ⟨its, rv, p, hz⟩ := I1.list (SqL.of hq)
    exact wpAny_pyIter_list p.isList ⟨s1.heap.objs.size, [s1.heap.objs.size], _, _, H1, rfl, I1.kept (t' := s1.toks) fun b o e => Heap.get?_push_of_some _ e, turn_list a _, ⟨_, Heap.get?_push_size _ rfl, rfl, rfl⟩, new, q _ fun H2 e => .inl ⟨rfl, SqL.of (e.lst hq)⟩⟩
  · obtain ⟨its, rv, p, hz⟩ := I1.tuple (SqT.of hq)
    exact wpAny_pyIter_tuple (show s1.heap.IsTuple a its.toArray from p) ⟨s1.heap.objs.size, [s1.heap.objs.size], _, _, H1, rfl, I1.kept (t' := s1.toks) fun b o e => Heap.get?_push_of_some _ e, turn_tuple a _, ⟨_, Heap.get?_push_size _ rfl, rfl, rfl⟩, new, q _ fun H2 e => .inr ⟨rfl, SqT.of (e.tup hq)⟩⟩
end
theorem StandsAs.go {K : PySem.W.Frag} {a : Addr} {xs : List V} {J : It} {H : Hp} {i : Nat} {x : V} (s : StandsAs K a xs J H) (h : xs[i]? = some x) : J.go i H := by
  rcases s with ⟨rfl, q⟩ | ⟨rfl, q⟩ <;> exact ⟨xs, x, q, h⟩
theorem StandsAs.stop {K : PySem.W.Frag} {a : Addr} {xs : List V} {J : It} {H : Hp} {i : Nat} (s : StandsAs K a xs J H) (h : xs.length ≤ i) : J.stop i H := by
  rcases s with ⟨rfl, q⟩ | ⟨rfl, q⟩ <;> exact ⟨xs, q, h⟩
theorem StandsAs.yld {K : PySem.W.Frag} {a : Addr} {xs : List V} {J : It} {H H' : Hp} {i : Nat} {x : V} (s : StandsAs K a xs J H) (h : J.yld i H x H') : H' = H ∧ xs[i]? = some x := by
  rcases s with ⟨rfl, q⟩ | ⟨rfl, q⟩ <;> exact ⟨h.1, h.2 xs q⟩
theorem turn_by {α : Type} {K : PySem.W.Frag} {ad : Addr} {xs : List V} {J : It} {n0 : Nat} {g : TG} {tt : TT} {te : TE} {Out : α → V → Hp → (α → Hp → Prop) → Prop} {Fin : α → Hp → Prop} (Pv : α → Nat → Hp → Prop)
    (stands : ∀ a i H, Pv a i H → StandsAs K ad xs J H)
    (step : ∀ a i x H, xs[i]? = some x → Pv a i H → g x (nones n0) H fun σ2 H2 => tt σ2 H2 fun b H3 => if b = true then te σ2 H3 fun y H4 => Out a y H4 (fun a' H' => Pv a' (i + 1) H') else Pv a (i + 1) H3)
    (done : ∀ a H, Pv a xs.length H → Fin a H) : TurnOf J n0 g tt te Out Fin (fun a i m H => m = xs.length - i ∧ i ≤ xs.length ∧ Pv a i H) := by
  rintro a i m H ⟨rfl, hi, p⟩
  have s := stands a i H p
  by_cases hlt : i < xs.length
  · refine .inr ⟨s.go (List.getElem?_eq_getElem hlt), fun a' H' => Pv a' (i + 1) H', fun a' H' p' => ⟨xs.length - (i + 1), by omega, rfl, hlt, p'⟩, fun x H' y => ?_⟩
    obtain ⟨rfl, hx⟩ := s.yld y
    exact step a i x _ hx p
  · have e : i = xs.length := by omega
    subst e
    exact .inl ⟨s.stop (Nat.le_refl _), done a H p⟩
end CL
set_option Elab.async false
set_option linter.all false
set_option maxRecDepth 100000
set_option maxHeartbeats 1000000
namespace CL
open PySem PySem.Spec PyProof.Rows L2 GE
def topS (i : Nat) : Stmt := PySem.Challenge.pw_comersline_k46_texts_of_no_plan.main.body.getD i (.Pass ⟨0, 0, 0, 0⟩)
abbrev sWhole : Stmt := topS 26
abbrev sRow : Stmt := topS 27
abbrev sPat : Stmt := topS 31
abbrev sTurns : Stmt := topS 32
abbrev sPiece : Stmt := topS 33
abbrev sPlan : Stmt := topS 34
theorem scWhole : FnScope ["thing"] ["thing"] (defScope sWhole) := ⟨rfl, rfl, rfl, by decide +kernel, rfl, by decide +kernel, by decide +kernel⟩
theorem scRow : FnScope ["thing"] ["thing"] (defScope sRow) := ⟨rfl, rfl, rfl, by decide +kernel, rfl, by decide +kernel, by decide +kernel⟩
theorem scPat : FnScope ["thing"] ["thing"] (defScope sPat) := ⟨rfl, rfl, rfl, by decide +kernel, rfl, by decide +kernel, by decide +kernel⟩
theorem scTurns : FnScope ["thing"] ["thing"] (defScope sTurns) := ⟨rfl, rfl, rfl, by decide +kernel, rfl, by decide +kernel, by decide +kernel⟩
theorem scPiece : FnScope ["thing"] ["thing"] (defScope sPiece) := ⟨rfl, rfl, rfl, by decide +kernel, rfl, by decide +kernel, by decide +kernel⟩
theorem scPlan : FnScope ["thing"] ["thing"] (defScope sPlan) := ⟨rfl, rfl, rfl, by decide +kernel, rfl, by decide +kernel, by decide +kernel⟩

/-- a def whose code object is known -/
structure FunC (K : PySem.W.Frag) (x qual : Str) (st : Stmt) (f : Addr) (fd : FuncData) (c : Addr) : Prop where
  ex : ∃ (oc : Value) (od : Option Addr) (kV doc pm : Value) (an : Option Addr) (ct : Value) (osl : Array (Option Value)),
    fd = PySem.W.fnOf x qual (defArgs st) (defBody st) (defScope st) .none kV doc pm an (.ref c) ct ∧ K.lookup f = some ⟨oc, od, .func fd, osl⟩ ∧ PySem.W.codeIn K (.ref c) qual = true
  kp : PySem.W.keepIn K (.ref f) = true
theorem FunC.ok {P : Program} {w : World} {K : PySem.W.Frag} {mg : Str → Option Value} {base : Heap} {x qual : Str} {st : Stmt} {f c : Addr} {fd : FuncData} {N ps : List Str} {k : Nat} {sp : Sp} (F : FunC K x qual st f fd c) (S : FnScope N ps (defScope st)) (len : ∀ vs H Q E, sp vs H Q E → vs.length = ps.length)
    (hbody : ∀ (A : Around) (outer : List Env) (s : Shared) (H : Hp) (vs : List V) (Q : VK) (E : XK), Room k (A.deeper (envOfC qual (defScope st) s.heap.objs.size f (.ref c))) → sp vs H Q E →
      ∃ t, PSs (cxOf CX0 P w K mg base N qual (defScope st) f (.ref c) A outer s H E).nox (defBody st) t ∧ t { nx := fun _ H' => Q .non H', rt := Q } (start N vs) H) : FnOk P w K mg base CX0 (k + 1) f fd ps sp := by
  obtain ⟨oc, od, kV, doc, pm, an, ct, osl, rfl, lk, hcd⟩ := F.ex
  refine fn_of lk hcd S len fun A outer s H vs Q E hr hsp => ?_
  obtain ⟨t, h, q⟩ := hbody A outer s H vs Q E hr hsp
  exact ⟨t, h.nox, q⟩
/-- a def that may be called by its name -/
structure Cal (P : Program) (w : World) (K : PySem.W.Frag) (mg : Str → Option Value) (base : Heap) (k : Nat) (x : Str) (ps : List Str) (sp : Sp) : Prop where
  ex : ∃ f fd, mg x = some (.ref f) ∧ PySem.W.keepIn K (.ref f) = true ∧ Binds K fd ps [] ∧ FnOk P w K mg base CX0 k f fd ps sp
theorem pe_cal {X : Cx} {k : Nat} {x : Str} {ps : List Str} {sp : Sp} {p pos : Pos} {e : Expr} {es : List Expr} {t : TA} (C : Cal X.prog X.w X.K X.mg X.base k x ps sp) (hr : Room k X.A) (hg : Gl X x) (ha : PA X (e :: es) t) (hdb : (x == ("__debug__" : Str)) = false := by decide)
    (he : starEach (e :: es) X.env = (false, eval e X.env) :: starEach es X.env := by rfl) (hpl : (backTo pos (starEach es X.env)).any (·.1) = false := by rfl) : PE X (.Call (.Name x p) (e :: es) [] pos) (tCall sp [] E0 t) := by
  obtain ⟨f, fd, h1, h2, h3, h4⟩ := C.ex
  exact pe_call h4 hr hg h1 h2 h3 .nil pass0 ha hdb he hpl
theorem Cal.mono {P : Program} {w : World} {K : PySem.W.Frag} {mg : Str → Option Value} {base : Heap} {j k : Nat} {x : Str} {ps : List Str} {sp : Sp} (C : Cal P w K mg base j x ps sp) (h : j ≤ k) : Cal P w K mg base k x ps sp := by
  obtain ⟨f, fd, h1, h2, h3, h4⟩ := C.ex
  exact ⟨f, fd, h1, h2, h3, h4.mono h⟩
/-- names that are still the built-in ones, and constants -/
structure Nm (mg : Str → Option Value) : Prop where
  isi : mg "isinstance" = none
  len : mg "len" = none
  all : mg "all" = none
  any : mg "any" = none
  sum : mg "sum" = none
  int : mg "int" = none
  bool : mg "bool" = none
  list : mg "list" = none
  tuple : mg "tuple" = none
  great : ∃ t, mg "GREATEST" = some (.int GREAT t)
  longest : ∃ t, mg "LONGEST" = some (.int 8 t)
/-- the tables of the two defs that hold generator expressions -/
def Tb (P1 P2 : Addr) (H : Hp) : Prop := GxR.TabG H P1 ∧ GxR.TabG H P2
theorem tabG_same {P : Addr} {H H' : Hp} (s : Same H H') (h : GxR.TabG H P) : GxR.TabG H' P := by
  obtain ⟨ps, e, t⟩ := h
  exact ⟨ps, s _ _ e, t⟩
theorem Tb.same {P1 P2 : Addr} {H H' : Hp} (s : Same H H') (h : Tb P1 P2 H) : Tb P1 P2 H' := ⟨tabG_same s h.1, tabG_same s h.2⟩
theorem ex_tabbed {P : Addr} {H H' : Hp} (g : GxR.TabG H P) (t : GxR.Tabbed P H H') : Ex H H' := fun b o e => by
  by_cases hb : b = P
  · subst hb
    obtain ⟨ps, h1, _⟩ := g
    obtain ⟨⟨qs, h2, hq⟩, _⟩ := t
    rw [h1] at e
    cases e
    exact .inr ⟨ps, qs, rfl, h2, hq⟩
  · exact .inl (by rw [t.2 b hb]; exact e)
theorem tabG_ex {P : Addr} {H H' : Hp} (h : GxR.TabG H P) (e : Ex H H') : GxR.TabG H' P := by
  obtain ⟨ps, h1, h2⟩ := h
  rcases e P _ h1 with q | ⟨_, qs, _, q, t⟩
  · exact ⟨ps, q, h2⟩
  · exact ⟨qs, q, t⟩
theorem Tb.tab1 {P1 P2 : Addr} {H H' : Hp} (h : Tb P1 P2 H) (t : GxR.Tabbed P1 H H') : Tb P1 P2 H' := ⟨t.1, by
  by_cases hb : P2 = P1
  · rw [hb]; exact t.1
  · obtain ⟨ps, e, q⟩ := h.2
    exact ⟨ps, by rw [t.2 P2 hb]; exact e, q⟩⟩
theorem Tb.tab2 {P1 P2 : Addr} {H H' : Hp} (h : Tb P1 P2 H) (t : GxR.Tabbed P2 H H') : Tb P1 P2 H' := ⟨by
  by_cases hb : P1 = P2
  · rw [hb]; exact t.1
  · obtain ⟨ps, e, q⟩ := h.1
    exact ⟨ps, by rw [t.2 P1 hb]; exact e, q⟩, t.1⟩
def spOne (g : PyData → Bool) : Sp := fun vs H Q _ => ∃ v d, vs = [v] ∧ Rp H v d ∧ ∀ H', Same H H' → Q (.bl (g d)) H'
def spTab (P1 P2 : Addr) (g : PyData → Bool) : Sp := fun vs H Q _ => ∃ v d, vs = [v] ∧ Rp H v d ∧ Tb P1 P2 H ∧ ∀ H', Ex H H' → Tb P1 P2 H' → Q (.bl (g d)) H'
theorem spOne_len {g : PyData → Bool} : ∀ vs H Q E, spOne g vs H Q E → vs.length = 1 := fun vs H Q E ⟨v, d, e, _⟩ => by rw [e]; rfl
theorem spTab_len {P1 P2 : Addr} {g : PyData → Bool} : ∀ vs H Q E, spTab P1 P2 g vs H Q E → vs.length = 1 := fun vs H Q E ⟨v, d, e, _⟩ => by rw [e]; rfl
section
variable {P : Program} {w : World} {K : PySem.W.Frag} {mg : Str → Option Value} {base : Heap}
theorem ok_whole {f : Addr} {fd : FuncData} (F : Fun K "is_whole" "is_whole" sWhole f fd) (T : Nm mg) : FnOk P w K mg base CX0 1 f fd ["thing"] (spOne isWhole) := by
  refine F.ok scWhole spOne_len (fun cdv A outer s H vs Q E hr h => ?_)
  obtain ⟨v, d, rfl, hR, q⟩ := h
  refine ⟨_, pss_one (ps_ret (pe_and (pe_callB call_isi (by rfl) T.isi (by decide +kernel) (pa_cons (pv 0) (pa_cons (pe_bltn (v := .ty "int") (by rfl) T.int PyProof.Rows.boot_int rfl) pa_nil)))
    (pe_one (pe_not (pe_callB call_isi (by rfl) T.isi (by decide +kernel) (pa_cons (pv 0) (pa_cons (pe_bltn (v := .ty "bool") (by rfl) T.bool PyProof.Rows.boot_bool rfl) pa_nil))))))), ?_⟩
  refine ⟨v, rfl, v, .ty "int", _, _, isIntB d, rfl, .ty _, hR.ty, kit_int d, isIntB d, rfl, ite2 (fun e => ?_) (fun e => ?_)⟩
  · refine ⟨v, rfl, v, .ty "bool", _, _, isBoolB d, rfl, .ty _, hR.ty, kit_bool d, isBoolB d, rfl, ?_⟩
    have z : (!isBoolB d) = isWhole d := by cases d <;> first | rfl | (exact absurd e Bool.false_ne_true)
    rw [z]
    exact q H (Same.refl H)
  · have z : isWhole d = false := by cases d <;> first | rfl | (exact absurd rfl e)
    have q' := q H (Same.refl H)
    rw [z] at q'
    exact q'
theorem ok_row {f : Addr} {fd : FuncData} (F : Fun K "is_row" "is_row" sRow f fd) (T : Nm mg) : FnOk P w K mg base CX0 1 f fd ["thing"] (spOne isRow) := by
  refine F.ok scRow spOne_len (fun cdv A outer s H vs Q E hr h => ?_)
  obtain ⟨v, d, rfl, hR, q⟩ := h
  refine ⟨_, pss_one (ps_ret (pe_callB call_isiT (by rfl) T.isi (by decide +kernel) (pa_cons (pv 0) (pa_cons (pe_tup (pa_cons (pe_bltn (v := .ty "list") (by rfl) T.list PyProof.Rows.boot_list rfl) (pa_cons (pe_bltn (v := .ty "tuple") (by rfl) T.tuple PyProof.Rows.boot_tuple rfl) pa_nil))) pa_nil)))), ?_⟩
  refine ⟨v, rfl, by show 2 ≤ sizeLine; decide, fun p np => ⟨v, p, [.ty "list", .ty "tuple"], _, _, isRow d, rfl, upd_same, .cons (.ty _) (.cons (.ty _) .nil), (Rp.ex (Ex.new np) d v hR).ty, kit_rows d, q _ (same_upd np)⟩⟩
theorem ok_pat {f : Addr} {fd : FuncData} (F : Fun K "is_patience" "is_patience" sPat f fd) (T : Nm mg) (CW : Cal P w K mg base 1 "is_whole" ["thing"] (spOne isWhole)) : FnOk P w K mg base CX0 2 f fd ["thing"] (spOne isPatience) := by
  refine F.ok scPat spOne_len (fun cdv A outer s H vs Q E hr h => ?_)
  obtain ⟨v, d, rfl, hR, q⟩ := h
  obtain ⟨tg, hgr⟩ := T.great
  refine ⟨_, pss_one (ps_ret (pe_or (pe_cmp (pc_isN (pv 0)) rfl) (pe_one (pe_and (pe_cal CW hr (by rfl) (pa_cons (pv 0) pa_nil))
    (pe_one (pe_chain op_le op_le pe_int (pv 0) (pe_glob (v := .int GREAT) (by rfl) hgr ⟨_, rfl⟩))))))), ?_⟩
  refine ⟨v, rfl, decide (v = .non), rfl, ite2 (fun e => ?_) (fun e => ?_)⟩
  · have ev : v = .non := of_decide_eq_true e
    subst ev
    cases hR
    exact q H (Same.refl H)
  · have nv : v ≠ .non := fun z => e (decide_eq_true z)
    refine ⟨v, rfl, v, d, rfl, hR, fun H1 s1 => ⟨isWhole d, rfl, ite2 (fun e2 => ?_) (fun e2 => ?_)⟩⟩
    · cases hR with
      | int i =>
        refine ⟨.int i, rfl, 0, i, rfl, rfl, decide (0 ≤ i), rfl, ite2 (fun e3 => ?_) (fun e3 => ?_)⟩
        · refine ⟨i, GREAT, rfl, rfl, ?_⟩
          have q' := q H1 s1
          have z : isPatience (.int i) = decide (i ≤ GREAT) := by
            show (decide (0 ≤ i) && decide (i ≤ GREAT)) = _
            rw [e3, Bool.true_and]
          rw [z] at q'
          exact q'
        · have q' := q H1 s1
          have z : isPatience (.int i) = false := by
            show (decide (0 ≤ i) && decide (i ≤ GREAT)) = _
            rw [Bool.eq_false_iff.mpr e3, Bool.false_and]
          rw [z] at q'
          exact q'
      | _ => exact absurd e2 Bool.false_ne_true
    · have q' := q H1 s1
      have z : isPatience d = false := by
        cases hR with
        | non => exact absurd rfl nv
        | int i => exact absurd rfl e2
        | _ => rfl
      rw [z] at q'
      exact q'
end
end CL
set_option Elab.async false
set_option linter.all false
set_option maxRecDepth 100000
set_option maxHeartbeats 1000000
namespace CL
open PySem PySem.Spec PyProof.Rows L2 GE
theorem all_take {p : PyData → Bool} {ds : List PyData} {i : Nat} {d : PyData} (h : ds[i]? = some d) : (ds.take (i + 1)).all p = ((ds.take i).all p && p d) := by
  rw [List.take_add_one, h, List.all_append]
  simp
theorem any_take {p : PyData → Bool} {ds : List PyData} {i : Nat} {d : PyData} (h : ds[i]? = some d) : (ds.take (i + 1)).any p = ((ds.take i).any p || p d) := by
  rw [List.take_add_one, h, List.any_append]
  simp
theorem all_false {p : PyData → Bool} {ds : List PyData} {i : Nat} {d : PyData} (h : ds[i]? = some d) (e : p d = false) : ds.all p = false := by
  rw [List.all_eq_false]
  exact ⟨d, List.mem_of_getElem? h, by rw [e]; exact Bool.false_ne_true⟩
theorem any_true {p : PyData → Bool} {ds : List PyData} {i : Nat} {d : PyData} (h : ds[i]? = some d) (e : p d = true) : ds.any p = true := by
  rw [List.any_eq_true]
  exact ⟨d, List.mem_of_getElem? h, e⟩
theorem rix_of {K : PySem.W.Frag} {H : Hp} {a : Addr} {xs : List V} {i : Nat} {v : V} {Q : VK} (s : StSeq H a xs) (e : xs[i]? = some v) (q : Q v H) : rIx K (.ref a) (.int (i : Int)) H Q := by
  rcases s.or with h | h
  · exact .inl ⟨a, xs, (i : Int), v, rfl, rfl, SqL.of h, atI_nat e, q⟩
  · exact .inr (.inl ⟨a, xs, (i : Int), v, rfl, rfl, SqT.of h, atI_nat e, q⟩)
theorem name_yes {i : Nat} {x : V} {σ : L2.St} {H : Hp} {A B : L2.St → Hp → Prop} (h : A (σ.set i (some x)) H) : gName i x σ H (fun σ2 H2 => tYes σ2 H2 fun b H3 => if b = true then A σ2 H3 else B σ2 H3) := by
  show if true = true then A (σ.set i (some x)) H else B (σ.set i (some x)) H
  exact iteT h
theorem nd1 {x : Str} : [x].Nodup := by simp
section
variable {P : Program} {w : World} {K : PySem.W.Frag} {mg : Str → Option Value} {base : Heap}
theorem ok_turns {f c P1 P2 : Addr} {fd : FuncData} (F : FunC K "is_turns" "is_turns" sTurns f fd c) (T : Nm mg) (TB : GxR.TabB base mg c P1) (CR : Cal P w K mg base 1 "is_row" ["thing"] (spOne isRow)) (CP : Cal P w K mg base 2 "is_patience" ["thing"] (spOne isPatience)) :
    FnOk P w K mg base CX0 4 f fd ["thing"] (spTab P1 P2 isTurns) := by
  refine F.ok scTurns spTab_len (fun A outer s H vs Q E hr h => ?_)
  obtain ⟨v, d, rfl, hR, hT, q⟩ := h
  obtain ⟨tl, hlo⟩ := T.longest
  refine ⟨_, pss_one (ps_ret (pe_and (pe_cal (CR.mono (by decide)) hr (by rfl) (pa_cons (pv 0) pa_nil))
    (pe_and (pe_chain op_le op_le pe_int (pe_callB call_len_seq (by rfl) T.len PySem.boot_len (pa_cons (pv 0) pa_nil)) (pe_glob (v := .int 8) (by rfl) hlo ⟨_, rfl⟩))
      (pe_one (pe_allG (N := ["patience"]) hr (by rfl) T.all TB rfl (by exact ⟨rfl, rfl, by decide +kernel, rfl⟩) (pi_seq (pv 0))
        (fun A s H C code fp pn rY => pg_name (i := 0) nd1 rfl (.inl rfl) (.inr rfl)) (fun A s H C code fp pn rY => pts_nil)
        (fun A s H C code fp pn rY => pe_cal CP rY (by rfl) (pa_cons (pv 0) pa_nil))))))), ?_⟩
  refine ⟨v, rfl, v, d, rfl, hR, fun H1 s1 => ⟨isRow d, rfl, ite2 (fun e => ?_) (fun e => ?_)⟩⟩
  · obtain ⟨ds, hds⟩ : ∃ ds, rowsD d = some ds := Option.isSome_iff_exists.mp e
    obtain ⟨a, xs, rfl, hA, hso⟩ := (Rp.ex (Ex.of s1) d v hR).rows hds
    have hst : StSeq H1 a xs := ⟨hso⟩
    have hlen := hA.length
    have val : isTurns d = (decide (1 ≤ ds.length) && decide (ds.length ≤ 8) && ds.all isPatience) := by
      unfold isTurns
      rw [hds]
    have hT1 := hT.same s1
    have no : ∀ {H2 : Hp}, Ex H1 H2 → Tb P1 P2 H2 → isTurns d = false → Q (.bl false) H2 := fun {H2} e2 t2 z => by
      have q' := q H2 ((Ex.of s1).trans e2) t2
      rw [z] at q'
      exact q'
    refine ⟨.ref a, rfl, a, xs, rfl, hst.sq, 1, xs.length, rfl, rfl, decide ((1 : Int) ≤ xs.length), rfl, ite2 (fun e1 => ?_) (fun e1 => ?_)⟩
    · refine ⟨xs.length, 8, rfl, rfl, decide ((xs.length : Int) ≤ 8), rfl, ite2 (fun e2 => ?_) (fun e2 => ?_)⟩
      · have l1 : 1 ≤ ds.length := by have := of_decide_eq_true e1; omega
        have l2 : ds.length ≤ 8 := by have := of_decide_eq_true e2; omega
        refine ⟨.ref a, rfl, a, xs, rfl, hst, fun J hJ => ⟨hT1.1, fun H2 tb => ⟨_, ⟨xs.length, rfl, Nat.zero_le _, ex_tabbed hT1.1 tb, hT1.tab1 tb, rfl⟩, turn_by (xs := xs) (fun _ i H => Ex H1 H ∧ Tb P1 P2 H ∧ (ds.take i).all isPatience = true)
          (fun _ i H ⟨eH, _, _⟩ => hJ H eH) (fun _ i x H hx ⟨eH, tH, aH⟩ => ?_) (fun _ H ⟨eH, tH, aH⟩ => ?_)⟩⟩⟩
        · obtain ⟨dx, hdx, hRx⟩ := hA.get hx
          refine name_yes ?_
          refine ⟨x, rfl, x, dx, rfl, Rp.ex eH dx x hRx, fun H4 s4 => ⟨isPatience dx, rfl, ite2 (fun e4 => ?_) (fun e4 => ?_)⟩⟩
          · exact ⟨eH.trans (Ex.of s4), tH.same s4, by rw [all_take hdx, aH, e4]; rfl⟩
          · refine no (eH.trans (Ex.of s4)) (tH.same s4) ?_
            rw [val, all_false hdx (Bool.eq_false_iff.mpr e4), Bool.and_false]
        · have q' := q H ((Ex.of s1).trans eH) tH
          rw [hlen, List.take_length] at aH
          rw [val, aH, decide_eq_true l1, decide_eq_true l2] at q'
          exact q'
      · refine no (Ex.refl H1) hT1 ?_
        have l2 : ¬ ds.length ≤ 8 := fun z => e2 (decide_eq_true (by omega))
        rw [val, decide_eq_false l2, Bool.and_false, Bool.false_and]
    · refine ⟨false, rfl, iteF (no (Ex.refl H1) hT1 ?_)⟩
      have l1 : ¬ 1 ≤ ds.length := fun z => e1 (decide_eq_true (by omega))
      rw [val, decide_eq_false l1, Bool.false_and, Bool.false_and]
  · have z : isTurns d = false := by
      unfold isTurns
      cases hds : rowsD d with
      | none => rfl
      | some ds => exact absurd (by unfold isRow; rw [hds]; rfl) e
    have q' := q H1 (Ex.of s1) (hT.same s1)
    rw [z] at q'
    exact q'
theorem two_of {α : Type} {xs : List α} (h : xs.length = 2) : ∃ x y, xs = [x, y] := match xs, h with
  | [x, y], _ => ⟨x, y, rfl⟩
theorem isPiece_two {d t m : PyData} (h : rowsD d = some [t, m]) : isPiece d = (isTurns t && isMany m) := by
  unfold isPiece
  rw [h]
theorem isPiece_not {d : PyData} {ds : List PyData} (h : rowsD d = some ds) (n : ds.length ≠ 2) : isPiece d = false := by
  unfold isPiece
  rw [h]
  match ds, n with
  | [], _ => rfl
  | [_], _ => rfl
  | [_, _], n => exact absurd rfl n
  | _ :: _ :: _ :: _, _ => rfl
theorem ok_piece {f P1 P2 : Addr} {fd : FuncData} (F : Fun K "is_piece" "is_piece" sPiece f fd) (T : Nm mg) (CW : Cal P w K mg base 1 "is_whole" ["thing"] (spOne isWhole)) (CR : Cal P w K mg base 1 "is_row" ["thing"] (spOne isRow)) (CT : Cal P w K mg base 4 "is_turns" ["thing"] (spTab P1 P2 isTurns)) :
    FnOk P w K mg base CX0 5 f fd ["thing"] (spTab P1 P2 isPiece) := by
  refine F.ok scPiece spTab_len (fun cdv A outer s H vs Q E hr h => ?_)
  obtain ⟨v, d, rfl, hR, hT, q⟩ := h
  refine ⟨_, pss_cons (ps_if (PW.pt (pw_or (pt_not (pt_val (pe_cal (CR.mono (by decide)) hr (by rfl) (pa_cons (pv 0) pa_nil))))
      (pw_or (pt_cmpR op_ne (pe_callB call_len_seq (by rfl) T.len PySem.boot_len (pa_cons (pv 0) pa_nil)) pe_int (nomark _))
        (pw_or1 (pt_not (pt_val (pe_cal CT hr (by rfl) (pa_cons (pe_ix ix_seq (pv 0) pe_int (fun _ _ => rfl)) pa_nil)))))))) (pss_one (ps_ret pe_bl)) pss_nil)
    (pss_one (ps_ret (pe_or (pe_cmp (pc_isN (pe_ix ix_seq (pv 0) pe_int (fun _ _ => rfl))) rfl)
      (pe_one (pe_and (pe_cal (CW.mono (by decide)) hr (by rfl) (pa_cons (pe_ix ix_seq (pv 0) pe_int (fun _ _ => rfl)) pa_nil)) (pe_one (pe_cmpR op_ge (pe_ix ix_seq (pv 0) pe_int (fun _ _ => rfl)) pe_int (nomark _)))))))), ?_⟩
  refine ⟨v, rfl, v, d, rfl, hR, fun H1 s1 => ⟨isRow d, rfl, ?_⟩⟩
  have hT1 := hT.same s1
  have at_ : ∀ {H2 : Hp} {b : Bool}, Ex H1 H2 → Tb P1 P2 H2 → isPiece d = b → Q (.bl b) H2 := fun {H2 b} e2 t2 z => by
    have q' := q H2 ((Ex.of s1).trans e2) t2
    rw [z] at q'
    exact q'
  cases hds : rowsD d with
  | none =>
    have e0 : isRow d = false := by unfold isRow; rw [hds]; rfl
    rw [e0]
    exact iteT (iteT (at_ (Ex.refl H1) hT1 (by unfold isPiece; rw [hds])))
  | some ds =>
    have e0 : isRow d = true := by unfold isRow; rw [hds]; rfl
    rw [e0]
    obtain ⟨a, xs, rfl, hA, hso⟩ := (Rp.ex (Ex.of s1) d v hR).rows hds
    have hst : StSeq H1 a xs := ⟨hso⟩
    have hlen := hA.length
    refine iteF ⟨.ref a, rfl, a, xs, rfl, hst.sq, rfl, _, rfl, ?_⟩
    by_cases h2 : ds.length = 2
    · have e1 : decide (V.int (xs.length : Int) = V.int 2) = true := decide_eq_true (by rw [hlen, h2]; rfl)
      refine ite2 (fun z => absurd z (by rw [e1]; exact Bool.false_ne_true)) (fun _ => ?_)
      obtain ⟨t, m, rfl⟩ := two_of h2
      obtain ⟨vt, vm, rfl⟩ := two_of (hlen.trans h2)
      cases hA with
      | cons ht hA2 =>
        cases hA2 with
        | cons hm _ =>
          refine ⟨.ref a, rfl, rix_of (i := 0) hst rfl ⟨vt, t, rfl, ht, hT1, fun H2 e2 t2 => ⟨isTurns t, rfl, ?_⟩⟩⟩
          have val := isPiece_two hds
          cases ht2 : isTurns t with
          | false => exact iteT (at_ e2 t2 (by rw [val, ht2]; rfl))
          | true =>
            refine iteF ⟨.ref a, rfl, rix_of (i := 1) (hst.ex e2) rfl ⟨decide (vm = .non), rfl, ite2 (fun e3 => ?_) (fun e3 => ?_)⟩⟩
            · have ev : vm = .non := of_decide_eq_true e3
              subst ev
              cases hm
              exact at_ e2 t2 (by rw [val, ht2]; rfl)
            · have nv : vm ≠ .non := fun z => e3 (decide_eq_true z)
              refine ⟨.ref a, rfl, rix_of (i := 1) (hst.ex e2) rfl ⟨vm, m, rfl, Rp.ex e2 m vm hm, fun H3 s3 => ⟨isWhole m, rfl, ite2 (fun e4 => ?_) (fun e4 => ?_)⟩⟩⟩
              · cases hm with
                | int i =>
                  refine ⟨.ref a, rfl, rix_of (i := 1) ((hst.ex e2).ex (Ex.of s3)) rfl ⟨i, 0, rfl, rfl, at_ (e2.trans (Ex.of s3)) (t2.same s3) ?_⟩⟩
                  rw [val, ht2]
                  rfl
                | _ => exact absurd e4 Bool.false_ne_true
              · refine at_ (e2.trans (Ex.of s3)) (t2.same s3) ?_
                rw [val, ht2]
                cases hm with
                | non => exact absurd rfl nv
                | int i => exact absurd rfl e4
                | _ => rfl
    · have e1 : decide (V.int (xs.length : Int) = V.int 2) = false := decide_eq_false fun z => h2 (by have := V.int.inj z; omega)
      refine ite2 (fun _ => iteT (at_ (Ex.refl H1) hT1 (isPiece_not hds h2))) (fun z => absurd (by rw [e1]; rfl) z)
end
end CL
set_option Elab.async false
set_option linter.all false
set_option maxRecDepth 100000
set_option maxHeartbeats 2000000
namespace CL
open PySem PySem.Spec PyProof.Rows L2 GE
theorem piece_parts {d : PyData} (h : isPiece d = true) : ∃ t m, rowsD d = some [t, m] ∧ isTurns t = true ∧ isMany m = true := by
  unfold isPiece at h
  split at h
  · rename_i t m e
    rw [Bool.and_eq_true] at h
    exact ⟨t, m, e, h.1, h.2⟩
  · cases h
theorem sndD_two {d t m : PyData} (h : rowsD d = some [t, m]) : sndD d = m := by
  unfold sndD
  rw [h]
theorem rp_none {H : Hp} {v : V} {m : PyData} (h : Rp H v m) : decide (v = .non) = isNone m := by
  cases h <;> first | rfl | exact decide_eq_false nofun
theorem all_get {p : PyData → Bool} {ds : List PyData} {i : Nat} {d : PyData} (h : ds.all p = true) (e : ds[i]? = some d) : p d = true := List.all_eq_true.mp h d (List.mem_of_getElem? e)
theorem sum_step {ds : List PyData} {i : Nat} {d : PyData} (h : ds[i]? = some d) : sumSnd (ds.take (i + 1)) = sumSnd (ds.take i) + worth (sndD d) := by
  unfold sumSnd
  rw [List.take_add_one, h, List.map_append, List.sum_append]
  simp
theorem cut_last (xs : List V) : cutV xs none (some (-1)) = xs.take (xs.length - 1) := by
  unfold cutV
  have e0 : HT.sIx xs.length 0 none = 0 := rfl
  have e1 : HT.sIx xs.length xs.length (some (-1)) = xs.length - 1 := by
    show (if (-1 : Int) < 0 then ((-1 : Int) + (xs.length : Int)).toNat else min (-1 : Int).toNat xs.length) = _
    rw [if_pos (by decide)]
    omega
  rw [e0, e1, List.drop_zero, Nat.sub_zero]
theorem ix_gx {X : Cx} {A : Around} {N : List Str} {s : Shared} {H : Hp} {cenv : Env} {fp : List Addr} {pn : List (Addr × Obj)} : IxR (gx X A N s H cenv fp pn) (rIx X.K) := ix_seq
/-- the second of a piece that stands -/
theorem piece_at {H : Hp} {x : V} {d : PyData} (hp : isPiece d = true) (hR : Rp H x d) : ∃ b vt vm m, x = .ref b ∧ StSeq H b [vt, vm] ∧ Rp H vm m ∧ sndD d = m ∧ isMany m = true := by
  obtain ⟨t, m, e, _, hm⟩ := piece_parts hp
  obtain ⟨b, ys, rfl, hA, hso⟩ := hR.rows e
  obtain ⟨vt, vm, rfl⟩ := two_of hA.length
  cases hA with
  | cons h1 h2 =>
    cases h2 with
    | cons h3 _ => exact ⟨b, vt, vm, m, rfl, ⟨hso⟩, h3, sndD_two e, hm⟩
section
variable {P : Program} {w : World} {K : PySem.W.Frag} {mg : Str → Option Value} {base : Heap}
theorem ok_plan {f c P1 P2 : Addr} {fd : FuncData} (F : FunC K "is_plan" "is_plan" sPlan f fd c) (T : Nm mg) (TB : GxR.TabB base mg c P2) (CR : Cal P w K mg base 1 "is_row" ["thing"] (spOne isRow)) (CP : Cal P w K mg base 5 "is_piece" ["thing"] (spTab P1 P2 isPiece)) :
    FnOk P w K mg base CX0 7 f fd ["thing"] (spTab P1 P2 isPlan) := by
  refine F.ok scPlan spTab_len (fun A outer s H vs Q E hr h => ?_)
  obtain ⟨v, d, rfl, hR, hT, q⟩ := h
  obtain ⟨tl, hlo⟩ := T.longest
  obtain ⟨tg, hgr⟩ := T.great
  refine ⟨_, pss_cons (ps_if (PW.pt (pw_or (pt_not (pt_val (pe_cal (CR.mono (by decide)) hr (by rfl) (pa_cons (pv 0) pa_nil))))
      (pw_or1 (pt_not (pt_chain op_le op_le pe_int (pe_callB call_len_seq (by rfl) T.len PySem.boot_len (pa_cons (pv 0) pa_nil)) (pe_glob (v := .int 8) (by rfl) hlo ⟨_, rfl⟩)))))) (pss_one (ps_ret pe_bl)) pss_nil)
    (pss_cons (ps_if (pt_not (pt_val (pe_allG (N := ["piece"]) hr (by rfl) T.all TB rfl (by exact ⟨rfl, rfl, by decide +kernel, rfl⟩) (pi_seq (pv 0))
        (fun A s H C code fp pn rY => pg_name (i := 0) nd1 rfl (.inl rfl) (.inr rfl)) (fun A s H C code fp pn rY => pts_nil)
        (fun A s H C code fp pn rY => pe_cal CP rY (by rfl) (pa_cons (pv 0) pa_nil))))) (pss_one (ps_ret pe_bl)) pss_nil)
    (pss_cons (ps_if (pt_val (pe_anyG (N := ["piece"]) hr (by rfl) T.any TB rfl (by exact ⟨rfl, rfl, by decide +kernel, rfl⟩) (pi_seq (pe_slice (SlR.or sl_list sl_tup) (pv 0) po_none (po_some (pe_un un_neg pe_int))))
        (fun A s H C code fp pn rY => pg_name (i := 0) nd1 rfl (.inl rfl) (.inr rfl)) (fun A s H C code fp pn rY => pts_nil)
        (fun A s H C code fp pn rY => pe_cmp (pc_isN (pe_ix ix_gx (pv 0) pe_int (fun _ _ => rfl))) rfl))) (pss_one (ps_ret pe_bl)) pss_nil)
    (pss_one (ps_ret (pe_cmpR op_le (pe_sumG (N := ["piece"]) hr (by rfl) T.sum TB rfl (by exact ⟨rfl, rfl, by decide +kernel, rfl⟩) (pi_seq (pv 0))
        (fun A s H C code fp pn rY => pg_name (i := 0) nd1 rfl (.inl rfl) (.inr rfl)) (fun A s H C code fp pn rY => pts_one (pt_cmp (pc_notN (pe_ix ix_gx (pv 0) pe_int (fun _ _ => rfl)))))
        (fun A s H C code fp pn rY => pe_ix ix_gx (pv 0) pe_int (fun _ _ => rfl))) (pe_glob (v := .int GREAT) (by rfl) hgr ⟨_, rfl⟩) (nomark _)))))), ?_⟩
  refine ⟨v, rfl, v, d, rfl, hR, fun H1 s1 => ⟨isRow d, rfl, ?_⟩⟩
  have hT1 := hT.same s1
  have at_ : ∀ {H2 : Hp} {b : Bool}, Ex H1 H2 → Tb P1 P2 H2 → isPlan d = b → Q (.bl b) H2 := fun {H2 b} e2 t2 z => by
    have q' := q H2 ((Ex.of s1).trans e2) t2
    rw [z] at q'
    exact q'
  cases hds : rowsD d with
  | none =>
    have e0 : isRow d = false := by unfold isRow; rw [hds]; rfl
    rw [e0]
    exact iteT (iteT (at_ (Ex.refl H1) hT1 (by unfold isPlan; rw [hds])))
  | some ds =>
    have e0 : isRow d = true := by unfold isRow; rw [hds]; rfl
    rw [e0]
    obtain ⟨a, xs, rfl, hA, hso⟩ := (Rp.ex (Ex.of s1) d v hR).rows hds
    have hst : StSeq H1 a xs := ⟨hso⟩
    have hlen := hA.length
    have val : isPlan d = (decide (1 ≤ ds.length) && decide (ds.length ≤ 8) && ds.all isPiece && !((ds.take (ds.length - 1)).any fun d => isNone (sndD d)) && decide (sumSnd ds ≤ GREAT)) := by
      unfold isPlan
      rw [hds]
      rfl
    refine iteF ⟨.ref a, rfl, a, xs, rfl, hst.sq, 1, xs.length, rfl, rfl, decide ((1 : Int) ≤ xs.length), rfl, ite2 (fun e1 => ?_) (fun e1 => ?_)⟩
    · have l1 : 1 ≤ ds.length := by have := of_decide_eq_true e1; omega
      refine ⟨xs.length, 8, rfl, rfl, decide ((xs.length : Int) ≤ 8), rfl, ?_⟩
      by_cases l2 : ds.length ≤ 8
      · have e2 : decide ((xs.length : Int) ≤ 8) = true := decide_eq_true (by omega)
        rw [e2]
        refine iteF ?_
        -- all
        refine ⟨.ref a, rfl, a, xs, rfl, hst, fun J hJ => ⟨hT1.2, fun H2 tb => ⟨_, ⟨xs.length, rfl, Nat.zero_le _, ex_tabbed hT1.2 tb, hT1.tab2 tb, rfl⟩, turn_by (xs := xs) (fun _ i H => Ex H1 H ∧ Tb P1 P2 H ∧ (ds.take i).all isPiece = true)
          (fun _ i H ⟨eH, _, _⟩ => hJ H eH) (fun _ i x H hx ⟨eH, tH, aH⟩ => ?_) (fun _ H ⟨eH, tH, pH⟩ => ?_)⟩⟩⟩
        · obtain ⟨dx, hdx, hRx⟩ := hA.get hx
          refine name_yes ?_
          refine ⟨x, rfl, x, dx, rfl, Rp.ex eH dx x hRx, tH, fun H4 e4 t4 => ⟨isPiece dx, rfl, ite2 (fun e5 => ?_) (fun e5 => ?_)⟩⟩
          · exact ⟨eH.trans e4, t4, by rw [all_take hdx, aH, e5]; rfl⟩
          · refine ⟨false, rfl, iteT (at_ (eH.trans e4) t4 ?_)⟩
            rw [val, all_false hdx (Bool.eq_false_iff.mpr e5), Bool.and_false, Bool.false_and, Bool.false_and]
        · rw [hlen, List.take_length] at pH
          refine ⟨true, rfl, iteF ?_⟩
          have hA' : RpAll H1 (xs.take (xs.length - 1)) (ds.take (ds.length - 1)) := by
            have z := hA.take (xs.length - 1)
            rw [show ds.take (xs.length - 1) = ds.take (ds.length - 1) by rw [hlen]] at z
            exact z
          have hp' : (ds.take (ds.length - 1)).all isPiece = true := by
            rw [List.all_eq_true]
            intro y hy
            exact List.all_eq_true.mp pH y (List.mem_of_mem_take hy)
          have hl' : (xs.take (xs.length - 1)).length = (ds.take (ds.length - 1)).length := hA'.length
          -- the walk, wherever the cut stands
          have walk : ∀ (p : Addr) (H3 : Hp), StSeq H3 p (xs.take (xs.length - 1)) → Ex H1 H3 → Tb P1 P2 H3 → ∀ QB : Bool → Hp → Prop,
              (∀ H', Ex H1 H' → Tb P1 P2 H' → QB ((ds.take (ds.length - 1)).any fun d => isNone (sndD d)) H') →
              ∀ J, (∀ H2, Ex H3 H2 → StandsAs K p (xs.take (xs.length - 1)) J H2) → GxR.TabG H3 P2 ∧ ∀ H2, GxR.Tabbed P2 H3 H2 →
                ∃ W : Unit → Nat → Nat → Hp → Prop, (∃ m, W () 0 m H2) ∧ TurnOf J 1 (gName 0) tYes (tIsN (tOp (rIx K) (tVar 0) (tC (.int 1)))) (outAny QB) (fun _ H => QB false H) W := by
            intro p H3 st3 e3 t3 QB hQB J hJ
            refine ⟨t3.2, fun H2 tb => ⟨_, ⟨(xs.take (xs.length - 1)).length, rfl, Nat.zero_le _, ex_tabbed t3.2 tb, t3.tab2 tb, rfl⟩, turn_by (xs := xs.take (xs.length - 1)) (fun _ i H => Ex H3 H ∧ Tb P1 P2 H ∧ ((ds.take (ds.length - 1)).take i).any (fun d => isNone (sndD d)) = false)
              (fun _ i H ⟨eH, _, _⟩ => hJ H eH) (fun _ i x H hx ⟨eH, tH, aH⟩ => ?_) (fun _ H ⟨eH, tH, aH⟩ => ?_)⟩⟩
            · obtain ⟨dx, hdx, hRx⟩ := hA'.get hx
              obtain ⟨b, vt, vm, m, rfl, stb, hRm, hsn, _⟩ := piece_at (all_get hp' hdx) (Rp.ex (e3.trans eH) dx x hRx)
              refine name_yes ?_
              refine ⟨.ref b, rfl, rix_of (i := 1) stb rfl ⟨decide (vm = .non), rfl, ite2 (fun e5 => ?_) (fun e5 => ?_)⟩⟩
              · have z := hQB H (e3.trans eH) tH
                rw [any_true (p := fun d => isNone (sndD d)) hdx (by rw [hsn, ← rp_none hRm]; exact e5)] at z
                exact z
              · refine ⟨eH, tH, ?_⟩
                rw [any_take hdx, aH, hsn, ← rp_none hRm, Bool.eq_false_iff.mpr e5]
                rfl
            · rw [hl', List.take_length] at aH
              have z := hQB H (e3.trans eH) tH
              rw [aH] at z
              exact z
          -- the sum
          have sums : ∀ (H3 : Hp), Ex H1 H3 → Tb P1 P2 H3 → ∀ QI : Int → Hp → Prop, (∀ H', Ex H1 H' → Tb P1 P2 H' → QI (sumSnd ds) H') →
              ∀ J, (∀ H2, Ex H3 H2 → StandsAs K a xs J H2) → GxR.TabG H3 P2 ∧ ∀ H2, GxR.Tabbed P2 H3 H2 →
                ∃ W : Int → Nat → Nat → Hp → Prop, (∃ m, W 0 0 m H2) ∧ TurnOf J 1 (gName 0) (tB (tNotN (tOp (rIx K) (tVar 0) (tC (.int 1))))) (tOp (rIx K) (tVar 0) (tC (.int 1))) outSum (fun a H => QI a H) W := by
            intro H3 e3 t3 QI hQI J hJ
            refine ⟨t3.2, fun H2 tb => ⟨_, ⟨xs.length, rfl, Nat.zero_le _, ex_tabbed t3.2 tb, t3.tab2 tb, rfl⟩, turn_by (xs := xs) (fun z i H => Ex H3 H ∧ Tb P1 P2 H ∧ z = sumSnd (ds.take i))
              (fun _ i H ⟨eH, _, _⟩ => hJ H eH) (fun z i x H hx ⟨eH, tH, aH⟩ => ?_) (fun z H ⟨eH, tH, zH⟩ => ?_)⟩⟩
            · obtain ⟨dx, hdx, hRx⟩ := hA.get hx
              obtain ⟨b, vt, vm, m, rfl, stb, hRm, hsn, hmm⟩ := piece_at (all_get pH hdx) (Rp.ex (e3.trans eH) dx x hRx)
              refine ⟨.ref b, rfl, rix_of (i := 1) stb rfl ⟨!decide (vm = .non), rfl, ite2 (fun e5 => ?_) (fun e5 => ?_)⟩⟩
              · refine ⟨.ref b, rfl, rix_of (i := 1) stb rfl ?_⟩
                cases hRm with
                | int j => exact ⟨j, rfl, eH, tH, by rw [sum_step hdx, hsn, aH]; rfl⟩
                | non => exact absurd e5 (by decide)
                | _ => cases hmm
              · refine ⟨eH, tH, ?_⟩
                rw [sum_step hdx, hsn, aH]
                cases hRm with
                | non => exact (Int.add_zero _).symm
                | _ => exact absurd rfl e5
            · rw [hlen, List.take_length] at zH
              subst zH
              exact hQI H (e3.trans eH) tH
          have hst2 := hst.ex eH
          have fin : ∀ (H' : Hp), Ex H1 H' → Tb P1 P2 H' → ((ds.take (ds.length - 1)).any fun d => isNone (sndD d)) = false → isPlan d = decide (sumSnd ds ≤ GREAT) := fun H' _ _ z => by
            rw [val, decide_eq_true l1, decide_eq_true l2, pH, z]
            rfl
          have bad : ∀ (H' : Hp), Ex H1 H' → Tb P1 P2 H' → ((ds.take (ds.length - 1)).any fun d => isNone (sndD d)) = true → Q (.bl false) H' := fun H' e' t' z => at_ e' t' (by
            rw [val, z]
            simp)
          refine ⟨.ref a, rfl, 1, rfl, -1, rfl, ?_⟩
          rcases hst2.or with hq | hq
          · refine .inl ⟨a, xs, rfl, SqL.of hq, fun p np => ?_⟩
            have st3 : StSeq (upd H p (.lst (cutV xs none (some (-1))))) p (xs.take (xs.length - 1)) := ⟨.inl (by rw [upd_same, cut_last])⟩
            refine ⟨p, _, rfl, st3, walk p _ st3 (eH.trans (Ex.new np)) (tH.same (same_upd np)) _ fun H' e' t' => ?_⟩
            refine ⟨_, rfl, ite2 (fun e5 => bad H' e' t' e5) (fun e5 => ?_)⟩
            refine ⟨.ref a, rfl, a, xs, rfl, hst.ex e', sums H' e' t' _ fun H'' e'' t'' => ⟨sumSnd ds, GREAT, rfl, rfl, at_ e'' t'' (fin H'' e'' t'' (Bool.eq_false_iff.mpr e5))⟩⟩
          · refine .inr ⟨a, xs, rfl, SqT.of hq, ?_, fun p np => ?_⟩
            · intro z
              have z2 : HT.sIx xs.length xs.length (some (-1)) = xs.length - 1 := by
                show (if (-1 : Int) < 0 then ((-1 : Int) + (xs.length : Int)).toNat else min (-1 : Int).toNat xs.length) = _
                rw [if_pos (by decide)]
                omega
              have z3 := z.2
              rw [z2] at z3
              omega
            have st3 : StSeq (upd H p (.tup (cutV xs none (some (-1))))) p (xs.take (xs.length - 1)) := ⟨.inr (by rw [upd_same, cut_last])⟩
            refine ⟨p, _, rfl, st3, walk p _ st3 (eH.trans (Ex.new np)) (tH.same (same_upd np)) _ fun H' e' t' => ?_⟩
            refine ⟨_, rfl, ite2 (fun e5 => bad H' e' t' e5) (fun e5 => ?_)⟩
            refine ⟨.ref a, rfl, a, xs, rfl, hst.ex e', sums H' e' t' _ fun H'' e'' t'' => ⟨sumSnd ds, GREAT, rfl, rfl, at_ e'' t'' (fin H'' e'' t'' (Bool.eq_false_iff.mpr e5))⟩⟩
      · have e2 : decide ((xs.length : Int) ≤ 8) = false := decide_eq_false (by omega)
        rw [e2]
        refine iteT (at_ (Ex.refl H1) hT1 ?_)
        rw [val, decide_eq_false l2, Bool.and_false, Bool.false_and, Bool.false_and, Bool.false_and]
    · have l1 : ¬ 1 ≤ ds.length := fun z => e1 (decide_eq_true (by omega))
      refine ⟨false, rfl, iteT (at_ (Ex.refl H1) hT1 ?_)⟩
      rw [val, decide_eq_false l1, Bool.false_and, Bool.false_and, Bool.false_and, Bool.false_and]
end
end CL
set_option Elab.async false
set_option linter.all false
set_option maxRecDepth 100000
set_option maxHeartbeats 4000000
namespace CL
open PySem PySem.Spec PyProof.Rows L2 GE
theorem p18 : (10 : Int) ^ (18 : Int).toNat = 1000000000000000000 := by decide +kernel
theorem p30 : (10 : Int) ^ (30 : Int).toNat = GREAT := by decide +kernel
theorem same_ne {H H' : Hp} (s : Same H H') {p b : Addr} (np : H' p = none) (hb : H b ≠ none) : b ≠ p := fun z => by
  rw [z] at hb
  cases q : H p with
  | none => exact hb q
  | some o =>
    rw [s p o q] at np
    cases np
theorem ints_dp {K : PySem.W.Frag} {H : Hp} : ∀ gs : List Int, DpAll K H (gs.map V.int) (gs.map PyData.int)
  | [] => .nil
  | x :: gs => .cons (.int x) (ints_dp gs)
theorem ints_lay : ∀ gs : List Int, PyData.canLayAll0 (gs.map PyData.int) = true
  | [] => by simp [PyData.canLayAll0]
  | x :: gs => by
    have := ints_lay gs
    simp [PyData.canLayAll0, PyData.canLay0, this]
theorem ints_depth : ∀ gs : List Int, PyData.depthAll (gs.map PyData.int) = 0
  | [] => rfl
  | x :: gs => by
    have := ints_depth gs
    show max 0 (PyData.depthAll (gs.map PyData.int)) = 0
    rw [this]
    rfl
theorem ints_shaped (gs : List Int) : SeqAt.shaped (.list (gs.map PyData.int)) = true := by
  unfold SeqAt.shaped
  have h1 : PyData.canLay0 (.list (gs.map PyData.int)) = true := by
    have := ints_lay gs
    simp [PyData.canLay0, this]
  have h2 : PyData.depth (.list (gs.map PyData.int)) = 1 := by
    show PyData.depthAll (gs.map PyData.int) + 1 = 1
    rw [ints_depth]
  rw [h1, h2]
  rfl
theorem ints_take (gs : List Int) (k : Nat) : (gs.map V.int).take k = (gs.take k).map V.int := List.map_take.symm
theorem cut_to (xs : List V) (k : Nat) : cutV xs none (some (k : Int)) = xs.take k := by
  unfold cutV
  have e0 : HT.sIx xs.length 0 none = 0 := rfl
  have e1 : HT.sIx xs.length xs.length (some (k : Int)) = min k xs.length := HT.sIx_nat _ _ _
  rw [e0, e1, List.drop_zero, Nat.sub_zero]
  rcases Nat.le_total k xs.length with h | h
  · rw [Nat.min_eq_left h]
  · rw [Nat.min_eq_right h, List.take_of_length_le h, List.take_of_length_le (Nat.le_refl _)]
theorem cut_from (xs : List V) (k : Nat) : cutV xs (some (k : Int)) none = xs.drop k := by
  unfold cutV
  have e0 : HT.sIx xs.length 0 (some (k : Int)) = min k xs.length := HT.sIx_nat _ _ _
  have e1 : HT.sIx xs.length xs.length none = xs.length := rfl
  rw [e0, e1]
  rcases Nat.le_total k xs.length with h | h
  · rw [Nat.min_eq_left h]
    exact List.take_of_length_le (by rw [List.length_drop]; exact Nat.le_refl _)
  · rw [Nat.min_eq_right h, List.drop_of_length_le (Nat.le_refl _), List.drop_of_length_le h]
    simp
theorem small_add {a b : Nat} (ha : a ≤ 1000) (hb : b ≤ 1000) : a + b ≤ sizeLine := by
  have : 2000 ≤ sizeLine := by decide
  omega
theorem small_le {a : Nat} (ha : a ≤ 1000) : a ≤ sizeLine := by
  have : 1000 ≤ sizeLine := by decide
  omega
theorem yesT {σ : L2.St} {H : Hp} {A B : Hp → Prop} (h : A H) : tYes σ H (fun b H3 => if b = true then A H3 else B H3) := by
  show if true = true then A H else B H
  exact iteT h
open Classical in
noncomputable def Hw (W : Addr → Prop) (H : Hp) : Hp := fun b => if W b then none else H b
theorem Hw.at {W : Addr → Prop} {H : Hp} {b : Addr} (n : ¬ W b) : Hw W H b = H b := by
  unfold Hw
  rw [if_neg n]
theorem Hw.ne {W : Addr → Prop} {H : Hp} {b : Addr} {o : HO} (e : Hw W H b = some o) : ¬ W b := fun z => by
  unfold Hw at e
  rw [if_pos z] at e
  cases e
theorem Hw.sub (W : Addr → Prop) (H : Hp) : Same (Hw W H) H := fun b o e => by rw [Hw.at (Hw.ne e)] at e; exact e
theorem Hw.less {W W' : Addr → Prop} {H : Hp} (h : ∀ b, W b → W' b) : Same (Hw W' H) (Hw W H) := fun b o e => by
  rw [Hw.at fun z => Hw.ne e (h b z)]
  exact Hw.sub W' H b o e
theorem Hw.more {W W' : Addr → Prop} {H : Hp} (h : ∀ b, W' b → W b ∨ H b = none) : Same (Hw W H) (Hw W' H) := fun b o e => by
  have e1 := Hw.sub W H b o e
  rw [Hw.at fun z => (h b z).elim (Hw.ne e) fun q => by rw [q] at e1; cases e1]
  exact e1
theorem hw_upd {W : Addr → Prop} {a : Addr} {H : Hp} {o : HO} (h : W a) : Hw W (upd H a o) = Hw W H := by
  funext b
  by_cases hb : W b
  · unfold Hw
    rw [if_pos hb, if_pos hb]
  · rw [Hw.at hb, Hw.at hb, upd_ne fun z => hb (by rw [z]; exact h)]
theorem Same.hw {W : Addr → Prop} {H H' : Hp} (m : Same H H') : Same (Hw W H) (Hw W H') := fun b o e => by
  rw [Hw.at (Hw.ne e)]
  exact m b o (Hw.sub W H b o e)
theorem Rp.sm {H H' : Hp} (s : Same H H') {v : V} {d : PyData} (h : Rp H v d) : Rp H' v d := Rp.ex (Ex.of s) d v h
theorem RpAll.sm {H H' : Hp} (s : Same H H') {vs : List V} {ds : List PyData} (h : RpAll H vs ds) : RpAll H' vs ds := RpAll.ex (Ex.of s) ds vs h
theorem RpAll.snoc {H : Hp} : ∀ {vs : List V} {ds : List PyData} {v : V} {d : PyData}, RpAll H vs ds → Rp H v d → RpAll H (vs ++ [v]) (ds ++ [d])
  | _, _, _, _, .nil, h => .cons h .nil
  | _, _, _, _, .cons a b, h => .cons a (RpAll.snoc b h)
end CL
set_option Elab.async false
set_option linter.all false
set_option maxRecDepth 100000
set_option maxHeartbeats 4000000
namespace CL
open PySem PySem.Spec PyProof.Rows L2 GE
/-! ### a, b = a list or a tuple -/
def gSeq (K : PySem.W.Frag) (n : Nat) (t : TGs) : TG := fun v σ H Q => ∃ a xs, v = .ref a ∧ StSeq H a xs ∧ xs.length = n ∧ t xs σ H Q
theorem pg_seq {X : Cx} {pos : Pos} {es : List Expr} {k : Nat} {t : TGs} {n : Nat} (hc : X.calm = true) (h : PGs X es t) (hn : (assignEach es X.env).length = n := by rfl) (hst : (assignEach es X.env).findIdx? (·.1) = none := by rfl) :
    PG X (.Tuple es k pos) (gSeq X.K n t) := by
  refine ⟨fun pins s σ H v u Q I r hw => ?_⟩
  obtain ⟨a, xs, e, hs, hl, q⟩ := hw
  rcases hs.or with hq | hq
  · exact (pg_lst hc h hn hst).run pins s σ H v u Q I r ⟨a, xs, e, SqL.of hq, hl, q⟩
  · exact (pg_tup hc h hn hst).run pins s σ H v u Q I r ⟨a, xs, e, SqT.of hq, hl, q⟩
/-! ### for x in a list or a tuple -/
def iSeqW (K : PySem.W.Frag) (tl : TE) : TI := fun σ H R => tl σ H fun x H1 => ∃ a xs, x = .ref a ∧ StSeq H1 a xs ∧ ∀ J, (∀ H2, (∀ o, H1 a = some o → H2 a = some o) → StandsAs K a xs J H2) → R J H1
theorem pi_seqW {X : Cx} {tg l : Expr} {tl : TE} (hl : PE X l tl) : PI X tg l (iSeqW X.K tl) := by
  refine ⟨fun pins s σ H R I h => thn (hl.run pins s σ H _ I h) fun v s1 ⟨x, H1, I1, r1, a, xs, e, st, q⟩ => ?_⟩
  subst e
  cases r1
  have new : ∀ b ∈ [s1.heap.objs.size], FpOk X pins H1 b := fun b hb => by
    rw [List.mem_singleton.mp hb]
    exact I1.fpOk (Nat.le_refl _) (I1.hok.fresh (Nat.le_refl _))
  have kept := fun {o : Obj} => I1.kept (h' := s1.heap.push o) (t' := s1.toks) fun b o' e => Heap.get?_push_of_some _ e
  rcases st.or with hq | hq
  · obtain ⟨its, rv, p, hz⟩ := I1.list (SqL.of hq)
    exact wpAny_pyIter_list p.isList ⟨s1.heap.objs.size, [s1.heap.objs.size], _, _, H1, rfl, kept, turn_list a _, ⟨_, Heap.get?_push_size _ rfl, rfl, rfl⟩, new, q _ fun H2 e => .inl ⟨rfl, SqL.of (e _ hq)⟩⟩
  · obtain ⟨its, rv, p, hz⟩ := I1.tuple (SqT.of hq)
    exact wpAny_pyIter_tuple (show s1.heap.IsTuple a its.toArray from p) ⟨s1.heap.objs.size, [s1.heap.objs.size], _, _, H1, rfl, kept, turn_tuple a _, ⟨_, Heap.get?_push_size _ rfl, rfl, rfl⟩, new, q _ fun H2 e => .inr ⟨rfl, SqT.of (e _ hq)⟩⟩
theorem for_seq {K : PySem.W.Frag} {a : Addr} {xs : List V} {J : It} {g : TG} {tb : TS} {D : Ends} {σ : L2.St} {H : Hp} (Pv : Nat → L2.St → Hp → Prop) (h0 : Pv 0 σ H) (hl : ∀ i σ H, Pv i σ H → StandsAs K a xs J H)
    (hs : ∀ i x σ H, xs[i]? = some x → Pv i σ H → g x σ H fun σ2 H2 => tb { D with nx := Pv (i + 1), ct := Pv (i + 1), bk := D.nx } σ2 H2) (hd : ∀ σ H, Pv xs.length σ H → D.nx σ H) :
    ∃ W : Nat → Nat → L2.St → Hp → Prop, (∃ m, W 0 m σ H) ∧ ∀ i m σ H, W i m σ H →
      (J.stop i H ∧ D.nx σ H) ∨ (J.go i H ∧ ∃ N : L2.St → Hp → Prop, (∀ σ' H', N σ' H' → ∃ m', m' < m ∧ W (i + 1) m' σ' H') ∧ ∀ x H', J.yld i H x H' → g x σ H' fun σ2 H2 => tb { D with nx := N, ct := N, bk := D.nx } σ2 H2) := by
  refine ⟨fun i m σ H => m + i = xs.length ∧ Pv i σ H, ⟨xs.length, rfl, h0⟩, ?_⟩
  rintro i m σ H ⟨hm, p⟩
  have s := hl i σ H p
  cases m with
  | zero =>
    obtain rfl : i = xs.length := by omega
    exact .inl ⟨s.stop (Nat.le_refl _), hd σ H p⟩
  | succ m =>
    have lt : i < xs.length := by omega
    refine .inr ⟨s.go (List.getElem?_eq_getElem lt), Pv (i + 1), fun σ' H' p' => ⟨m, Nat.lt_succ_self m, by omega, p'⟩, fun x H' y => ?_⟩
    obtain ⟨rfl, hx⟩ := s.yld y
    exact hs i x σ _ hx p
/-! ### a class of refusals -/
structure ExcC (K : PySem.W.Frag) (mg : Str → Option Value) (x : Str) (C : Addr) : Prop where
  g : mg x = some (.ref C)
  x : PySem.W.excIn K C [.type "ValueError", .type "Exception", .type "BaseException", .type "object"] "ValueError.__new__" = true
  k : PySem.W.keepIn K (.ref C) = true
  b : PySem.W.subIn K (.ref C) (.type "BaseException") = some true
  t : PySem.W.typeIn K (.ref C) = some (.type "type")
/-! ### pieces_of -/
abbrev nPieces : List Str := ["plan", "pieces", "first", "turns", "many", "past"]
abbrev PieceT := Int × Option Int × List PyData
def optD : Option Int → PyData
  | some i => .int i
  | none => .none
def pieceD (x : PieceT) : PyData := .tuple [.int x.1, optD x.2.1, .tuple x.2.2]
def turnsD (d : PyData) : List PyData := match rowsD d with
  | some (t :: _) => (rowsD t).getD []
  | _ => []
def pastO (f : Int) : PyData → Option Int
  | .int m => some (f + m)
  | _ => none
def pcs : Int → List PyData → List PieceT
  | _, [] => []
  | f, d :: ds => (f, pastO f (sndD d), turnsD d) :: pcs (f + worth (sndD d)) ds
theorem pcs_snoc : ∀ (f : Int) (ds : List PyData) (d : PyData), pcs f (ds ++ [d]) = pcs f ds ++ [(f + sumSnd ds, pastO (f + sumSnd ds) (sndD d), turnsD d)]
  | f, [], d => by
    have e : f + sumSnd [] = f := Int.add_zero f
    rw [e]
    rfl
  | f, c :: ds, d => by
    have e : f + sumSnd (c :: ds) = f + worth (sndD c) + sumSnd ds := by
      show f + (worth (sndD c) + sumSnd ds) = _
      omega
    rw [e]
    show _ :: pcs _ (ds ++ [d]) = _ :: (pcs _ ds ++ _)
    rw [pcs_snoc]
def piecesOf (d : PyData) : List PieceT := pcs 0 ((rowsD d).getD [])
def spPieces (P1 P2 C : Addr) : Sp := fun vs H Q E => ∃ v d, vs = [v] ∧ Rp H v d ∧ Tb P1 P2 H ∧ (isPlan d = false → ∀ H', Ex H H' → Tb P1 P2 H' → E (.ref C) none H') ∧
  (isPlan d = true → ∀ p H', Ex H H' → Tb P1 P2 H' → H p = none → Rp H' (.ref p) (.list ((piecesOf d).map pieceD)) → Q (.ref p) H')
theorem piece_at2 {H : Hp} {x : V} {d : PyData} (hp : isPiece d = true) (hR : Rp H x d) : ∃ b vt vm t m, x = .ref b ∧ StSeq H b [vt, vm] ∧ Rp H vt t ∧ Rp H vm m ∧ rowsD d = some [t, m] ∧ isTurns t = true ∧ isMany m = true := by
  obtain ⟨t, m, e, ht, hm⟩ := piece_parts hp
  obtain ⟨b, xs, rfl, hA, ho⟩ := hR.rows e
  cases hA with
  | cons h1 h2 =>
    cases h2 with
    | cons h3 h4 =>
      cases h4
      exact ⟨b, _, _, t, m, rfl, ⟨ho⟩, h1, h3, e, ht, hm⟩
theorem pieces_put {D : Addr} {ys : List V} {H2 H3 : Hp} {vs : List V} (eD : H2 D = some (.lst vs)) (s3 : Same H2 H3) {p : Addr} (np : H3 p = none) : upd H3 p (.tup ys) D = some (.lst vs) ∧
    Same (Hw (fun b => b = D) H3) (Hw (fun b => b = D) (upd (upd H3 p (.tup ys)) D (.lst (vs ++ [.ref p])))) ∧ Hw (fun b => b = D) (upd (upd H3 p (.tup ys)) D (.lst (vs ++ [.ref p]))) p = some (.tup ys) := by
  have e3 := s3 D _ eD
  have npD : p ≠ D := fun z => by rw [z, e3] at np; cases np
  have e4 : upd H3 p (.tup ys) D = some (.lst vs) := by rw [upd_ne (Ne.symm npD)]; exact e3
  rw [hw_upd (W := fun b => b = D) (a := D) rfl]
  refine ⟨e4, Same.hw (same_upd np), ?_⟩
  rw [Hw.at (W := fun b => b = D) npD]
  exact upd_same
/-- a def that may raise, called by its name -/
structure CalX (P : Program) (w : World) (K : PySem.W.Frag) (mg : Str → Option Value) (base : Heap) (k : Nat) (x : Str) (ps : List Str) (sp : Sp) : Prop where
  ex : ∃ f fd, mg x = some (.ref f) ∧ PySem.W.keepIn K (.ref f) = true ∧ Binds K fd ps [] ∧ FnOk P w K mg base (L2.CX P w) k f fd ps sp
theorem pe_calX {X : Cx} {k : Nat} {x : Str} {ps : List Str} {sp : Sp} {E : XK} {p pos : Pos} {e : Expr} {es : List Expr} {t : TA} (C : CalX X.prog X.w X.K X.mg X.base k x ps sp) (hr : Room k X.A) (hg : Gl X x) (hx : Passes (L2.CX X.prog X.w) X E) (ha : PA X (e :: es) t)
    (hdb : (x == ("__debug__" : Str)) = false := by decide) (he : starEach (e :: es) X.env = (false, eval e X.env) :: starEach es X.env := by rfl) (hpl : (backTo pos (starEach es X.env)).any (·.1) = false := by rfl) : PE X (.Call (.Name x p) (e :: es) [] pos) (tCall sp [] E t) := by
  obtain ⟨f, fd, a1, a2, a3, a4⟩ := C.ex
  exact pe_call a4 hr hg a1 a2 a3 .nil hx ha hdb he hpl
theorem CalX.mono {P : Program} {w : World} {K : PySem.W.Frag} {mg : Str → Option Value} {base : Heap} {j k : Nat} {x : Str} {ps : List Str} {sp : Sp} (C : CalX P w K mg base j x ps sp) (h : j ≤ k) : CalX P w K mg base k x ps sp := by
  obtain ⟨f, fd, a1, a2, a3, a4⟩ := C.ex
  exact ⟨f, fd, a1, a2, a3, a4.mono h⟩
abbrev sCheck : Stmt := topS 35
theorem scCheck : FnScope ["thing"] ["thing"] (defScope sCheck) := ⟨rfl, rfl, rfl, by decide +kernel, rfl, by decide +kernel, by decide +kernel⟩
def spCheck (P1 P2 C : Addr) : Sp := fun vs H Q E => ∃ v d, vs = [v] ∧ Rp H v d ∧ Tb P1 P2 H ∧ (isPlan d = false → ∀ H', Ex H H' → Tb P1 P2 H' → E (.ref C) none H') ∧ (isPlan d = true → ∀ H', Ex H H' → Tb P1 P2 H' → Q .non H')
section
variable {P : Program} {w : World} {K : PySem.W.Frag} {mg : Str → Option Value} {base : Heap}
theorem ok_check {f P1 P2 C : Addr} {fd : FuncData} (F : Fun K "check_plan" "check_plan" sCheck f fd) (XP : ExcC K mg "NoPlan" C) (CP : Cal P w K mg base 7 "is_plan" ["thing"] (spTab P1 P2 isPlan)) :
    FnOk P w K mg base (L2.CX P w) 8 f fd ["thing"] (spCheck P1 P2 C) := by
  refine F.okX scCheck (fun vs H Q E ⟨v, d, e, _⟩ => by rw [e]; rfl) (fun cdv A outer s H vs Q E hr h => ?_)
  obtain ⟨v, d, rfl, hR, hT, qE, q⟩ := h
  refine ⟨_, (pss_one (ps_if (pt_not (pt_val (pe_cal CP hr (by rfl) (pa_cons (pv 0) pa_nil)))) (pss_one (ps_raise rfl (takes_of rfl rfl rfl rfl) (pmk_own PySem.F.excBase_ValueError XP.x XP.g XP.k (raises_own XP.b XP.t) rfl))) pss_nil)), ?_⟩
  refine ⟨v, rfl, v, d, rfl, hR, hT, fun H1 e1 tb1 => ⟨isPlan d, rfl, ?_⟩⟩
  cases hp : isPlan d with
  | false => exact iteT (qE hp H1 e1 tb1)
  | true => exact iteF (q hp H1 e1 tb1)
end
end CL
set_option Elab.async false
set_option linter.all false
set_option pp.maxSteps 600
set_option maxRecDepth 100000
set_option maxHeartbeats 4000000
namespace CL
open PySem PySem.Spec PyProof.Rows L2 GE HotX
/-! ### the end of an iterator where an exception is handled -/
section
variable {prog : Program} {w : World} {A : Around} {E : Value → Shared → Prop} {s : Shared}
theorem list_stops {it l x1 : Addr} {i : Nat} {items : Array Value} {Q : Option Value → Shared → Prop} (hot : HotAt A x1 s.heap) (hne : x1 ≠ it) (at_ : s.heap.IsListIter it l i) (li : s.heap.IsList l items) (no : items[i]? = none)
    (q : ∀ h', Heap.ExtBut it s.heap h' → Q none { s with heap := h' }) : wpAny (model prog w) A (pyNext (.ref it)) Q E s := by
  obtain ⟨n0, o1, vs1, g0, d1, c1⟩ := hot
  obtain ⟨oi, gi, ki, di⟩ := id at_
  obtain ⟨ol, gl, _, nl, dl⟩ := li
  unfold pyNext
  refine wpAny_bind (wpAny_attempt (wpAny_callSpecial?_slot (name := Str.ofString "__next__") at_.typeIs slot_listiter_next (wpAny_call_entry slot_listiter_next at_.typeIs entry_listiter_next ?_ (args_listiter_next _))))
  show wpAny _ _ (field (.ref it) 0 >>= _) _ _ s
  refine wpAny_bind (wpAny_field gi di (x := .ref l) rfl ?_)
  show wpAny _ _ (if (Value.ref l == Value.none) = true then _ else _) _ _ s
  rw [if_neg (show ¬ ((Value.ref l == Value.none) = true) from Bool.false_ne_true)]
  show wpAny _ _ (field (.ref it) 1 >>= _) _ _ s
  refine wpAny_bind (wpAny_field gi di (x := .int i 0) rfl (wpAny_bind (wpAny_seqItems gl dl ?_)))
  simp only [Int.toNat_natCast, no]
  refine wpAny_bind (wpAny_rule (wpAny_bind (wpAny_setField gi di (by simp) ?_)))
  have sb := Heap.SameBut.update s.heap it (Obj.mapFields (·.setIfInBounds 0 Value.none))
  have g1 := sb.extBut x1 _ hne g0
  have nx : ∀ b o, b ≠ it → s.heap.get? b = some o → (s.heap.update it (Obj.mapFields (·.setIfInBounds 0 Value.none))).get? b = some o := fun b o nb e => sb.extBut b o nb e
  show wpAny _ _ (newExc (.type "StopIteration") [] >>= _) _ _ _
  refine wpAny_bind ?_
  simp only [newExc, newTuple]
  refine wpAny_bind (wpAny_newObj_type ?_ (by size_fits))
  refine wpAny_bind (m := firstArgMember _ _) (wpAny_of_eq (a := Value.none) (by first | rfl | (simp only [firstArgMember]; rfl)) ?_)
  refine wpAny_newObj_type ?_ (by size_fits)
  refine raiseNew_hot (x1 := x1) ⟨n0, _, _, Heap.get?_push_of_some _ (Heap.get?_push_of_some _ g1), d1, c1⟩ (Nat.ne_of_lt (Heap.lt_size (Heap.get?_push_of_some _ g1))) (Heap.get?_push_size _ rfl) rfl (by first | (simp; done) | (simp; omega) | (simp only [Array.size_append]; simp; omega)) ?_
  refine wpAny_bind (wpAny_isInstance (T := "StopIteration") (b := true) ⟨_, Heap.get?_update_self _ (Heap.get?_push_size _ rfl) rfl, rfl⟩ isSubtype_stop ?_)
  refine wpAny_pure (q _ fun b o nb e => ?_)
  rw [Heap.get?_update_other _ _ (Nat.ne_of_gt (Heap.lt_size (Heap.get?_push_of_some _ (nx b o nb e))))]
  exact Heap.get?_push_of_some _ (Heap.get?_push_of_some _ (nx b o nb e))
theorem tuple_stops {it t x1 : Addr} {i : Nat} {items : Array Value} {Q : Option Value → Shared → Prop} (hot : HotAt A x1 s.heap) (hne : x1 ≠ it) (at_ : IsTupIter s.heap it t i) (li : IsTup s.heap t items) (no : items[i]? = none)
    (q : ∀ h', Heap.ExtBut it s.heap h' → Q none { s with heap := h' }) : wpAny (model prog w) A (pyNext (.ref it)) Q E s := by
  obtain ⟨n0, o1, vs1, g0, d1, c1⟩ := hot
  obtain ⟨oi, gi, ki, di⟩ := id at_
  obtain ⟨ol, gl, _, nl, dl⟩ := li
  unfold pyNext
  refine wpAny_bind (wpAny_attempt (wpAny_callSpecial?_slot (name := Str.ofString "__next__") at_.typeIs slot_tupleiter_next (wpAny_call_entry slot_tupleiter_next at_.typeIs entry_tupleiter_next ?_ (args_tupleiter_next _))))
  show wpAny _ _ (field (.ref it) 0 >>= _) _ _ s
  refine wpAny_bind (wpAny_field gi di (x := .ref t) rfl ?_)
  show wpAny _ _ (if (Value.ref t == Value.none) = true then _ else _) _ _ s
  rw [if_neg (show ¬ ((Value.ref t == Value.none) = true) from Bool.false_ne_true)]
  show wpAny _ _ (field (.ref it) 1 >>= _) _ _ s
  refine wpAny_bind (wpAny_field gi di (x := .int i 0) rfl (wpAny_bind (wpAny_seqItems gl dl ?_)))
  simp only [Int.toNat_natCast, no]
  refine wpAny_bind (wpAny_rule (wpAny_bind (wpAny_setField gi di (by simp) ?_)))
  have sb := Heap.SameBut.update s.heap it (Obj.mapFields (·.setIfInBounds 0 Value.none))
  have g1 := sb.extBut x1 _ hne g0
  have nx : ∀ b o, b ≠ it → s.heap.get? b = some o → (s.heap.update it (Obj.mapFields (·.setIfInBounds 0 Value.none))).get? b = some o := fun b o nb e => sb.extBut b o nb e
  show wpAny _ _ (newExc (.type "StopIteration") [] >>= _) _ _ _
  refine wpAny_bind ?_
  simp only [newExc, newTuple]
  refine wpAny_bind (wpAny_newObj_type ?_ (by size_fits))
  refine wpAny_bind (m := firstArgMember _ _) (wpAny_of_eq (a := Value.none) (by first | rfl | (simp only [firstArgMember]; rfl)) ?_)
  refine wpAny_newObj_type ?_ (by size_fits)
  refine raiseNew_hot (x1 := x1) ⟨n0, _, _, Heap.get?_push_of_some _ (Heap.get?_push_of_some _ g1), d1, c1⟩ (Nat.ne_of_lt (Heap.lt_size (Heap.get?_push_of_some _ g1))) (Heap.get?_push_size _ rfl) rfl (by first | (simp; done) | (simp; omega) | (simp only [Array.size_append]; simp; omega)) ?_
  refine wpAny_bind (wpAny_isInstance (T := "StopIteration") (b := true) ⟨_, Heap.get?_update_self _ (Heap.get?_push_size _ rfl) rfl, rfl⟩ isSubtype_stop ?_)
  refine wpAny_pure (q _ fun b o nb e => ?_)
  rw [Heap.get?_update_other _ _ (Nat.ne_of_gt (Heap.lt_size (Heap.get?_push_of_some _ (nx b o nb e))))]
  exact Heap.get?_push_of_some _ (Heap.get?_push_of_some _ (nx b o nb e))
/-- a, b = a tuple, there -/
theorem untupled_hot {env : Env} {es : List Expr} {n : Nat} {pos : Pos} {t x1 : Addr} {items : Array Value} {Q : Unit → Shared → Prop} (hot : HotAt A x1 s.heap) (li : IsTup s.heap t items) (many : (assignEach es env).length = items.size) (plain : (assignEach es env).findIdx? (·.1) = none)
    (q : ∀ h', Heap.ExtBut s.heap.objs.size s.heap h' → wpAny (model prog w) A (assignInOrder ((assignEach es env).map (·.2)) items.toList) Q E { s with heap := h' }) : wpAny (model prog w) A (assign (.Tuple es n pos) env (.ref t)) Q E s := by
  obtain ⟨n0, o1, vs1, g0, d1, c1⟩ := hot
  have lt : t ≠ s.heap.objs.size := by
    obtain ⟨o, e, _⟩ := li
    exact Nat.ne_of_lt (Heap.lt_size e)
  have lx : x1 ≠ s.heap.objs.size := Nat.ne_of_lt (Heap.lt_size g0)
  rw [assign_Tuple]
  refine wpAny_bind (wpAny_standAt ?_)
  unfold unpack
  rw [many, plain]
  refine wpAny_bind (wpAny_holding ?_)
  unfold unpackItems notIterableAtAll
  refine wpAny_bind (wpAny_bind (wpAny_specialOf li.typeIs slot_tuple_iter.lookup (wpAny_pure ?_)))
  simp only [Bool.false_eq_true, if_false]
  refine wpAny_bind (wpAny_holding (iter_tuple li (wpAny_bind (wpAny_holding (draw_tuple lt items.size 0 _ _ ⟨_, Heap.get?_push_size _ rfl, rfl, rfl⟩ (li.push _) (by omega) fun h1 at1 sb1 => ?_)))))
  have all : (items.toList.drop 0).take items.size = items.toList := by rw [List.drop_zero]; exact List.take_of_length_le (by simp)
  rw [all, if_neg (by simp)]
  have up : ∀ b o, b ≠ s.heap.objs.size → s.heap.get? b = some o → h1.get? b = some o := fun b o nb e => sb1.extBut b o nb (Heap.get?_push_of_some _ e)
  refine wpAny_bind (wpAny_holding (tuple_stops ⟨n0, o1, vs1, up _ _ lx g0, d1, c1⟩ lx at1 ((li.push _).extBut sb1.extBut lt) (by simp) fun h2 e2 => ?_))
  simp only [Option.isSome_none, Bool.false_eq_true, if_false]
  exact wpAny_pure (q h2 fun b o nb e => e2 b o nb (up b o nb e))
end
end CL
set_option Elab.async false
set_option linter.all false
set_option pp.maxSteps 600
set_option maxRecDepth 100000
set_option maxHeartbeats 4000000
namespace CL
open PySem PySem.Spec PyProof.Rows L2 GE HotX
/-! ### targets and comprehensions where an exception is handled -/
/-- p is handled, and pinned -/
def HotP (X : Cx) (pins : List (Addr × Obj)) : Prop := ∃ p : Addr × Obj, L2H.Hot1 X.A p ∧ p ∈ X.pn ++ pins
theorem HotP.at {X : Cx} {pins : List (Addr × Obj)} {σ : L2.St} {H : Hp} {s : Shared} (c : HotP X pins) (I : Inv X pins σ H s) : ∃ p : Addr × Obj, HotAt X.A p.1 s.heap ∧ p ∈ X.pn ++ pins := by
  obtain ⟨p, ⟨e, vs, d, n⟩, m⟩ := c
  exact ⟨p, ⟨e, p.2, vs, (I.pin p m).1, d, n⟩, m⟩
/-- a target, there -/
structure PGH (X : Cx) (tg : Expr) (g : TG) : Prop where
  go : ∀ pins s σ H v u Q, HotP X pins → Inv X pins σ H s → RelV v u → g v σ H Q → wpAny (model X.prog X.w) X.A (assign tg X.env u) (fun _ t => ∃ σ' H', Inv X pins σ' H' t ∧ Q σ' H') X.xe s
theorem pgh_tup {X : Cx} {es : List Expr} {k n : Nat} {g : TGs} {pos : Pos} (h : PGs X es g) (hn : (assignEach es X.env).length = n := by rfl) (hst : (assignEach es X.env).findIdx? (·.1) = none := by rfl) : PGH X (.Tuple es k pos) (gTup X.K n g) := by
  refine ⟨fun pins s σ H v u Q c I r y => ?_⟩
  obtain ⟨a, xs, rfl, q, len, y⟩ := y
  cases (show u = Value.ref a from r)
  obtain ⟨its, rv, ta, _⟩ := I.tuple q
  obtain ⟨p, hot, _⟩ := c.at I
  refine untupled_hot hot ta (by simp [hn, ← len, rv.length]) hst fun h' e => ?_
  have J : Inv X pins σ H { s with heap := h' } := I.kept (t' := s.toks) fun b o e1 => e b o (Nat.ne_of_lt (Heap.lt_size e1)) e1
  exact h.run pins _ σ H xs _ Q J (by simpa using rv) y
/-- [elt for tg in l if ..]: the list at a stays xs; Pv by the turn and the heap (the new list at D within) -/
def tLcH (K : PySem.W.Frag) (tl : TE) (g : TG) (tt : TT) (te : TE) (vs : List Nat) : TE := fun σ H Q => tl σ H fun x H1 => ∃ a xs, x = .ref a ∧ SqL K H1 a xs ∧ ∀ D, H1 D = none → ∃ Pv : Nat → Hp → Prop, Pv 0 (upd H1 D (.lst [])) ∧ (∀ i H, Pv i H → SqL K H a xs) ∧
  (∀ i x H, xs[i]? = some x → Pv i H → g x (wipe σ vs) H fun σ2 H2 => wipe σ2 vs = wipe σ vs ∧ tt σ2 H2 fun b H3 => if b = true then te σ2 H3 fun y H4 => ∃ acc, H4 D = some (.lst acc) ∧ acc.length < sizeLine ∧ Pv (i + 1) (upd H4 D (.lst (acc ++ [y]))) else Pv (i + 1) H3) ∧
  ∀ H, Pv xs.length H → Q (.ref D) H
section
variable {X : Cx}
theorem lcH_core {pins : List (Addr × Obj)} {s : Shared} {σ : L2.St} {H : Hp} {Q : VK} {elt tg l : Expr} {ifs : List Expr} {scope : Scope} {own : List (Str × Nat)} {pos q0 : Pos} {tl te : TE} {g : TG} {tt : TT} {use : Option (Value → Sem Unit)} {Qf : Value → Shared → Prop}
    (hot : L2H.HotC X) (nd : X.N.Nodup) (I : Inv X pins σ H s) (hl : PE X l tl) (ok : BlkOk X.N X.env.scope scope own)
    (hg : ∀ s H C cl fp, PGH (X.blk s H scope (compEnvC scope cl C X.env) fp) tg g) (ht : ∀ s H C cl fp, PTs (X.blk s H scope (compEnvC scope cl C X.env) fp) ifs tt) (he : ∀ s H C cl fp, PE (X.blk s H scope (compEnvC scope cl C X.env) fp) elt te)
    (hs : ∀ x, foldedSetIterable l X.env x = pure x) (h : tLcH X.K tl g tt te (own.map (·.2)) σ H Q)
    (out : ∀ D C t m H', Inv X pins σ H' t → Q (.ref D) H' → t.heap.Ns C m → FpOk X pins H' C → compPost (model X.prog X.w) X.A X.xe use Qf (.ref D) C (.ok .next) t) :
    wpAny (model X.prog X.w) X.A (comprehension (.ListComp elt [⟨tg, l, ifs, 0⟩] scope pos) scope X.env q0 (newList []) false (eval l X.env) use) Qf X.xe s := by
  obtain ⟨p, hp, pm⟩ := hot
  have frees : ∀ y ∈ scope.names, y.2 = .free → ∃ c, X.env.cells.lookup y.1 = some c := fun y m e => (ok.free y m e).elim (fun k => I.ok.has _ (.inl k)) (fun k => I.ok.has _ (.inr k))
  refine wpAny_comprehension_free (use := use) rfl hs (closure_ok frees) ok.kind (fun y m e => by rw [ok.uniq y m, e]) (thn (hl.run pins s σ H _ I h) fun v s1 ⟨x, H1, I1, r1, a, xs, e1, sq, wish⟩ => ?_)
  subst e1
  cases (show v = Value.ref a from r1)
  obtain ⟨its1, rv1, ls1, _⟩ := I1.list sq
  refine wpAny_pyIter_list ls1.isList ?_
  generalize hz : s1.heap.objs.size = it
  have I2 : Inv X pins σ H1 { s1 with heap := s1.heap.push { cls := .type "list_iterator", data := .fields #[.ref a, .int 0 0] } } := I1.kept (t' := s1.toks) fun b o e => Heap.get?_push_of_some _ e
  have fresh : FpOk X pins H1 it := hz ▸ I1.fpOk (Nat.le_refl _) (I1.hok.fresh (Nat.le_refl _))
  have at2 : ({ s1 with heap := s1.heap.push { cls := .type "list_iterator", data := .fields #[.ref a, .int 0 0] } } : Shared).heap.IsListIter it a 0 := hz ▸ ⟨_, Heap.get?_push_size _ rfl, rfl, rfl⟩
  generalize ({ s1 with heap := s1.heap.push { cls := .type "list_iterator", data := .fields #[.ref a, .int 0 0] } } : Shared) = s2 at I2 at2 ⊢
  refine wpAny_newObj_type (newEnv_comp ?_) (by show 0 ≤ sizeLine; decide)
  have itlt : it < s2.heap.objs.size := by
    obtain ⟨o, e, _⟩ := at2
    exact Heap.lt_size e
  generalize hD : s2.heap.objs.size = D at itlt ⊢
  have nD : H1 D = none := I2.hok.fresh (Nat.le_of_eq hD)
  obtain ⟨Pv, p0, pl, ps, pe⟩ := wish D nD
  generalize h3 : ({ s2 with heap := s2.heap.push { cls := .type "list", data := .seq ([] : List Value).toArray } } : Shared) = s3
  have s3h : s3.heap = s2.heap.push { cls := .type "list", data := .seq ([] : List Value).toArray } := by rw [← h3]
  have I3 : Inv X pins σ (upd H1 D (.lst [])) s3 := by
    rw [← h3]
    exact I2.laid (t' := s2.toks) (fun b o e => Heap.get?_push_of_some _ e) (Nat.le_of_eq hD) ⟨Nat.zero_le _, [], 0, .nil, by rw [← hD]; exact Heap.get?_push_size _ rfl⟩
  have itD : it ≠ D := Nat.ne_of_lt itlt
  have itOk : FpOk X pins (upd H1 D (.lst [])) it := ⟨by rw [upd_ne itD]; exact fresh.1, fresh.2⟩
  have big : it < s3.heap.objs.size := by rw [s3h, Heap.size_push, hD]; exact Nat.lt_succ_of_lt itlt
  have at3 : s3.heap.IsListIter it a 0 := at2.at fun {o} e => by rw [s3h]; exact Heap.get?_push_of_some _ e
  have J := block_start (fp := [it]) I3 ok nd fun b m => by
    cases List.mem_singleton.mp m
    exact ⟨itOk, big⟩
  have gg := hg s3 (upd H1 D (.lst [])) s3.heap.objs.size (cellsFrom (s3.heap.objs.size + 1) scope.names (cloFrom X.env.cells scope.names [])) [it]
  have tt1 := ht s3 (upd H1 D (.lst [])) s3.heap.objs.size (cellsFrom (s3.heap.objs.size + 1) scope.names (cloFrom X.env.cells scope.names [])) [it]
  have ee := he s3 (upd H1 D (.lst [])) s3.heap.objs.size (cellsFrom (s3.heap.objs.size + 1) scope.names (cloFrom X.env.cells scope.names [])) [it]
  show codeAny _ _ (.compStart (.ListComp elt [⟨tg, l, ifs, 0⟩] scope pos) 0 (.ref it) (.ref D) (compEnvC scope (cellsFrom (s3.heap.objs.size + 1) scope.names (cloFrom X.env.cells scope.names [])) s3.heap.objs.size X.env)) (compPost (model X.prog X.w) X.A X.xe use Qf (.ref D) s3.heap.objs.size) { s3 with heap := pushCells (s3.heap.push { cls := .type "dict", data := .dict #[] }) scope.names }
  have keeps4 : ∀ b o, s3.heap.get? b = some o → (pushCells (s3.heap.push { cls := .type "dict", data := .dict #[] }) scope.names).get? b = some o := fun b o e => pushCells_keeps _ _ _ _ (Heap.get?_push_of_some _ e)
  have pin3 := I3.pin p (List.mem_append_left _ pm)
  generalize hce : compEnvC scope (cellsFrom (s3.heap.objs.size + 1) scope.names (cloFrom X.env.cells scope.names [])) s3.heap.objs.size X.env = ce at J gg tt1 ee ⊢
  have ceL : ce.locals = s3.heap.objs.size := by subst hce; rfl
  generalize hH3 : upd H1 D (.lst []) = H3 at I3 J gg tt1 ee p0 itOk pin3
  generalize h4 : ({ s3 with heap := pushCells (s3.heap.push { cls := .type "dict", data := .dict #[] }) scope.names } : Shared) = s4 at J ⊢
  have at4 : s4.heap.IsListIter it a 0 := at3.at fun {o} e => by rw [← h4]; exact keeps4 _ _ e
  -- the handled one stays pinned in the block
  have I4 : Inv (X.blk s3 H3 scope ce [it]) [p] (wipe σ (own.map (·.2))) H3 s4 := J.pins_of fun r m => by
    cases List.mem_singleton.mp m
    refine ⟨by rw [← h4]; exact keeps4 _ _ pin3.1, pin3.2.1, ?_, fun z => ?_, pin3.2.2.2.2⟩
    · show p.1 ≠ ce.locals
      rw [ceL]
      exact Nat.ne_of_lt (Heap.lt_size pin3.1)
    · exact (List.mem_cons.mp (I3.stkSub p.1 z)).elim pin3.2.2.1 pin3.2.2.2.1
  have hp4 : ∀ {pl : List (Addr × Obj)}, HotP (X.blk s3 H3 scope ce [it]) ([p] ++ pl) := fun {pl} => ⟨p, hp, List.mem_append_right _ (List.mem_append_left _ (List.mem_singleton.mpr rfl))⟩
  have pne : p.1 ≠ it := fun z => itOk.2.2.2.2.2 p (List.mem_append_left _ pm) z
  have own4 : ∀ {σ' : L2.St} {H' : Hp} {t : Shared}, Inv (X.blk s3 H3 scope ce [it]) [p] σ' H' t → H' it = none → FpOk (X.blk s3 H3 scope ce [it]) [p] H' it := fun {σ' H' t} I' n =>
    ⟨n, (I'.ok.exf it (List.mem_singleton.mpr rfl)).1, I'.ok.exfs it (List.mem_singleton.mpr rfl), .inl (List.mem_singleton.mpr rfl), fun y c e => (I'.ok.exf it (List.mem_singleton.mpr rfl)).2 y c e, fun r m => by
      rcases List.mem_append.mp m with m | m
      · exact nomatch m
      · cases List.mem_singleton.mp m
        exact pne⟩
  have loop : codeAny (model X.prog X.w) X.A (.compLoop (.ListComp elt [⟨tg, l, ifs, 0⟩] scope pos) 0 (.ref it) (.ref D) ce) (compPost (model X.prog X.w) X.A X.xe use Qf (.ref D) s3.heap.objs.size) s4 := by
    refine compLoop_any (fun n t => ∃ i H', Inv (X.blk s3 H3 scope ce [it]) [p] (wipe σ (own.map (·.2))) H' t ∧ t.heap.IsListIter it a i ∧ H' it = none ∧ Pv i H' ∧ n = xs.length - i ∧ i ≤ xs.length) ?_ xs.length ⟨0, H3, I4, at4, itOk.1, p0, by omega, Nat.zero_le _⟩
    rintro n s5 ⟨i, H5, I5, at5, n5, v5, rfl, le⟩
    have sq5 := pl i H5 v5
    obtain ⟨its5, rv5, ls5, _⟩ := I5.list sq5
    obtain ⟨f0, f1, f2, f3, f4, f5⟩ := own4 I5 n5
    have len5 := rv5.length
    by_cases lt : i < xs.length
    · obtain ⟨u, hu, ru⟩ := rv5.get (show xs[i]? = some xs[i] by simp [lt])
      refine wpAny_pyNext_list_item at5 ls5.isList (x := u) (by simpa using hu) fun h6 at6 sb6 => ?_
      have I6 : Inv (X.blk s3 H3 scope ce [it]) [p] (wipe σ (own.map (·.2))) H5 { s5 with heap := h6 } := I5.turned (t' := s5.toks) (fun b o nb e => (sb6.2 b nb).trans e) f0 f1 f3 f4 f5
      obtain ⟨oi, gi, ki, di⟩ := id at6
      refine go_of (s := { s5 with heap := h6 }) gi ki di (by decide) ?_
      have there6 : ∀ b ∈ [it], ∃ o, ({ s5 with heap := h6 } : Shared).heap.get? b = some o ∧ ∀ v, o.data ≠ .cell v := fun b m => by
        cases List.mem_singleton.mp m
        exact ⟨oi, gi, fun v z => by rw [di] at z; cases z⟩
      have I7 := I6.pinned (fp := [it]) (fun b m => by cases List.mem_singleton.mp m; exact own4 I6 n5) there6
      refine thnF (gg.go _ _ _ H5 xs[i] u _ hp4 I7 ru (ps i xs[i] H5 (by simp [lt]) v5)) fun _ s8 ⟨σ8, H8, I8, w8, q8⟩ => ?_
      refine thnF (tt1.run _ s8 σ8 H8 _ I8 q8) fun b s9 ⟨H9, I9, q9⟩ => ?_
      have fin : ∀ {t : Shared} {H' : Hp}, Inv (X.blk s3 H3 scope ce [it]) ([p] ++ pinsAt [it] h6) σ8 H' t → Pv (i + 1) H' → ∃ m, m < xs.length - i ∧ ∃ j H', Inv (X.blk s3 H3 scope ce [it]) [p] (wipe σ (own.map (·.2))) H' t ∧ t.heap.IsListIter it a j ∧ H' it = none ∧ Pv j H' ∧ m = xs.length - j ∧ j ≤ xs.length := fun {t H'} I' v' => by
        have k := I'.pin (it, oi) (List.mem_append_right _ (List.mem_append_right _ (mem_pinsAt (List.mem_singleton.mpr rfl) gi)))
        have hl : (wipe σ (own.map (·.2))).length = σ8.length := by rw [← w8, wipe_length]
        refine ⟨xs.length - (i + 1), by omega, i + 1, H', I'.unpinned.weak hl (fun j v e => ?_), ⟨oi, k.1, ki, di⟩, k.2.1, v', rfl, lt⟩
        rw [← w8] at e
        exact (wipe_some e).1
      cases b with
      | false =>
        simp only [Bool.false_eq_true, if_false] at q9 ⊢
        exact fin I9 q9
      | true =>
        simp only [if_true] at q9 ⊢
        refine thnF (ee.run _ s9 σ8 H9 _ I9 q9) fun z s10 ⟨yv, H10, I10, r10, acc, hD10, hz10, nx⟩ => ?_
        exact app_ok (X := X.blk s3 H3 scope ce [it]) I10 hD10 hz10 r10 fun s11 I11 => fin I11 nx
    · have e0 : i = xs.length := by omega
      subst e0
      obtain ⟨p', hot5, m5⟩ := HotP.at (X := X.blk s3 H3 scope ce [it]) (pins := [p]) ⟨p, hp, List.mem_append_right _ (List.mem_singleton.mpr rfl)⟩ I5
      have pe5 : p' = p := by
        exact (List.mem_append.mp m5).elim (fun m => nomatch m) (fun m => List.mem_singleton.mp m)
      rw [pe5] at hot5
      refine list_stops hot5 pne at5 ls5.isList (by simp; omega) fun h6 e6 => ?_
      have I6 : Inv (X.blk s3 H3 scope ce [it]) [p] (wipe σ (own.map (·.2))) H5 { s5 with heap := h6 } := I5.turned (t' := s5.toks) (fun b o nb e => e6 b o nb e) f0 f1 f3 f4 f5
      have I7 : Inv X pins σ H5 { s5 with heap := h6 } := I3.call' (ch := [it]) I6.os I6.base I6.hok I6.bare fun b m => by
        cases List.mem_singleton.mp m
        exact ⟨itOk.2.2.2.1, itOk.2.1, itOk.2.2.2.2.1, itOk.2.2.2.2.2⟩
      have nC : H5 s3.heap.objs.size = none := by
        have z : H5 ce.locals = none := I6.free
        rwa [ceL] at z
      obtain ⟨m, hn, _⟩ := I6.loc
      have hn : (h6 : Heap).Ns ce.locals m := hn
      rw [ceL] at hn
      exact out D s3.heap.objs.size { s5 with heap := h6 } m H5 I7 (pe _ v5) hn (I3.fpOk (Nat.le_refl _) nC)
  exact codeAny_compStart_list loop (wpAny_pyIter_listiter at4 loop)
/-- name = [..], there -/
theorem ps_setLcH {i : Nat} {y : Str} {py : Pos} {elt tg l : Expr} {ifs : List Expr} {scope : Scope} {own : List (Str × Nat)} {pos spos : Pos} {tl te : TE} {g : TG} {tt : TT} (hot : L2H.HotC X) (nd : X.N.Nodup) (hy : X.N[i]? = some y) (loc : X.env.scope.names.lookup y = some .local)
    (sw : swapsWith (.ListComp elt [⟨tg, l, ifs, 0⟩] scope pos) (some (.Name y py)) spos.line X.env = pure true) (hl : PE X l tl) (ok : BlkOk X.N X.env.scope scope own)
    (hg : ∀ s H C cl fp, PGH (X.blk s H scope (compEnvC scope cl C X.env) fp) tg g) (ht : ∀ s H C cl fp, PTs (X.blk s H scope (compEnvC scope cl C X.env) fp) ifs tt) (he : ∀ s H C cl fp, PE (X.blk s H scope (compEnvC scope cl C X.env) fp) elt te)
    (hs : ∀ x, foldedSetIterable l X.env x = pure x := by intro _; rfl) : PS X (.Assign [.Name y py] (.ListComp elt [⟨tg, l, ifs, 0⟩] scope pos) spos) (tAsg (tLcH X.K tl g tt te (own.map (·.2))) (gName i)) := by
  refine ⟨fun pins s σ H D I h => ?_⟩
  rw [exec_Assign_Name_used _ _ _ _ sw]
  refine wpAny_bind (wpAny_standAt (wpAny_bind ?_))
  show wpAny _ X.A (do let _ ← comprehension (.ListComp elt [⟨tg, l, ifs, 0⟩] scope pos) scope X.env (firstIterPos [⟨tg, l, ifs, 0⟩] pos) (newList []) false (eval l X.env) (some (assign (.Name y py) X.env))) _ _ s
  have h : tLcH X.K tl g tt te (own.map (·.2)) σ H (fun x H1 => gName i x σ H1 D.nx) := h
  refine wpAny_bind (thn (lcH_core (Qf := fun _ t => SP X pins D .next t) hot nd I hl ok hg ht he hs h fun L C t m H' J q ns f => ?_) fun _ t q => wpAny_pure (wpAny_pure q))
  show wpAny _ _ (assign (.Name y py) X.env (.ref L)) _ _ _
  refine wpAny_assign_Name (store_ok2 (v := V.ref L) J nd hy (.inl loc) rfl (fun t2 J2 ⟨b, sb, where_⟩ => ?_) (.inr loc))
  obtain ⟨f0, f1, f2, f3, f4, f5⟩ := f
  have other : C ≠ b := where_.elim (fun z => z ▸ f1) (fun z e => f4 y b z e.symm)
  exact ⟨m, ns.sameBut sb other, fun h3 sb3 => ⟨_, H', J2.turned (t' := t2.toks) (fun b o nb e => (sb3.2 b nb).trans e) f0 f1 f3 f4 f5, q⟩⟩
end
end CL
set_option Elab.async false
set_option linter.all false
set_option pp.maxSteps 600
set_option maxRecDepth 100000
set_option maxHeartbeats 4000000
namespace CL
open PySem PySem.Spec PyProof.Rows L2 GE HotX
/-! ### a def that is handed the error that is handled -/
/-- what is known of the error's own dict -/
def XdAt (d : Option Addr) (H : Hp) : Prop := ∀ dd, d = some dd → ∃ fs, H dd = some (.xd fs)
theorem XdAt.same {d : Option Addr} {H H' : Hp} (x : XdAt d H) (s : Same H H') : XdAt d H' := fun dd e => by
  obtain ⟨fs, h⟩ := x dd e
  exact ⟨fs, s _ _ h⟩
theorem XdAt.no {H : Hp} : XdAt none H := fun _ e => nomatch e
structure FnP (P : Program) (w : World) (K : PySem.W.Frag) (mg : Str → Option Value) (base : Heap) (k : Nat) (f : Addr) (fd : FuncData) (ps : List Str) (sp : Addr → Option Addr → Addr → Sp) : Prop where
  len : ∀ a d D vs H Q E, sp a d D vs H Q E → vs.length = ps.length
  go : ∀ A outer s H args us vs Q E p d D, L2H.RoomH k A → L2H.Hot1 A p → Zc (.ref D) d p.2 → L2H.PinOk outer H s p → Env0 P w K mg base A outer s H → BindsTo s fd args (ps.zip us) → Vals vs us → sp p.1 d D vs H Q E → codeAny (model P w) A (.call (.ref f) args) (CR CX0 outer P w H s Q E) s
theorem fnP_of {P : Program} {w : World} {K : PySem.W.Frag} {mg : Str → Option Value} {base : Heap} {k : Nat} {f : Addr} {x qual : Str} {st : Stmt} {fd : FuncData} {N ps : List Str} {sp : Addr → Option Addr → Addr → Sp} (F : Fun K x qual st f fd) (S : FnScope N ps (defScope st)) (len : ∀ a d D vs H Q E, sp a d D vs H Q E → vs.length = ps.length)
    (body : ∀ (cdv : Value) (A : Around) (outer : List Env) (s : Shared) (H : Hp) (vs : List V) (Q : VK) (E : XK) (p : Addr × Obj) (d : Option Addr) (D : Addr), L2H.Hot1 A p → Zc (.ref D) d p.2 → L2H.RoomH k (A.deeper (envOfC qual (defScope st) s.heap.objs.size f cdv)) → sp p.1 d D vs H Q E →
      ∃ t, PSs (L2H.cxH CX0 P w K mg base N qual (defScope st) f cdv A outer s H E p) (defBody st) t ∧ t { nx := fun _ H' => Q .non H', rt := Q } (start N vs) H) : FnP P w K mg base (k + 1) f fd ps sp := by
  obtain ⟨oc, od, kV, doc, pm, an, cdv, ct, osl, rfl, lk, hcd⟩ := F.ex
  refine ⟨len, fun A outer s H args us vs Q E p d D rm h1 z pk e0 bn rv h => ?_⟩
  have nl := len _ _ _ _ _ _ _ h
  have low : ∀ b o, base.get? b = some o → s.heap.get? b = some o := fun b o e => (e0.bs b o e).1
  have kinds : ∀ y ∈ ps.zip us, (defScope st).names.lookup y.1 = some .local ∨ ((defScope st).names.lookup y.1 = some .cell ∧ ((cellsFrom (s.heap.objs.size + 1) (defScope st).names []).lookup y.1).isSome = true) := by
    rintro ⟨n, v⟩ m
    exact (S.par n (List.of_mem_zip m).1).elim .inl fun e => .inr ⟨e, PySem.W.cellsFrom_some _ _ _ (.inl e)⟩
  refine codeAny_call_function rm.depth (e0.mod.kin.keeps low _ _ lk) rfl S.co S.gen rfl (PySem.W.codeRec_of (e0.mod.kin.keeps low) hcd) (bn _ _ _ _ ?_)
  refine wpAny_newFunctionEnv_cells S.kind kinds fun env he s1 x1 => ?_
  subst he
  refine ⟨(e0.mod.nolimit.keeps low).keeps x1.toInCall.keep, codeAny_func ?_⟩
  obtain ⟨t, ht, q⟩ := body cdv A outer s H vs Q E p d D h1 z (rm.deeper _) h
  have J : Inv (L2H.cxH CX0 P w K mg base N qual (defScope st) f cdv A outer s H E p) [] (start N vs) H s1 := L2H.inv_startH S pk e0 nl rv x1
  refine wpAny_mono (ht.run [] s1 _ H _ J q) (fun g s' y => ?_) fun _ _ y => y
  cases g with
  | next =>
    obtain ⟨σ', H', J', q'⟩ := y
    exact ⟨.non, H', J'.os, J'.bare, J'.base, J'.hok, rfl, q'⟩
  | ret u =>
    obtain ⟨v, σ', H', J', r', q'⟩ := y
    exact ⟨v, H', J'.os, J'.bare, J'.base, J'.hok, r', q'⟩
  | brk => exact (show ∃ _ _, _ from y).elim fun _ y => y.elim fun _ y => y.2.elim
  | cont => exact (show ∃ _ _, _ from y).elim fun _ y => y.elim fun _ y => y.2.elim
/-- such a def by its name -/
structure CalP (P : Program) (w : World) (K : PySem.W.Frag) (mg : Str → Option Value) (base : Heap) (k : Nat) (x : Str) (ps : List Str) (sp : Addr → Option Addr → Addr → Sp) : Prop where
  ex : ∃ f fd, mg x = some (.ref f) ∧ PySem.W.keepIn K (.ref f) = true ∧ Binds K fd ps [] ∧ FnP P w K mg base k f fd ps sp
section
variable {X : Cx}
theorem pe_calP {k : Nat} {x : Str} {ps : List Str} {sp : Addr → Option Addr → Addr → Sp} {p pos : Pos} {e : Expr} {es : List Expr} {t : TA} {h : Addr × Obj} {d : Option Addr} {D : Addr} (C : CalP X.prog X.w X.K X.mg X.base k x ps sp) (hr : L2H.RoomH k X.A) (h1 : L2H.Hot1 X.A h) (hm : h ∈ X.pn) (z : Zc (.ref D) d h.2) (hg : Gl X x) (ha : PA X (e :: es) t)
    (hdb : (x == ("__debug__" : Str)) = false := by decide) (he : starEach (e :: es) X.env = (false, eval e X.env) :: starEach es X.env := by rfl) (hpl : (backTo pos (starEach es X.env)).any (·.1) = false := by rfl) :
    PE X (.Call (.Name x p) (e :: es) [] pos) (fun σ H Q => t σ H fun vs H1 => sp h.1 d D vs H1 Q E0) := by
  obtain ⟨f, fd, g, kp, bn, F⟩ := C.ex
  refine ⟨fun pins s σ H Q I y => ?_⟩
  refine wpAny_Call_Name_kw (ld_glob I hg g ?_ hdb)
  refine PySem.W.callWith_K (h₀ := X.base) I.ok.mod.kin kp (thn (ha.run pos pins s σ H _ I y) fun us s1 ⟨vs, H1, J, r, q⟩ => ⟨J.kIn, ?_⟩) he hpl
  have nl : us.length = ps.length := r.length.symm.trans (F.len _ _ _ _ _ _ _ q)
  have b := bn s1 us J.kIn (by rw [List.append_nil]; exact nl)
  rw [List.append_nil] at b
  have pj := J.pin h (List.mem_append_left _ hm)
  refine wpAny_call (codeAny_mono (F.go X.A X.stack s1 H1 ⟨us, []⟩ us vs Q E0 h d D hr h1 z ⟨pj.1, pj.2.1, fun m => (List.mem_cons.mp (J.stkSub h.1 m)).elim pj.2.2.1 pj.2.2.2.1, pj.2.2.2.2⟩ J.env0 b r q) fun c s' y => ?_)
  match c, y with
  | .ok (.ret u), y => exact J.after y
/-! ### isinstance of it -/
theorem pin_inst {pins : List (Addr × Obj)} {σ : L2.St} {H : Hp} {s : Shared} {p : Addr × Obj} {d : Option Addr} {D : Addr} (I : Inv X pins σ H s) (hm : p ∈ X.pn) (z : Zc (.ref D) d p.2) (h1 : L2H.Hot1 X.A p) (x : XdAt d H) :
    ∃ od, PySem.W.InstAt s.heap p.1 p.2 D od := by
  obtain ⟨a, oc, od, oda, osl⟩ := p
  obtain ⟨_, vs, hd, _⟩ := h1
  obtain ⟨z1, z2⟩ := z
  dsimp only at z1 z2 hd
  subst z1 z2 hd
  have ha := (I.pin _ (List.mem_append_left _ hm)).1
  cases od with
  | none => exact ⟨none, ha, rfl, rfl, trivial⟩
  | some dd =>
    obtain ⟨fs, e⟩ := x dd rfl
    obtain ⟨mA, hns, _⟩ := (show ObjOk X.prog X.w H s.heap dd (.xd fs) from I.hok dd _ e)
    obtain ⟨oD, _, _, hD, _⟩ := hns
    exact ⟨some oD, ha, rfl, rfl, hD⟩
theorem cls_some {K : PySem.W.Frag} {D : Addr} (h : PySem.W.hasDictIn K D = true) : (PySem.W.clsIn K D).isSome = true := by
  obtain ⟨cd, hc, _⟩ := PySem.W.any_some h
  rw [hc]
  rfl
def rIsP (K : PySem.W.Frag) (a : Addr) (d : Option Addr) (D : Addr) : List V → Hp → VK → Prop := fun xs H Q => ∃ (c : V) (u : Value) (b : Bool), xs = [.ref a, c] ∧ XdAt d H ∧ L2.ExcC K D ∧ ClsV c u ∧ PySem.W.kitOne K (.ref D) u = some b ∧ Q (.bl b) H
theorem call_isP {p : Addr × Obj} {d : Option Addr} {D : Addr} (hm : p ∈ X.pn) (z : Zc (.ref D) d p.2) (h1 : L2H.Hot1 X.A p) : CallR X (.builtin "isinstance") (rIsP X.K p.1 d D) := by
  intro pins s σ H xs us Q I r h
  obtain ⟨c, u, b, rfl, x, C, k, e, q⟩ := h
  obtain ⟨od, J⟩ := pin_inst I hm z h1 x
  obtain ⟨u1, u2, rfl, r1, r2⟩ := vals2 r
  have e2 := k.eq r2
  subst e2
  cases (show u1 = Value.ref p.1 from r1)
  exact PySem.W.kia_one (PySem.W.kitx_exc (cls_some C.hd) C.hg C.hk C.hs C.ha C.hn C.ht C.hm) I.kIn J e (fun z => nomatch z) fun tk => ⟨.bl b, H, I.tok tk, rfl, q⟩
def rIsPT (K : PySem.W.Frag) (a : Addr) (d : Option Addr) (D : Addr) : List V → Hp → VK → Prop := fun xs H Q => ∃ (tp : Addr) (cs : List V) (us : List Value) (b : Bool), xs = [.ref a, .ref tp] ∧ XdAt d H ∧ L2.ExcC K D ∧ H tp = some (.tup cs) ∧ Paired ClsV cs us ∧ PySem.W.kitAny K (.ref D) us = some b ∧ Q (.bl b) H
theorem call_isPT {p : Addr × Obj} {d : Option Addr} {D : Addr} (hm : p ∈ X.pn) (z : Zc (.ref D) d p.2) (h1 : L2H.Hot1 X.A p) : CallR X (.builtin "isinstance") (rIsPT X.K p.1 d D) := by
  intro pins s σ H xs us Q I r h
  obtain ⟨tp, cs, ws, b, rfl, x, C, hT, k, e, q⟩ := h
  obtain ⟨od1, J⟩ := pin_inst I hm z h1 x
  obtain ⟨u1, u2, rfl, r1, r2⟩ := vals2 r
  cases (show u1 = Value.ref p.1 from r1)
  cases (show u2 = Value.ref tp from r2)
  obtain ⟨_, its, rv, o, e1, e2, n, e3⟩ := (show ObjOk X.prog X.w H s.heap tp (.tup cs) from I.hok tp _ hT)
  have same := ClsV.all k rv
  subst same
  obtain ⟨oc, od, dt, sl⟩ := o
  simp only at e2 e3
  subst e2 e3
  exact PySem.W.kia_tup (PySem.W.kitx_exc (cls_some C.hd) C.hg C.hk C.hs C.ha C.hn C.ht C.hm) I.kIn J e1 e (fun z => nomatch z) fun tk => ⟨.bl b, H, I.tok tk, rfl, q⟩
end
end CL
set_option Elab.async false
set_option linter.all false
set_option pp.maxSteps 600
set_option maxRecDepth 100000
set_option maxHeartbeats 4000000
namespace CL
open PySem PySem.Spec PyProof.Rows L2 GE HotX
abbrev sClass : Stmt := topS 50
abbrev nClass : List Str := ["caught", "odd", "some", "found", "word", "there"]
theorem scClass : FnScope nClass ["caught"] (defScope sClass) := ⟨rfl, rfl, rfl, by decide +kernel, rfl, by decide +kernel, by decide +kernel⟩
/-- the classes that it names -/
structure ClsG (K : PySem.W.Frag) (mg : Str → Option Value) where
  aNoText : Addr
  gNoText : mg "NoText" = some (.ref aNoText)
  aNoPlan : Addr
  gNoPlan : mg "NoPlan" = some (.ref aNoPlan)
  aNoPerson : Addr
  gNoPerson : mg "NoPerson" = some (.ref aNoPerson)
  aNoMoment : Addr
  gNoMoment : mg "NoMoment" = some (.ref aNoMoment)
  aTooMany : Addr
  gTooMany : mg "TooMany" = some (.ref aTooMany)
  aNoOther : Addr
  gNoOther : mg "NoOther" = some (.ref aNoOther)
  aNoPlace : Addr
  gNoPlace : mg "NoPlace" = some (.ref aNoPlace)
  aNoEnd : Addr
  gNoEnd : mg "NoEnd" = some (.ref aNoEnd)
  aNoOrder : Addr
  gNoOrder : mg "NoOrder" = some (.ref aNoOrder)
  aNoNumber : Addr
  gNoNumber : mg "NoNumber" = some (.ref aNoNumber)
  aNoPatience : Addr
  gNoPatience : mg "NoPatience" = some (.ref aNoPatience)
  aNobody : Addr
  gNobody : mg "Nobody" = some (.ref aNobody)
  aNothing : Addr
  gNothing : mg "Nothing" = some (.ref aNothing)
  aNoHistory : Addr
  gNoHistory : mg "NoHistory" = some (.ref aNoHistory)
  aNoForm : Addr
  gNoForm : mg "NoForm" = some (.ref aNoForm)
  aNoneYet : Addr
  gNoneYet : mg "NoneYet" = some (.ref aNoneYet)
  ve : mg "ValueError" = none
def clsWs (b1 b2 : Bool) : List (Str × Bool) := [("NoText", b1), ("NoPlan", b2)]
def metW (l : List (Str × Bool)) : List Str := (l.filter (·.2)).map (·.1)
theorem clsVs : ∀ l : List Addr, Paired ClsV (l.map V.ref) (l.map Value.ref)
  | [] => .nil
  | a :: l => .cons (.own a) (clsVs l)
/-- what the classes say of the class D -/
structure ClsF (K : PySem.W.Frag) (mg : Str → Option Value) (G : ClsG K mg) (D : Addr) (b1 b2 : Bool) : Prop where
  ex : L2.ExcC K D
  ve : PySem.W.kitOne K (.ref D) (.type "ValueError") = some true
  o0 : PySem.W.kitAny K (.ref D) ([G.aNoPerson, G.aNoMoment, G.aTooMany, G.aNoOther, G.aNoPlace, G.aNoEnd].map Value.ref) = some false
  o1 : PySem.W.kitAny K (.ref D) ([G.aNoOrder, G.aNoNumber, G.aNoPatience, G.aNobody, G.aNothing, G.aNoHistory].map Value.ref) = some false
  o2 : PySem.W.kitAny K (.ref D) ([G.aNoForm, G.aNoneYet].map Value.ref) = some false
  kb1 : PySem.W.kitOne K (.ref D) (.ref G.aNoText) = some b1
  kb2 : PySem.W.kitOne K (.ref D) (.ref G.aNoPlan) = some b2
/-- D is that word's class -/
def ClsW (K : PySem.W.Frag) (mg : Str → Option Value) (G : ClsG K mg) (D : Addr) (word : Str) : Prop := ∃ b1 b2, ClsF K mg G D b1 b2 ∧ metW (clsWs b1 b2) = [word]
def spClass (K : PySem.W.Frag) (mg : Str → Option Value) (G : ClsG K mg) : Addr → Option Addr → Addr → Sp := fun a d D vs H Q _ => ∃ word, vs = [.ref a] ∧ XdAt d H ∧ ClsW K mg G D word ∧ ∀ H', Same H H' → Q (.str word) H'
section
variable {P : Program} {w : World} {K : PySem.W.Frag} {mg : Str → Option Value} {base : Heap}
theorem ok_class {f : Addr} {fd : FuncData} (F : Fun K "_law_class" "_law_class" sClass f fd) (T : Nm mg) (G : ClsG K mg) : FnP P w K mg base 1 f fd ["caught"] (spClass K mg G) := by
  refine fnP_of F scClass (fun a d D vs H Q E ⟨word, e, _⟩ => by rw [e]; rfl) (fun cdv A outer s H vs Q E p d D h1 z hr h => ?_)
  obtain ⟨word, rfl, hXd, ⟨b1, b2, KF, hw⟩, q⟩ := h
  have nd := scClass.nd
  have pm : p ∈ (L2H.cxH CX0 P w K mg base nClass "_law_class" (defScope sClass) f cdv A outer s H E p).pn := List.mem_singleton.mpr rfl
  have hot : L2H.HotC (L2H.cxH CX0 P w K mg base nClass "_law_class" (defScope sClass) f cdv A outer s H E p) := ⟨p, h1, pm⟩
  refine ⟨_, (pss_cons (ps_set (i := 1) nd rfl (.inl rfl) (pe_not (pe_callB (call_isP pm z h1) (by rfl) T.isi (by decide +kernel) (pa_cons (pv 0) (pa_cons (pe_bltn (v := .ty "ValueError") (by rfl) G.ve (by decide +kernel) rfl) pa_nil)))))
    (pss_cons (ps_set (i := 1) nd rfl (.inl rfl) (pe_or (pv 1) (pe_one (pe_callB (call_isPT pm z h1) (by rfl) T.isi (by decide +kernel) (pa_cons (pv 0) (pa_cons (pe_tup (pa_cons (pe_glob (v := .ref G.aNoPerson) (by rfl) G.gNoPerson rfl (by decide)) (pa_cons (pe_glob (v := .ref G.aNoMoment) (by rfl) G.gNoMoment rfl (by decide)) (pa_cons (pe_glob (v := .ref G.aTooMany) (by rfl) G.gTooMany rfl (by decide)) (pa_cons (pe_glob (v := .ref G.aNoOther) (by rfl) G.gNoOther rfl (by decide)) (pa_cons (pe_glob (v := .ref G.aNoPlace) (by rfl) G.gNoPlace rfl (by decide)) (pa_cons (pe_glob (v := .ref G.aNoEnd) (by rfl) G.gNoEnd rfl (by decide)) pa_nil))))))) pa_nil))))))
    (pss_cons (ps_set (i := 1) nd rfl (.inl rfl) (pe_or (pv 1) (pe_one (pe_callB (call_isPT pm z h1) (by rfl) T.isi (by decide +kernel) (pa_cons (pv 0) (pa_cons (pe_tup (pa_cons (pe_glob (v := .ref G.aNoOrder) (by rfl) G.gNoOrder rfl (by decide)) (pa_cons (pe_glob (v := .ref G.aNoNumber) (by rfl) G.gNoNumber rfl (by decide)) (pa_cons (pe_glob (v := .ref G.aNoPatience) (by rfl) G.gNoPatience rfl (by decide)) (pa_cons (pe_glob (v := .ref G.aNobody) (by rfl) G.gNobody rfl (by decide)) (pa_cons (pe_glob (v := .ref G.aNothing) (by rfl) G.gNothing rfl (by decide)) (pa_cons (pe_glob (v := .ref G.aNoHistory) (by rfl) G.gNoHistory rfl (by decide)) pa_nil))))))) pa_nil))))))
    (pss_cons (ps_set (i := 1) nd rfl (.inl rfl) (pe_or (pv 1) (pe_one (pe_callB (call_isPT pm z h1) (by rfl) T.isi (by decide +kernel) (pa_cons (pv 0) (pa_cons (pe_tup (pa_cons (pe_glob (v := .ref G.aNoForm) (by rfl) G.gNoForm rfl (by decide)) (pa_cons (pe_glob (v := .ref G.aNoneYet) (by rfl) G.gNoneYet rfl (by decide)) pa_nil))) pa_nil))))))
    (pss_cons (ps_set (i := 2) nd rfl (.inl rfl) (pe_lst pa_nil))
    (pss_cons (ps_expr (pe_bm PySem.F.plainAttrs_list PySem.F.slot_list_append PySem.F.type_list_append mt_append (pv 2) (pa_cons (pe_tup (pa_cons pe_str (pa_cons (pe_callB (call_isP pm z h1) (by rfl) T.isi (by decide +kernel) (pa_cons (pv 0) (pa_cons (pe_glob (v := .ref G.aNoText) (by rfl) G.gNoText rfl (by decide)) pa_nil))) pa_nil))) pa_nil)))
    (pss_cons (ps_expr (pe_bm PySem.F.plainAttrs_list PySem.F.slot_list_append PySem.F.type_list_append mt_append (pv 2) (pa_cons (pe_tup (pa_cons pe_str (pa_cons (pe_callB (call_isP pm z h1) (by rfl) T.isi (by decide +kernel) (pa_cons (pv 0) (pa_cons (pe_glob (v := .ref G.aNoPlan) (by rfl) G.gNoPlan rfl (by decide)) pa_nil))) pa_nil))) pa_nil)))
    (pss_cons (ps_setLcH (i := 3) (own := [("word", 4), ("there", 5)]) (g := gTup K 2 (gCons (gName 4) (gCons (gName 5) gNil))) hot nd rfl rfl (sw_true rfl rfl rfl (by decide +kernel)) (pv 2) (blkOk_by (N := nClass) (sc := defScope sClass) (by decide +kernel))
      (fun _ _ _ _ _ => pgh_tup (pgs_cons (pg_name (i := 4) nd rfl (.inl rfl) (.inr rfl)) (pgs_cons (pg_name (i := 5) nd rfl (.inl rfl) (.inr rfl)) pgs_nil))) (fun _ _ _ _ _ => pts_one (pt_val (pv 5))) (fun _ _ _ _ _ => pv 4))
    (pss_one (ps_ret (pe_ifExp (PW.pt (pw_and (pt_cmpR op_eq (pe_callB call_len_seq (by rfl) T.len PySem.boot_len (pa_cons (pv 3) pa_nil)) pe_int (nomark _)) (pw_and1 (pt_not (pt_val (pv 1)))))) (pe_ix ix_list (pv 3) pe_int (fun _ _ => rfl)) pe_str))))))))))), ?_⟩
  have two : ∀ {x y : V}, [x, y].length ≤ sizeLine := fun {x y} => small_le (by show 2 ≤ 1000; decide)
  refine ⟨.ref p.1, rfl, .ty "ValueError", .type "ValueError", true, rfl, hXd, KF.ex, .ty _, KF.ve, true, rfl, ?_⟩
  refine ⟨.bl false, rfl, false, rfl, iteF ⟨.ref p.1, rfl, small_le (by show 6 ≤ 1000; decide), fun o0 no0 => ?_⟩⟩
  have so0 : Same H (upd H o0 (.tup [.ref G.aNoPerson, .ref G.aNoMoment, .ref G.aTooMany, .ref G.aNoOther, .ref G.aNoPlace, .ref G.aNoEnd])) := same_upd no0
  have to0 : (upd H o0 (.tup [.ref G.aNoPerson, .ref G.aNoMoment, .ref G.aTooMany, .ref G.aNoOther, .ref G.aNoPlace, .ref G.aNoEnd])) o0 = some (.tup ([G.aNoPerson, G.aNoMoment, G.aTooMany, G.aNoOther, G.aNoPlace, G.aNoEnd].map V.ref)) := upd_same
  generalize upd H o0 (.tup [.ref G.aNoPerson, .ref G.aNoMoment, .ref G.aTooMany, .ref G.aNoOther, .ref G.aNoPlace, .ref G.aNoEnd]) = Ha0 at so0 to0 ⊢
  have hXo0 := hXd.same so0
  refine ⟨o0, _, _, false, rfl, hXo0, KF.ex, to0, clsVs _, KF.o0, ?_⟩
  refine ⟨.bl false, rfl, false, rfl, iteF ⟨.ref p.1, rfl, small_le (by show 6 ≤ 1000; decide), fun o1 no1 => ?_⟩⟩
  have so1 : Same Ha0 (upd Ha0 o1 (.tup [.ref G.aNoOrder, .ref G.aNoNumber, .ref G.aNoPatience, .ref G.aNobody, .ref G.aNothing, .ref G.aNoHistory])) := same_upd no1
  have to1 : (upd Ha0 o1 (.tup [.ref G.aNoOrder, .ref G.aNoNumber, .ref G.aNoPatience, .ref G.aNobody, .ref G.aNothing, .ref G.aNoHistory])) o1 = some (.tup ([G.aNoOrder, G.aNoNumber, G.aNoPatience, G.aNobody, G.aNothing, G.aNoHistory].map V.ref)) := upd_same
  generalize upd Ha0 o1 (.tup [.ref G.aNoOrder, .ref G.aNoNumber, .ref G.aNoPatience, .ref G.aNobody, .ref G.aNothing, .ref G.aNoHistory]) = Ha1 at so1 to1 ⊢
  have hXo1 := hXo0.same so1
  refine ⟨o1, _, _, false, rfl, hXo1, KF.ex, to1, clsVs _, KF.o1, ?_⟩
  refine ⟨.bl false, rfl, false, rfl, iteF ⟨.ref p.1, rfl, small_le (by show 2 ≤ 1000; decide), fun o2 no2 => ?_⟩⟩
  have so2 : Same Ha1 (upd Ha1 o2 (.tup [.ref G.aNoForm, .ref G.aNoneYet])) := same_upd no2
  have to2 : (upd Ha1 o2 (.tup [.ref G.aNoForm, .ref G.aNoneYet])) o2 = some (.tup ([G.aNoForm, G.aNoneYet].map V.ref)) := upd_same
  generalize upd Ha1 o2 (.tup [.ref G.aNoForm, .ref G.aNoneYet]) = Ha2 at so2 to2 ⊢
  have hXo2 := hXo1.same so2
  refine ⟨o2, _, _, false, rfl, hXo2, KF.ex, to2, clsVs _, KF.o2, ?_⟩
  refine ⟨Nat.zero_le _, fun l nl => ?_⟩
  have sl : Same Ha2 (upd Ha2 l (.lst [])) := same_upd nl
  have tl0 : (upd Ha2 l (.lst [])) l = some (.lst []) := upd_same
  show tSeq _ _ _ [some (.ref p.1), some (.bl false), some (.ref l), none, none, none] (upd Ha2 l (.lst []))
  have sH : Same H Ha2 := ((so0).trans so1).trans so2
  generalize hL : upd Ha2 l (.lst []) = HL at sl tl0 ⊢
  have nlH : H l = none := by
    cases e : H l with
    | none => rfl
    | some o => rw [sH _ _ e] at nl; cases nl
  have s0 : Same H HL := sH.trans sl
  -- NoText
  refine ⟨.ref l, rfl, .inl ⟨rfl, _, SqL.of tl0⟩, .ref p.1, rfl, .ref G.aNoText, .ref G.aNoText, b1, rfl, hXd.same s0, KF.ex, .own _, KF.kb1, two, fun p1 np1 => ?_⟩
  have up1 : Same HL (upd HL p1 (.tup [.str "NoText", .bl b1])) := same_upd np1
  have tp1 : (upd HL p1 (.tup [.str "NoText", .bl b1])) p1 = some (.tup [.str "NoText", .bl b1]) := upd_same
  generalize upd HL p1 (.tup [.str "NoText", .bl b1]) = Hb1 at up1 tp1 ⊢
  have m0 := up1 _ _ tl0
  refine ⟨l, _, .ref p1, rfl, rfl, m0, small1000 (by show 0 ≤ 1000; decide), ?_⟩
  have tl1 : (upd Hb1 l (.lst ([] ++ [.ref p1]))) l = some (.lst [.ref p1]) := upd_same
  have s1 : Same H (upd Hb1 l (.lst ([] ++ [.ref p1]))) := fun b o e => by
    rw [upd_ne (fun y => by rw [y, nlH] at e; cases e)]
    exact up1 _ _ (s0 _ _ e)
  have ne0 : ∀ {b : Addr} {xs : List V}, Hb1 b = some (.tup xs) → b ≠ l := fun {b xs} e y => by rw [y, m0] at e; cases e
  have tp1 : (upd Hb1 l (.lst ([] ++ [.ref p1]))) p1 = some (.tup [.str "NoText", .bl b1]) := by rw [upd_ne (ne0 tp1)]; exact tp1
  generalize upd Hb1 l (.lst ([] ++ [.ref p1])) = Hc1 at s1 tl1  tp1 ⊢
  -- NoPlan
  refine ⟨.ref l, rfl, .inl ⟨rfl, _, SqL.of tl1⟩, .ref p.1, rfl, .ref G.aNoPlan, .ref G.aNoPlan, b2, rfl, hXd.same s1, KF.ex, .own _, KF.kb2, two, fun p2 np2 => ?_⟩
  have up2 : Same Hc1 (upd Hc1 p2 (.tup [.str "NoPlan", .bl b2])) := same_upd np2
  have tp2 : (upd Hc1 p2 (.tup [.str "NoPlan", .bl b2])) p2 = some (.tup [.str "NoPlan", .bl b2]) := upd_same
  generalize upd Hc1 p2 (.tup [.str "NoPlan", .bl b2]) = Hb2 at up2 tp2 ⊢
  have m1 := up2 _ _ tl1
  refine ⟨l, _, .ref p2, rfl, rfl, m1, small1000 (by show 1 ≤ 1000; decide), ?_⟩
  have tl2 : (upd Hb2 l (.lst ([.ref p1] ++ [.ref p2]))) l = some (.lst [.ref p1, .ref p2]) := upd_same
  have s2 : Same H (upd Hb2 l (.lst ([.ref p1] ++ [.ref p2]))) := fun b o e => by
    rw [upd_ne (fun y => by rw [y, nlH] at e; cases e)]
    exact up2 _ _ (s1 _ _ e)
  have ne1 : ∀ {b : Addr} {xs : List V}, Hb2 b = some (.tup xs) → b ≠ l := fun {b xs} e y => by rw [y, m1] at e; cases e
  have tp1 : (upd Hb2 l (.lst ([.ref p1] ++ [.ref p2]))) p1 = some (.tup [.str "NoText", .bl b1]) := by rw [upd_ne (ne1 (up2 _ _ tp1))]; exact up2 _ _ tp1
  have tp2 : (upd Hb2 l (.lst ([.ref p1] ++ [.ref p2]))) p2 = some (.tup [.str "NoPlan", .bl b2]) := by rw [upd_ne (ne1 tp2)]; exact tp2
  generalize upd Hb2 l (.lst ([.ref p1] ++ [.ref p2])) = Hc2 at s2 tl2 tp1 tp2 ⊢
  have items : ∀ (j : Nat) (x : V), [V.ref p1, .ref p2][j]? = some x → ∃ b wd so, x = .ref b ∧ Hc2 b = some (.tup [.str wd, .bl so]) ∧ (clsWs b1 b2)[j]? = some (wd, so) := fun j x hx => by
    match j, hx with
    | 0, hx => cases hx; exact ⟨p1, _, _, rfl, tp1, rfl⟩
    | 1, hx => cases hx; exact ⟨p2, _, _, rfl, tp2, rfl⟩
  refine ⟨.ref l, rfl, l, [V.ref p1, .ref p2], rfl, SqL.of tl2, fun D2 n2 => ?_⟩
  refine ⟨fun j H' => H' = upd Hc2 D2 (.lst ((metW ((clsWs b1 b2).take j)).map V.str)), rfl, fun j H' e => by rw [e]; exact SqL.of ((same_upd n2 : Same Hc2 _) _ _ tl2), fun j x H' hx e => ?_, fun H' e => ?_⟩
  · subst e
    obtain ⟨b, wd, so, rfl, hb, hk⟩ := items j x hx
    have hb' := (same_upd n2 : Same Hc2 (upd Hc2 D2 (.lst ((metW ((clsWs b1 b2).take j)).map V.str)))) _ _ hb
    have est : metW ((clsWs b1 b2).take (j + 1)) = metW ((clsWs b1 b2).take j) ++ (if so = true then [wd] else []) := by
      unfold metW
      rw [List.take_add_one, hk, List.filter_append, List.map_append]
      cases so <;> rfl
    have len : ((metW ((clsWs b1 b2).take j)).map V.str).length < sizeLine := by
      unfold metW
      rw [List.length_map, List.length_map]
      have y1 := List.length_filter_le (fun x : Str × Bool => x.2) ((clsWs b1 b2).take j)
      have y2 : ((clsWs b1 b2).take j).length ≤ 2 := by rw [List.length_take]; exact Nat.min_le_right _ _
      exact small1000 (by omega)
    refine ⟨b, [.str wd, .bl so], rfl, SqT.of hb', rfl, .str wd, [.bl so], rfl, .bl so, [], rfl, rfl, rfl, .bl so, rfl, so, rfl, ?_⟩
    cases so with
    | false =>
      refine iteF ?_
      show upd Hc2 D2 (.lst ((metW ((clsWs b1 b2).take j)).map V.str)) = upd Hc2 D2 (.lst ((metW ((clsWs b1 b2).take (j + 1))).map V.str))
      rw [est]
      show _ = upd Hc2 D2 (.lst ((metW ((clsWs b1 b2).take j) ++ []).map V.str))
      rw [List.append_nil]
    | true =>
      refine iteT ⟨.str wd, rfl, _, upd_same, len, ?_⟩
      show _ = upd Hc2 D2 (.lst ((metW ((clsWs b1 b2).take (j + 1))).map V.str))
      rw [est, upd_upd, List.map_append]
      rfl
  · have e2 : H' = upd Hc2 D2 (.lst [.str word]) := by
      rw [e]
      show upd Hc2 D2 (.lst ((metW ((clsWs b1 b2).take 2)).map V.str)) = _
      have all : (clsWs b1 b2).take 2 = clsWs b1 b2 := rfl
      rw [all, hw]
      rfl
    subst e2
    have sF : Same H (upd Hc2 D2 (.lst [.str word])) := s2.trans (same_upd n2)
    have em : (upd Hc2 D2 (.lst [.str word])) D2 = some (.lst [.str word]) := upd_same
    refine ⟨.ref D2, rfl, D2, _, rfl, .inl (SqL.of em), rfl, _, rfl, ite2 (fun _ => ?_) (fun y => absurd (show decide (V.int ((1 : Nat) : Int) = V.int 1) = true from by decide) y)⟩
    refine ⟨.bl false, rfl, false, rfl, iteT ⟨.ref D2, rfl, D2, _, 0, .str word, rfl, rfl, SqL.of em, atI_nat (j := 0) rfl, q _ sF⟩⟩
end
end CL
set_option Elab.async false
set_option linter.all false
set_option maxRecDepth 100000
set_option maxHeartbeats 4000000
namespace CL
open PySem PySem.Spec PyProof.Rows L2 GE
abbrev sBag : Stmt := topS 42
abbrev sStir : Stmt := topS 43
abbrev sDraw : Stmt := topS 44
theorem scBag : FnScope ["script", "total", "cell"] ["script"] (defScope sBag) := ⟨rfl, rfl, rfl, by decide +kernel, rfl, by decide +kernel, by decide +kernel⟩
theorem scStir : FnScope ["number", "place", "one", "two"] ["number", "place"] (defScope sStir) := ⟨rfl, rfl, rfl, by decide +kernel, rfl, by decide +kernel, by decide +kernel⟩
theorem scDraw : FnScope ["bag", "many", "cell", "found"] ["bag", "many"] (defScope sDraw) := ⟨rfl, rfl, rfl, by decide +kernel, rfl, by decide +kernel, by decide +kernel⟩
abbrev MSP : Int := 2305843009213693951
theorem t64 : (2 : Int) ^ 64 = 18446744073709551616 := by decide +kernel
abbrev M60 : Nat := 1000000000000000000
/-- a bag's place, and its cells' -/
structure Bg where
  a : Addr
  c : Addr
/-- the bag: the cells, which is next, what is left of one, how many draws (n at most), a number mixed -/
structure BagAt (n : Nat) (H : Hp) (r : Bg) : Prop where
  ex : ∃ (ns : List Int) (i : Nat) (b k t : Int), H r.a = some (.lst [.ref r.c, .int i, .int b, .int k, .int t]) ∧ H r.c = some (.lst (ns.map V.int)) ∧ i ≤ ns.length ∧ 0 ≤ b ∧ 0 ≤ k ∧ k ≤ n ∧ 0 ≤ t ∧ t < MSP
/-- all but the bag stays -/
structure Mv (r : Bg) (H H' : Hp) : Prop where
  keep : ∀ b o, b ≠ r.a → H b = some o → H' b = some o
theorem Mv.refl (r : Bg) (H : Hp) : Mv r H H := ⟨fun _ _ _ h => h⟩
theorem Mv.of {r : Bg} {H H' : Hp} (s : Same H H') : Mv r H H' := ⟨fun b o _ h => s b o h⟩
theorem Mv.trans {r : Bg} {H H1 H2 : Hp} (a : Mv r H H1) (b : Mv r H1 H2) : Mv r H H2 := ⟨fun c o n h => b.keep c o n (a.keep c o n h)⟩
theorem Mv.upd {r : Bg} {p : Addr} {H H' : Hp} {o : HO} (m : Mv r H H') (hn : H p = none) : Mv r H (upd H' p o) := ⟨fun b x nb e => by
  rw [upd_ne (ne_of_none e hn)]
  exact m.keep b x nb e⟩
theorem BagAt.mono {n m : Nat} {H : Hp} {r : Bg} (h : BagAt n H r) (l : n ≤ m) : BagAt m H r := by
  obtain ⟨ns, i, b, k, t, er, ec, hi, hb, hk, hn, ht⟩ := h
  exact ⟨ns, i, b, k, t, er, ec, hi, hb, hk, by omega, ht⟩
theorem BagAt.same {n : Nat} {r : Bg} {H H' : Hp} (s : Same H H') (hr : BagAt n H r) : BagAt n H' r := by
  obtain ⟨ns, i, b, k, t, er, ec, h⟩ := hr
  exact ⟨ns, i, b, k, t, s _ _ er, s _ _ ec, h⟩
theorem BagAt.some {n : Nat} {r : Bg} {H : Hp} (hr : BagAt n H r) : H r.a ≠ none := by
  obtain ⟨ns, i, b, k, t, er, h⟩ := hr
  rw [er]
  exact nofun
theorem BagAt.someC {n : Nat} {r : Bg} {H : Hp} (hr : BagAt n H r) : H r.c ≠ none := by
  obtain ⟨ns, i, b, k, t, er, ec, h⟩ := hr
  rw [ec]
  exact nofun
/-- a place that is neither -/
structure Off (r : Bg) (p : Addr) : Prop where
  a : p ≠ r.a
  c : p ≠ r.c
theorem BagAt.new {n : Nat} {r : Bg} {p : Addr} {H : Hp} (hr : BagAt n H r) (np : H p = none) : Off r p := ⟨fun z => hr.some (by rw [← z]; exact np), fun z => hr.someC (by rw [← z]; exact np)⟩
theorem BagAt.store {n : Nat} {r : Bg} {p : Addr} {H : Hp} {o : HO} (hr : BagAt n H r) (f : Off r p) : BagAt n (upd H p o) r := by
  obtain ⟨ns, i, b, k, t, er, ec, h⟩ := hr
  exact ⟨ns, i, b, k, t, by rw [upd_ne (Ne.symm f.a)]; exact er, by rw [upd_ne (Ne.symm f.c)]; exact ec, h⟩
theorem BagAt.kx {n : Nat} {r : Bg} {H H' : Hp} (h : BagAt n H r) (e : Ex H H') : BagAt n H' r := by
  obtain ⟨ns, i, b, k, t, er, ec, h⟩ := h
  exact ⟨ns, i, b, k, t, e.lst er, e.lst ec, h⟩
theorem bag_ne {c r : Addr} {H : Hp} {ns : List Int} {vs : List V} (er : H r = some (.lst (.ref c :: vs))) (ec : H c = some (.lst (ns.map V.int))) : c ≠ r := fun z => by
  rw [z, er] at ec
  cases ns with
  | nil => simp at ec
  | cons x ns => simp at ec
theorem mem_keep {r : Bg} {b : Addr} {H H' : Hp} (m : Mv r H H') (n : b ≠ r.a) (h : H b ≠ none) : H' b ≠ none := fun z => by
  cases q : H b with
  | none => exact h q
  | some o =>
    rw [m.keep b o n q] at z
    cases z
def spStir : Sp := fun vs H Q _ => ∃ a b : Int, vs = [.int a, .int b] ∧ 0 ≤ a ∧ a < MSP ∧ 0 ≤ b ∧ b ≤ (M60 : Int) ∧ ∀ x, Q (.int x) H
def spDraw (r : Bg) : Sp := fun vs H Q _ => ∃ (m : Int) (n : Nat), vs = [.ref r.a, .int m] ∧ BagAt n H r ∧ n < M60 ∧ 1 ≤ m ∧ m < 2 ^ 140 ∧ ∀ x H', BagAt (n + 1) H' r → Mv r H H' → 0 ≤ x → x < m → Q (.int x) H'
def spBag (K : PySem.W.Frag) : Sp := fun vs H Q _ => ∃ (a : Addr) (ns : List Int), vs = [.ref a] ∧ SqL K H a (ns.map V.int) ∧ ∀ (r : Bg) H', Same H H' → H r.a = none → BagAt 0 H' r → Q (.ref r.a) H'
section
variable {P : Program} {w : World} {K : PySem.W.Frag} {mg : Str → Option Value} {base : Heap}
theorem ok_stir {f : Addr} {fd : FuncData} (F : Fun K "_law_stir" "_law_stir" sStir f fd) : FnOk P w K mg base CX0 1 f fd ["number", "place"] spStir := by
  refine F.ok scStir (fun vs H Q E ⟨a, b, e, _⟩ => by rw [e]; rfl) (fun cdv A outer s H vs Q E hr h => ?_)
  obtain ⟨a, b, rfl, a0, a1, b0, b1, q⟩ := h
  have nd := scStir.nd
  refine ⟨_, pss_cons (ps_set (i := 2) nd rfl (.inl rfl) (pe_op op_mod (pe_op op_add (pe_op op_add (pe_op op_mul (pv 0) pe_int) (pe_op op_mul (pv 1) pe_int)) pe_int) pe_int))
    (pss_cons (ps_set (i := 3) nd rfl (.inl rfl) (pe_op op_mod (pe_op op_mul (pv 2) (pv 2)) pe_int))
    (pss_one (ps_ret (pe_op op_fdiv (pe_op op_mod (pe_op op_add (pe_op op_add (pe_op op_mul (pv 3) pe_int) (pe_op op_mul (pe_op op_mul (pv 1) (pv 1)) pe_int)) (pe_op op_fdiv (pv 2) pe_int)) pe_int) pe_int)))), ?_⟩
  have a1' : a < 2305843009213693951 := a1
  have b1' : b ≤ 1000000000000000000 := b1
  refine ⟨.int a, rfl, a, 998244353, rfl, rfl, .inr ⟨by decide, by decide⟩, .int b, rfl, b, 1000000007, rfl, rfl, .inr ⟨by decide, by decide⟩, _, _, rfl, rfl, _, 5, rfl, rfl, _, _, rfl, rfl, (by show (0 : Int) < 2305843009213693951; decide), ?_⟩
  show tSeq _ _ _ [some (.int a), some (.int b), some (.int ((a * 998244353 + b * 1000000007 + 5) % 2305843009213693951)), none] H
  generalize hz : (a * 998244353 + b * 1000000007 + 5) % 2305843009213693951 = z
  have z0 : 0 ≤ z := by rw [← hz]; exact Int.emod_nonneg _ (by decide)
  have z1 : z < 2305843009213693951 := by rw [← hz]; exact Int.emod_lt_of_pos _ (by decide)
  refine ⟨.int z, rfl, .int z, rfl, z, z, rfl, rfl, .inl ⟨by rw [t64]; omega, by rw [t64]; omega⟩, _, _, rfl, rfl, (by show (0 : Int) < 2305843009213693951; decide), ?_⟩
  refine ⟨.int (z * z % 2305843009213693951), rfl, z * z % 2305843009213693951, 2860486313, rfl, rfl, .inr ⟨by decide, by decide⟩, .int b, rfl, .int b, rfl, b, b, rfl, rfl, .inl ⟨by rw [t64]; omega, by rw [t64]; omega⟩, _, 48271, rfl, rfl, .inr ⟨by decide, by decide⟩, _, _, rfl, rfl, .int z, rfl, z, 3, rfl, rfl, ⟨by decide, by decide⟩, _, _, rfl, rfl, _, _, rfl, rfl, (by show (0 : Int) < 2305843009213693921; decide), _, _, rfl, rfl, ⟨by decide, by decide⟩, ?_⟩
  exact q _
theorem ok_draw {f : Addr} {r : Bg} {fd : FuncData} (F : Fun K "_law_draw" "_law_draw" sDraw f fd) (hlen : mg "len" = none) (CS : Cal P w K mg base 1 "_law_stir" ["number", "place"] spStir) : FnOk P w K mg base CX0 2 f fd ["bag", "many"] (spDraw r) := by
  refine F.ok scDraw (fun vs H Q E ⟨m, n, e, _⟩ => by rw [e]; rfl) (fun cdv A outer s H vs Q E hr h => ?_)
  obtain ⟨m, n, rfl, ⟨ns, i, b, k, t, er, ec, hi, hb, hk, hn, ht0, ht1⟩, hn1, m1, m2, q⟩ := h
  have nd := scDraw.nd
  refine ⟨_, pss_cons (ps_if (pt_cmpR op_eq (pv 1) pe_int (nomark _)) (pss_one (ps_ret pe_int)) pss_nil)
    (pss_cons (ps_asg (pe_op op_add (pe_ix ix_list (pv 0) pe_int (fun _ _ => rfl)) pe_int) (pg_sub (pv 0) pe_int set_list))
    (pss_cons (ps_if (PW.pt (pw_and (pt_cmpR op_lt (pe_ix ix_list (pv 0) pe_int (fun _ _ => rfl)) pe_int (nomark _)) (pw_and1 (pt_cmpR op_eq (pe_ix ix_list (pv 0) pe_int (fun _ _ => rfl)) (pe_callB call_len_seq (by rfl) hlen PySem.boot_len (pa_cons (pe_ix ix_list (pv 0) pe_int (fun _ _ => rfl)) pa_nil)) (nomark _)))))
      (pss_one (ps_ret (pe_op op_mod (pe_cal CS hr (by rfl) (pa_cons (pe_ix ix_list (pv 0) pe_int (fun _ _ => rfl)) (pa_cons (pe_ix ix_list (pv 0) pe_int (fun _ _ => rfl)) pa_nil))) (pv 1)))) pss_nil)
    (pss_cons (ps_if (pt_cmpR op_lt (pe_ix ix_list (pv 0) pe_int (fun _ _ => rfl)) pe_int (nomark _))
      (pss_cons (ps_set (i := 2) nd rfl (.inl rfl) (pe_ix ix_list (pe_ix ix_list (pv 0) pe_int (fun _ _ => rfl)) (pe_ix ix_list (pv 0) pe_int (fun _ _ => rfl)) (fun _ _ => rfl)))
      (pss_cons (ps_asg (pe_op op_add (pe_ix ix_list (pv 0) pe_int (fun _ _ => rfl)) pe_int) (pg_sub (pv 0) pe_int set_list))
      (pss_cons (ps_if (pt_cmpR op_lt (pv 2) (pe_op op_pow pe_int pe_int) (nomark _)) (pss_one (ps_ret (pe_op op_mod (pe_cal CS hr (by rfl) (pa_cons (pe_op op_mod (pv 2) pe_int) (pa_cons (pe_ix ix_list (pv 0) pe_int (fun _ _ => rfl)) pa_nil))) (pv 1)))) pss_nil)
      (pss_one (ps_asg (pe_op op_sub (pv 2) (pe_op op_pow pe_int pe_int)) (pg_sub (pv 0) pe_int set_list)))))) pss_nil)
    (pss_cons (ps_set (i := 3) nd rfl (.inl rfl) (pe_op op_mod (pe_ix ix_list (pv 0) pe_int (fun _ _ => rfl)) (pv 1)))
    (pss_cons (ps_asg (pe_op op_fdivW (pe_ix ix_list (pv 0) pe_int (fun _ _ => rfl)) (pv 1)) (pg_sub (pv 0) pe_int set_list))
    (pss_one (ps_ret (pv 3)))))))), ?_⟩
  have hcr := bag_ne er ec
  have mdiv : ∀ f : Int, CDivW f m := fun f => wide_div (b := 140) (by omega) (by omega) (by decide) (by decide)
  have mp : (0 : Int) < m := by omega
  refine ⟨.int m, rfl, rfl, _, rfl, ite2 (fun e => ?_) (fun _ => ?_)⟩
  · exact q 0 H (BagAt.mono (n := n) ⟨ns, i, b, k, t, er, ec, hi, hb, hk, hn, ht0, ht1⟩ (Nat.le_succ n)) (Mv.refl r H) (Int.le_refl 0) mp
  -- the counter
  refine ⟨.ref r.a, rfl, r.a, _, 3, .int k, rfl, rfl, SqL.of er, atI_nat (j := 3) rfl, k, 1, rfl, rfl, .ref r.a, rfl, r.a, _, 3, 3, rfl, rfl, er, rfl, ?_⟩
  show tSeq _ _ _ _ (upd H r.a (.lst [.ref r.c, .int i, .int b, .int (k + 1), .int t]))
  have m1' : Mv r H (upd H r.a (.lst [.ref r.c, .int i, .int b, .int (k + 1), .int t])) := ⟨fun b o nb e => by rw [upd_ne nb]; exact e⟩
  have er1 : (upd H r.a (.lst [.ref r.c, .int i, .int b, .int (k + 1), .int t])) r.a = some (.lst [.ref r.c, .int i, .int b, .int (k + 1), .int t]) := upd_same
  generalize upd H r.a (.lst [.ref r.c, .int i, .int b, .int (k + 1), .int t]) = H1 at m1' er1
  have ec1 := m1'.keep r.c _ hcr ec
  have fin1 : ∀ x : Int, Q (.int (x % m)) H1 := fun x => q _ H1 ⟨ns, i, b, k + 1, t, er1, ec1, hi, hb, by omega, by omega, ht0, ht1⟩ m1' (Int.emod_nonneg _ (by omega)) (Int.emod_lt_of_pos _ mp)
  have last : ∀ (H2 : Hp) (i2 : Nat) (b2 : Int) (y : Option V), Mv r H H2 → H2 r.a = some (.lst [.ref r.c, .int i2, .int b2, .int (k + 1), .int t]) → i2 ≤ ns.length → 0 ≤ b2 → ∀ x : Int, x = b2 % m → Q (.int x) (upd H2 r.a (.lst [.ref r.c, .int i2, .int (b2 / m), .int (k + 1), .int t])) := fun H2 i2 b2 y mv e2 hi2 hb2 x hx => by
    rw [hx]
    exact q _ _ ⟨ns, i2, b2 / m, k + 1, t, upd_same, by rw [upd_ne hcr]; exact mv.keep r.c _ hcr ec, hi2, Int.ediv_nonneg hb2 (by omega), by omega, by omega, ht0, ht1⟩ ⟨fun b o nb e => by rw [upd_ne nb]; exact mv.keep b o nb e⟩ (Int.emod_nonneg _ (by omega)) (Int.emod_lt_of_pos _ mp)
  refine ⟨.ref r.a, rfl, r.a, _, 2, .int b, rfl, rfl, SqL.of er1, atI_nat (j := 2) rfl, b, 2, rfl, rfl, decide (b < 2), rfl, ?_⟩
  by_cases hb2 : b < 2
  · rw [decide_eq_true hb2]
    refine iteT ⟨.ref r.a, rfl, r.a, _, 1, .int i, rfl, rfl, SqL.of er1, atI_nat (j := 1) rfl, .ref r.a, rfl, r.a, _, 0, .ref r.c, rfl, rfl, SqL.of er1, atI_nat (j := 0) rfl, r.c, _, rfl, .inl (SqL.of ec1), rfl, _, rfl, ite2 (fun e => ?_) (fun e => ?_)⟩
    · refine ⟨.ref r.a, rfl, r.a, _, 4, .int t, rfl, rfl, SqL.of er1, atI_nat (j := 4) rfl, .ref r.a, rfl, r.a, _, 3, .int (k + 1), rfl, rfl, SqL.of er1, atI_nat (j := 3) rfl, t, k + 1, rfl, ht0, ht1, by omega, by omega, fun x => ?_⟩
      exact ⟨.int m, rfl, x, m, rfl, rfl, mp, fin1 x⟩
    · have hi2 : i < ns.length := by
        rcases Nat.lt_or_ge i ns.length with z | z
        · exact z
        · refine absurd ?_ e
          have : i = ns.length := by omega
          rw [this, List.length_map]
          exact decide_eq_true rfl
      refine ⟨.ref r.a, rfl, r.a, _, 2, .int b, rfl, rfl, SqL.of er1, atI_nat (j := 2) rfl, b, 2, rfl, rfl, decide (b < 2), rfl, ?_⟩
      rw [decide_eq_true hb2]
      refine iteT ?_
      refine ⟨.ref r.a, rfl, r.a, _, 0, .ref r.c, rfl, rfl, SqL.of er1, atI_nat (j := 0) rfl, .ref r.a, rfl, r.a, _, 1, .int i, rfl, rfl, SqL.of er1, atI_nat (j := 1) rfl, r.c, _, i, .int ns[i], rfl, rfl, SqL.of ec1, atI_nat (j := i) (by rw [List.getElem?_map, List.getElem?_eq_getElem hi2]; rfl), ?_⟩
      refine ⟨.ref r.a, rfl, r.a, _, 1, .int i, rfl, rfl, SqL.of er1, atI_nat (j := 1) rfl, i, 1, rfl, rfl, .ref r.a, rfl, r.a, _, 1, 1, rfl, rfl, er1, rfl, ?_⟩
      show tSeq _ _ _ _ (upd H1 r.a (.lst [.ref r.c, .int (i + 1 : Int), .int b, .int (k + 1), .int t]))
      have m2' : Mv r H (upd H1 r.a (.lst [.ref r.c, .int (i + 1 : Int), .int b, .int (k + 1), .int t])) := ⟨fun b o nb e => by rw [upd_ne nb]; exact m1'.keep b o nb e⟩
      have er2 : (upd H1 r.a (.lst [.ref r.c, .int (i + 1 : Int), .int b, .int (k + 1), .int t])) r.a = some (.lst [.ref r.c, .int ((i + 1 : Nat) : Int), .int b, .int (k + 1), .int t]) := by rw [upd_same]; rfl
      generalize upd H1 r.a (.lst [.ref r.c, .int (i + 1 : Int), .int b, .int (k + 1), .int t]) = H2 at m2' er2
      generalize hcell : ns[i] = cell
      have ec2 := m2'.keep r.c _ hcr ec
      refine ⟨.int cell, rfl, 10, 18, rfl, rfl, ⟨by decide, by decide, by decide⟩, cell, _, rfl, rfl, _, rfl, ?_⟩
      rw [show (10 : Int) ^ (18 : Int).toNat = 1000000000000000000 from p18]
      refine ite2 (fun e1 => ?_) (fun e1 => ?_)
      · refine ⟨.int cell, rfl, cell, 2305843009213693951, rfl, rfl, (by show (0 : Int) < 2305843009213693951; decide), .ref r.a, rfl, r.a, _, 3, .int (k + 1), rfl, rfl, SqL.of er2, atI_nat (j := 3) rfl, cell % 2305843009213693951, k + 1, rfl, Int.emod_nonneg _ (by decide), Int.emod_lt_of_pos _ (by decide), by omega, by omega, fun x => ?_⟩
        exact ⟨.int m, rfl, x, m, rfl, rfl, mp, q _ H2 ⟨ns, i + 1, b, k + 1, t, er2, ec2, hi2, hb, by omega, by omega, ht0, ht1⟩ m2' (Int.emod_nonneg _ (by omega)) (Int.emod_lt_of_pos _ mp)⟩
      · have hc18 : 1000000000000000000 ≤ cell := by
          rcases Int.lt_or_le cell 1000000000000000000 with z | z
          · exact absurd (decide_eq_true z) e1
          · exact z
        refine ⟨.int cell, rfl, 10, 18, rfl, rfl, ⟨by decide, by decide, by decide⟩, cell, _, rfl, rfl, .ref r.a, rfl, r.a, _, 2, 2, rfl, rfl, er2, rfl, ?_⟩
        show tSeq _ _ _ _ (upd H2 r.a (.lst [.ref r.c, .int ((i + 1 : Nat) : Int), .int (cell - (10 : Int) ^ (18 : Int).toNat), .int (k + 1), .int t]))
        rw [show (10 : Int) ^ (18 : Int).toNat = 1000000000000000000 from p18]
        have m3' : Mv r H (upd H2 r.a (.lst [.ref r.c, .int ((i + 1 : Nat) : Int), .int (cell - 1000000000000000000), .int (k + 1), .int t])) := ⟨fun b o nb e => by rw [upd_ne nb]; exact m2'.keep b o nb e⟩
        have er3 : (upd H2 r.a (.lst [.ref r.c, .int ((i + 1 : Nat) : Int), .int (cell - 1000000000000000000), .int (k + 1), .int t])) r.a = some (.lst [.ref r.c, .int ((i + 1 : Nat) : Int), .int (cell - 1000000000000000000), .int (k + 1), .int t]) := upd_same
        have hb3 : 0 ≤ cell - 1000000000000000000 := by omega
        generalize cell - 1000000000000000000 = b2 at m3' er3 hb3
        generalize upd H2 r.a (.lst [.ref r.c, .int ((i + 1 : Nat) : Int), .int b2, .int (k + 1), .int t]) = H3 at m3' er3
        exact ⟨.ref r.a, rfl, r.a, _, 2, .int b2, rfl, rfl, SqL.of er3, atI_nat (j := 2) rfl, .int m, rfl, b2, m, rfl, rfl, mp, .ref r.a, rfl, r.a, _, 2, .int b2, rfl, rfl, SqL.of er3, atI_nat (j := 2) rfl, .int m, rfl, b2, m, rfl, rfl, mdiv b2, .ref r.a, rfl, r.a, _, 2, 2, rfl, rfl, er3, rfl, .int (b2 % m), rfl, last H3 (i + 1) b2 none m3' er3 hi2 hb3 _ rfl⟩
  · rw [decide_eq_false hb2]
    refine iteF ⟨.ref r.a, rfl, r.a, _, 2, .int b, rfl, rfl, SqL.of er1, atI_nat (j := 2) rfl, b, 2, rfl, rfl, decide (b < 2), rfl, ?_⟩
    rw [decide_eq_false hb2]
    exact iteF ⟨.ref r.a, rfl, r.a, _, 2, .int b, rfl, rfl, SqL.of er1, atI_nat (j := 2) rfl, .int m, rfl, b, m, rfl, rfl, mp, .ref r.a, rfl, r.a, _, 2, .int b, rfl, rfl, SqL.of er1, atI_nat (j := 2) rfl, .int m, rfl, b, m, rfl, rfl, mdiv b, .ref r.a, rfl, r.a, _, 2, 2, rfl, rfl, er1, rfl, .int (b % m), rfl, last H1 i b none m1' er1 hi hb _ rfl⟩
theorem ok_bag {f : Addr} {fd : FuncData} (F : Fun K "_law_bag" "_law_bag" sBag f fd) (hlist : mg "list" = none) : FnOk P w K mg base CX0 1 f fd ["script"] (spBag K) := by
  refine F.ok scBag (fun vs H Q E ⟨a, ns, e, _⟩ => by rw [e]; rfl) (fun cdv A outer s H vs Q E hr h => ?_)
  obtain ⟨a, ns, rfl, hS, q⟩ := h
  have nd := scBag.nd
  refine ⟨_, pss_cons (ps_set (i := 1) nd rfl (.inl rfl) pe_int)
    (pss_cons (ps_for PassesOwn.never rfl (pi_list (pv 0)) (pg_name (i := 2) nd rfl (.inl rfl))
      (pss_one (ps_set (i := 1) nd rfl (.inl rfl) (pe_op op_mod (pe_op op_add (pe_op op_add (pe_op op_mul (pv 1) pe_int) (pe_op op_mod (pv 2) pe_int)) pe_int) pe_int))))
    (pss_one (ps_ret (pe_lst (pa_cons (pe_callTy call_list_of (by rfl) hlist (by decide +kernel) (pa_cons (pv 0) pa_nil)) (pa_cons pe_int (pa_cons pe_int (pa_cons pe_int (pa_cons (pv 1) pa_nil))))))))), ?_⟩
  refine ⟨.ref a, rfl, a, rfl, ⟨_, hS⟩, for_list (xs := ns.map V.int) (fun i σ H2 => H2 = H ∧ ∃ t y2, σ = [some (.ref a), some (.int t), y2] ∧ 0 ≤ t ∧ t < MSP) ⟨rfl, 1, none, rfl, by decide, by decide⟩
    (fun i σ H2 _ ⟨e, _⟩ => by rw [e]; exact hS) (fun i x σ H2 hx ⟨e, t, y2, es, t0, t1⟩ => ?_) (fun σ H2 ⟨e, t, y2, es, t0, t1⟩ => ?_)⟩
  · subst e es
    obtain ⟨c, rfl⟩ : ∃ c, x = .int c := by
      rw [List.getElem?_map] at hx
      cases q : ns[i]? with
      | none => rw [q] at hx; cases hx
      | some c => rw [q] at hx; cases hx; exact ⟨c, rfl⟩
    exact ⟨.int t, rfl, t, 1000003, rfl, rfl, .inr ⟨by decide, by decide⟩, .int c, rfl, c, _, rfl, rfl, (by show (0 : Int) < 2305843009213693951; decide), _, _, rfl, rfl, _, 1, rfl, rfl, _, _, rfl, rfl, (by show (0 : Int) < 2305843009213693951; decide), rfl, _, some (.int c), rfl, Int.emod_nonneg _ (by decide), Int.emod_lt_of_pos _ (by decide)⟩
  · subst e es
    refine ⟨.ref a, rfl, a, _, rfl, .inl hS, fun l nl => ⟨.int t, rfl, small_le (by show 5 ≤ 1000; decide), fun r nr => ?_⟩⟩
    have s1 : Same H2 (upd H2 l (.lst (ns.map V.int))) := same_upd nl
    have lr : l ≠ r := fun z => by rw [← z, upd_same] at nr; cases nr
    exact q ⟨r, l⟩ _ (s1.trans (same_upd nr)) (s1.free nr) ⟨ns, 0, 0, 0, t, upd_same, by rw [upd_ne lr]; exact upd_same, Nat.zero_le _, Int.le_refl 0, Int.le_refl 0, Int.le_refl 0, t0, t1⟩
end
end CL
set_option Elab.async false
set_option linter.all false
set_option maxRecDepth 100000
set_option maxHeartbeats 4000000
namespace CL
open PySem PySem.Spec PyProof.Rows L2 GE
/-! ### how much a thing weighs -/
mutual
def wt : PyData → Nat
  | .none => 4
  | .bool _ => 5
  | .int i => i.natAbs.log2 + 4
  | .str x => (reprText x).length
  | .list xs => wtAll xs + 4
  | .tuple xs => wtAll xs + 4
  | .dict kvs => kvs.length * 100000000 + 2
def wtAll : List PyData → Nat
  | [] => 0
  | x :: xs => wt x + 2 + wtAll xs
end
structure B (k u : Nat) (d : PyData) : Prop where
  dp : d.depth ≤ k
  wt : wt d ≤ u
  sh : d.showable = true
theorem B.mono {k u k' u' : Nat} {d : PyData} (b : B k u d) (hk : k ≤ k') (hu : u ≤ u') : B k' u' d := ⟨Nat.le_trans b.dp hk, Nat.le_trans b.wt hu, b.sh⟩
theorem all_bnd {k u : Nat} : ∀ {ds : List PyData}, (∀ x ∈ ds, B k u x) → PyData.depthAll ds ≤ k ∧ wtAll ds ≤ ds.length * (u + 2) ∧ PyData.showableAll ds = true
  | [], _ => ⟨Nat.zero_le _, by simp [wtAll], by simp [PyData.showableAll]⟩
  | x :: ds, h => by
    obtain ⟨h1, h2, h3⟩ := all_bnd (ds := ds) fun y hy => h y (List.mem_cons_of_mem _ hy)
    have hx := h x List.mem_cons_self
    refine ⟨?_, ?_, ?_⟩
    · show max _ _ ≤ k
      exact Nat.max_le.mpr ⟨hx.dp, h1⟩
    · show wt x + 2 + wtAll ds ≤ _
      rw [List.length_cons, Nat.add_mul]
      have := hx.wt
      omega
    · simp [PyData.showableAll, hx.sh, h3]
theorem B.list {k u n : Nat} {ds : List PyData} (h : ∀ x ∈ ds, B k u x) (hn : ds.length ≤ n) : B (k + 1) (n * (u + 2) + 4) (.list ds) := by
  obtain ⟨h1, h2, h3⟩ := all_bnd h
  have := Nat.mul_le_mul_right (u + 2) hn
  refine ⟨?_, ?_, ?_⟩
  · show PyData.depthAll ds + 1 ≤ k + 1
    omega
  · show wtAll ds + 4 ≤ _
    omega
  · simp [PyData.showable, h3]
theorem B.tuple {k u n : Nat} {ds : List PyData} (h : ∀ x ∈ ds, B k u x) (hn : ds.length ≤ n) : B (k + 1) (n * (u + 2) + 4) (.tuple ds) := by
  obtain ⟨h1, h2, h3⟩ := all_bnd h
  have := Nat.mul_le_mul_right (u + 2) hn
  refine ⟨?_, ?_, ?_⟩
  · show PyData.depthAll ds + 1 ≤ k + 1
    omega
  · show wtAll ds + 4 ≤ _
    omega
  · simp [PyData.showable, h3]
theorem b_none {k : Nat} : B k 200 .none := ⟨Nat.zero_le _, by decide, rfl⟩
theorem b_bool {k : Nat} {b : Bool} : B k 200 (.bool b) := ⟨Nat.zero_le _, by show 5 ≤ 200; decide, rfl⟩
theorem b_int {k : Nat} {i : Int} (h : i.natAbs < 2 ^ 140) : B k 200 (.int i) := by
  have h1 : i.natAbs.log2 < 140 := PySem.Flt.log2_lt_of (by decide) h
  exact ⟨Nat.zero_le _, by show i.natAbs.log2 + 4 ≤ 200; omega, by simp [PyData.showable]; omega⟩
/-- a list of lo to hi things, each P -/
def Ls (lo hi : Nat) (P : PyData → Prop) (d : PyData) : Prop := ∃ ds, d = .list ds ∧ lo ≤ ds.length ∧ ds.length ≤ hi ∧ ∀ x ∈ ds, P x
def Tp (n : Nat) (P : PyData → Prop) (d : PyData) : Prop := ∃ ds, d = .tuple ds ∧ ds.length ≤ n ∧ ∀ x ∈ ds, P x
/-! ### evaluation where nothing but the bag changes, by so many draws -/
theorem BagAt.to {a b : Nat} {H : Hp} {r : Bg} (h : BagAt a H r) (e : a ≤ b := by omega) : BagAt b H r := h.mono e
/-- W is tracked, the bag in it -/
structure Wk (W : Addr → Prop) (H : Hp) (r : Bg) : Prop where
  bag : W r.a
  trk : ∀ b, W b → H b ≠ none
theorem Mv.hw {r : Bg} {W : Addr → Prop} {H H' : Hp} (m : Mv r H H') (h : W r.a) : Same (Hw W H) (Hw W H') := fun b o e => by
  have hb := Hw.ne e
  rw [Hw.at hb]
  exact m.keep b o (fun z => hb (by rw [z]; exact h)) (Hw.sub W H b o e)
theorem Wk.mv {n : Nat} {W : Addr → Prop} {H H' : Hp} {r : Bg} (k : Wk W H r) (re : BagAt n H' r) (m : Mv r H H') : Wk W H' r := ⟨k.bag, fun b hb z => by
  by_cases hr : b = r.a
  · rw [hr] at z
    exact re.some z
  · exact mem_keep m hr (k.trk b hb) z⟩
theorem Wk.out {W : Addr → Prop} {H : Hp} {r : Bg} {p : Addr} (k : Wk W H r) (n : H p = none) : ¬ W p := fun z => k.trk p z n
theorem Wk.add {W : Addr → Prop} {H : Hp} {r : Bg} {p : Addr} (k : Wk W H r) (n : H p ≠ none) : Wk (fun b => W b ∨ b = p) H r := ⟨.inl k.bag, fun b hb => hb.elim (k.trk b) fun z => by rw [z]; exact n⟩
abbrev Gam := List (V × PyData)
def GOk (W : Addr → Prop) (H : Hp) (G : Gam) : Prop := ∀ p ∈ G, Rp (Hw W H) p.1 p.2
theorem GOk.mv {r : Bg} {W : Addr → Prop} {H H' : Hp} {G : Gam} (g : GOk W H G) (m : Mv r H H') (h : W r.a) : GOk W H' G := fun p hp => Rp.sm (m.hw h) (g p hp)
theorem GOk.cons {W : Addr → Prop} {H : Hp} {G : Gam} {v : V} {d : PyData} (g : GOk W H G) (h : Rp (Hw W H) v d) : GOk W H ((v, d) :: G) := fun p hp => by
  rcases List.mem_cons.mp hp with e | hp
  · rw [e]; exact h
  · exact g p hp
structure Se (n : Nat) (r : Bg) (W : Addr → Prop) (G : Gam) (H : Hp) : Prop where
  re : BagAt n H r
  wk : Wk W H r
  ok : GOk W H G
theorem Se.mv {n m : Nat} {r : Bg} {W : Addr → Prop} {G : Gam} {H H' : Hp} (s : Se n r W G H) (re : BagAt m H' r) (mv : Mv r H H') : Se m r W G H' := ⟨re, s.wk.mv re mv, s.ok.mv mv s.wk.bag⟩
theorem Se.same {n : Nat} {r : Bg} {W : Addr → Prop} {G : Gam} {H H' : Hp} (s : Se n r W G H) (m : Same H H') : Se n r W G H' := s.mv (s.re.same m) (Mv.of m)
theorem Se.to {n m : Nat} {r : Bg} {W : Addr → Prop} {G : Gam} {H : Hp} (s : Se n r W G H) (e : n ≤ m := by omega) : Se m r W G H := ⟨s.re.mono e, s.wk, s.ok⟩
theorem rp_list {H : Hp} {v : V} {ds : List PyData} (h : Rp H v (.list ds)) : ∃ p xs, v = .ref p ∧ H p = some (.lst xs) ∧ RpAll H xs ds := by
  cases h with
  | lst h1 h2 => exact ⟨_, _, rfl, h1, h2⟩
theorem RpAll.drop {H : Hp} : ∀ {vs : List V} {ds : List PyData} (n : Nat), RpAll H vs ds → RpAll H (vs.drop n) (ds.drop n)
  | _, _, 0, h => h
  | _, _, _ + 1, .nil => .nil
  | _, _, n + 1, .cons _ t => RpAll.drop n t
theorem rp_intsA {H : Hp} : ∀ ns : List Int, RpAll H (ns.map V.int) (ns.map PyData.int)
  | [] => .nil
  | n :: ns => .cons (.int n) (rp_intsA ns)
section
variable {c c1 c2 c3 : Nat} {r : Bg} {W : Addr → Prop} {G : Gam} {σ : L2.St}
def Ev (c : Nat) (r : Bg) (W : Addr → Prop) (G : Gam) (σ : L2.St) (te : TE) (P : PyData → Prop) : Prop := ∀ n H Q, n + c ≤ M60 → Se n r W G H → (∀ v d H', BagAt (n + c) H' r → Mv r H H' → Rp (Hw W H') v d → P d → Q v H') → te σ H Q
def EvI (c : Nat) (r : Bg) (W : Addr → Prop) (G : Gam) (σ : L2.St) (te : TE) (P : Int → Prop) : Prop := ∀ n H Q, n + c ≤ M60 → Se n r W G H → (∀ i H', BagAt (n + c) H' r → Mv r H H' → P i → Q (.int i) H') → te σ H Q
def EvA (c : Nat) (r : Bg) (W : Addr → Prop) (G : Gam) (σ : L2.St) (ta : TA) (m : Nat) (P : PyData → Prop) : Prop := ∀ n H Q, n + c ≤ M60 → Se n r W G H → (∀ vs ds H', BagAt (n + c) H' r → Mv r H H' → RpAll (Hw W H') vs ds → ds.length = m → (∀ x ∈ ds, P x) → Q vs H') → ta σ H Q
theorem Ev.imp {te : TE} {P P' : PyData → Prop} (e : Ev c r W G σ te P) (h : ∀ d, P d → P' d) : Ev c r W G σ te P' := fun n H Q l s q => e n H Q l s fun v d H' re m rp p => q v d H' re m rp (h d p)
theorem EvI.imp {te : TE} {P P' : Int → Prop} (e : EvI c r W G σ te P) (h : ∀ d, P d → P' d) : EvI c r W G σ te P' := fun n H Q l s q => e n H Q l s fun i H' re m p => q i H' re m (h i p)
theorem EvI.ev {te : TE} {P : Int → Prop} {P' : PyData → Prop} (e : EvI c r W G σ te P) (h : ∀ i, P i → P' (.int i)) : Ev c r W G σ te P' := fun n H Q l s q => e n H Q l s fun i H' re m p => q _ _ H' re m (.int i) (h i p)
theorem ev_int {i : Int} : EvI 0 r W G σ (tC (.int i)) (· = i) := fun n H Q l s q => q i H s.re (Mv.refl r H) rfl
theorem ev_non {P : PyData → Prop} (h : P .none) : Ev 0 r W G σ (tC .non) P := fun n H Q l s q => q _ _ H s.re (Mv.refl r H) .non h
theorem ev_bl {b : Bool} {P : PyData → Prop} (h : P (.bool b)) : Ev 0 r W G σ (tC (.bl b)) P := fun n H Q l s q => q _ _ H s.re (Mv.refl r H) (.bl b) h
theorem ev_str {x : Str} {P : PyData → Prop} (h : P (.str x)) : Ev 0 r W G σ (tC (.str x)) P := fun n H Q l s q => q _ _ H s.re (Mv.refl r H) (.str x) h
theorem ev_dict {P : PyData → Prop} (h : P (.dict [])) : Ev 0 r W G σ tDNewK P := fun n H Q l s q => fun p np => q (.ref p) (.dict []) _ (s.re.same (same_upd np)) (Mv.of (same_upd np)) (.dct (by rw [Hw.at (s.wk.out np)]; exact upd_same)) h
theorem ev_var {i : Nat} {v : V} {d : PyData} {P : PyData → Prop} (h1 : σ[i]? = some (some v)) (h2 : (v, d) ∈ G) (h : P d) : Ev 0 r W G σ (tVar i) P := fun n H Q l s q => ⟨v, h1, q v d H s.re (Mv.refl r H) (s.ok _ h2) h⟩
theorem ev_varI {i : Nat} {x : Int} (h1 : σ[i]? = some (some (.int x))) : EvI 0 r W G σ (tVar i) (· = x) := fun n H Q l s q => ⟨.int x, h1, q x H s.re (Mv.refl r H) rfl⟩
theorem eva_nil {P : PyData → Prop} : EvA 0 r W G σ tNil 0 P := fun n H Q l s q => q [] [] H s.re (Mv.refl r H) .nil rfl (fun _ h => nomatch h)
theorem eva_cons {te : TE} {ta : TA} {m : Nat} {P : PyData → Prop} (e : Ev c1 r W G σ te P) (a : EvA c2 r W G σ ta m P) : EvA (c1 + c2) r W G σ (tCons te ta) (m + 1) P := fun n H Q l s q =>
  e n H _ (by omega) s fun v d H1 re1 m1 rp1 p1 => a (n + c1) H1 _ (by omega) (s.mv re1 m1) fun vs ds H2 re2 m2 rp2 l2 p2 => q (v :: vs) (d :: ds) H2 re2.to (m1.trans m2) (.cons (Rp.sm (m2.hw s.wk.bag) rp1) rp2) (by rw [List.length_cons, l2]) fun x hx => by
    rcases List.mem_cons.mp hx with z | z
    · rw [z]; exact p1
    · exact p2 x z
theorem ev_lst {ta : TA} {m : Nat} {P : PyData → Prop} (a : EvA c r W G σ ta m P) (hn : m ≤ 1000 := by decide) : Ev c r W G σ (tLst ta) (Ls m m P) := fun n H Q l s q =>
  a n H _ l s fun vs ds H1 re1 m1 rp1 l1 p1 => ⟨small_le (by rw [rp1.length]; omega), fun p np => q (.ref p) (.list ds) _ (re1.same (same_upd np)) (m1.trans (Mv.of (same_upd np)))
    (.lst (by rw [Hw.at ((s.wk.mv re1 m1).out np)]; exact upd_same) (RpAll.sm (Same.hw (same_upd np)) rp1)) ⟨ds, rfl, Nat.le_of_eq l1.symm, Nat.le_of_eq l1, p1⟩⟩
theorem ev_tup {ta : TA} {m : Nat} {P : PyData → Prop} (a : EvA c r W G σ ta m P) (hn : m ≤ 1000 := by decide) : Ev c r W G σ (tTup ta) (Tp m P) := fun n H Q l s q =>
  a n H _ l s fun vs ds H1 re1 m1 rp1 l1 p1 => ⟨small_le (by rw [rp1.length]; omega), fun p np => q (.ref p) (.tuple ds) _ (re1.same (same_upd np)) (m1.trans (Mv.of (same_upd np)))
    (.tup (by rw [Hw.at ((s.wk.mv re1 m1).out np)]; exact upd_same) (RpAll.sm (Same.hw (same_upd np)) rp1)) ⟨ds, rfl, Nat.le_of_eq l1, p1⟩⟩
/-- two lists, the one behind the other, by what each is -/
theorem ev_catG {ta tb : TE} {PA PB PC : PyData → Prop} (a : Ev c1 r W G σ ta PA) (b : Ev c2 r W G σ tb PB) (h : ∀ d e, PA d → PB e → ∃ ds es, d = .list ds ∧ e = .list es ∧ ds.length ≤ 1000 ∧ es.length ≤ 1000 ∧ PC (.list (ds ++ es))) : Ev (c1 + c2) r W G σ (tOp rCat ta tb) PC := fun n H Q l s q =>
  a n H _ (by omega) s fun v d H1 re1 m1 rp1 e1 => b (n + c1) H1 _ (by omega) (s.mv re1 m1) fun v2 d2 H2 re2 m2 rp2 e2 => by
    obtain ⟨ds, es, z1, z2, hn, hm, hc⟩ := h d d2 e1 e2
    subst z1 z2
    obtain ⟨p, xs, rfl, hp, hx⟩ := rp_list (Rp.sm (m2.hw s.wk.bag) rp1)
    obtain ⟨p', ys, rfl, hp', hy⟩ := rp_list rp2
    have wk2 := s.wk.mv re2 (m1.trans m2)
    exact ⟨p, p', xs, ys, rfl, rfl, Hw.sub W H2 _ _ hp, Hw.sub W H2 _ _ hp', small_add (by rw [hx.length]; exact hn) (by rw [hy.length]; exact hm), fun t nt => q (.ref t) (.list (ds ++ es)) _ (re2.same (same_upd nt)).to ((m1.trans m2).trans (Mv.of (same_upd nt)))
      (.lst (by rw [Hw.at (wk2.out nt)]; exact upd_same) (RpAll.sm (Same.hw (same_upd nt)) (hx.append hy))) hc⟩
theorem ev_cat {ta tb : TE} {l1 h1 l2 h2 : Nat} {P : PyData → Prop} (a : Ev c1 r W G σ ta (Ls l1 h1 P)) (b : Ev c2 r W G σ tb (Ls l2 h2 P)) (hn : h1 ≤ 1000 := by decide) (hm : h2 ≤ 1000 := by decide) : Ev (c1 + c2) r W G σ (tOp rCat ta tb) (Ls (l1 + l2) (h1 + h2) P) :=
  ev_catG a b fun d e ⟨ds, e1, a1, b1, p1⟩ ⟨es, e2, a2, b2, p2⟩ => ⟨ds, es, e1, e2, by omega, by omega, ds ++ es, rfl, by rw [List.length_append]; omega, by rw [List.length_append]; omega, fun x hx => (List.mem_append.mp hx).elim (p1 x) (p2 x)⟩
theorem part_none : ∀ n H (Q : Option Int → Hp → Prop), n + 0 ≤ M60 → Se n r W G H → (∀ l H', BagAt (n + 0) H' r → Mv r H H' → l = none → Q l H') → tNoPart σ H Q := fun n H Q l s q => q none H s.re (Mv.refl r H) rfl
theorem part_some {te : TE} {P : Int → Prop} (e : EvI c r W G σ te P) : ∀ n H (Q : Option Int → Hp → Prop), n + c ≤ M60 → Se n r W G H → (∀ l H', BagAt (n + c) H' r → Mv r H H' → (∃ i, l = some i ∧ P i) → Q l H') → tPart te σ H Q := fun n H Q l s q => e n H _ l s fun i H' re m p => ⟨i, rfl, q (some i) H' re m ⟨i, rfl, p⟩⟩
/-- a part of a list, by its ends -/
theorem ev_slG {K : PySem.W.Frag} {te : TE} {tl th : TO} {PA PC : PyData → Prop} {PL PH : Option Int → Prop} (a : Ev c1 r W G σ te PA) (hl : ∀ n H Q, n + c2 ≤ M60 → Se n r W G H → (∀ l H', BagAt (n + c2) H' r → Mv r H H' → PL l → Q l H') → tl σ H Q) (hh : ∀ n H Q, n + c3 ≤ M60 → Se n r W G H → (∀ l H', BagAt (n + c3) H' r → Mv r H H' → PH l → Q l H') → th σ H Q)
    (h : ∀ d l u, PA d → PL l → PH u → ∃ ds, d = .list ds ∧ PC (.list ((ds.drop (HT.sIx ds.length 0 l)).take (HT.sIx ds.length ds.length u - HT.sIx ds.length 0 l)))) :
    Ev (c1 + c2 + c3) r W G σ (tSl (rSlL K) te tl th) PC := fun n H Q l s q =>
  a n H _ (by omega) s fun v d H1 re1 m1 rp1 e1 => hl (n + c1) H1 _ (by omega) (s.mv re1 m1) fun l H2 re2 m2 pl => hh (n + c1 + c2) H2 _ (by omega) (s.mv re2 (m1.trans m2)) fun u H3 re3 m3 pu => by
    obtain ⟨ds, z, hc⟩ := h d l u e1 pl pu
    subst z
    obtain ⟨p, xs, rfl, hp, hx⟩ := rp_list (Rp.sm ((m2.trans m3).hw s.wk.bag) rp1)
    have m13 := m1.trans (m2.trans m3)
    have wk3 := s.wk.mv re3 m13
    have lx := hx.length
    refine ⟨p, xs, rfl, SqL.of (Hw.sub W H3 _ _ hp), fun t nt => q (.ref t) _ _ (re3.same (same_upd nt)).to (m13.trans (Mv.of (same_upd nt)))
      (.lst (by rw [Hw.at (wk3.out nt)]; exact upd_same) (RpAll.sm (Same.hw (same_upd nt)) ((hx.drop _).take _))) ?_⟩
    rw [lx]
    exact hc
theorem ev_sl {K : PySem.W.Frag} {te : TE} {tl th : TO} {lo hi : Nat} {P : PyData → Prop} {PL PH : Option Int → Prop} (a : Ev c1 r W G σ te (Ls lo hi P)) (hl : ∀ n H Q, n + c2 ≤ M60 → Se n r W G H → (∀ l H', BagAt (n + c2) H' r → Mv r H H' → PL l → Q l H') → tl σ H Q) (hh : ∀ n H Q, n + c3 ≤ M60 → Se n r W G H → (∀ l H', BagAt (n + c3) H' r → Mv r H H' → PH l → Q l H') → th σ H Q) :
    Ev (c1 + c2 + c3) r W G σ (tSl (rSlL K) te tl th) (Ls 0 hi P) := ev_slG a hl hh fun d l u ⟨ds, e1, a1, b1, p1⟩ _ _ => ⟨ds, e1, _, rfl, Nat.zero_le _, by rw [List.length_take, List.length_drop]; omega, fun x hx => p1 x (List.mem_of_mem_drop (List.mem_of_mem_take hx))⟩
theorem ev_draw {tm : TE} {m : Int} (e : EvI c r W G σ tm (· = m)) (h0 : σ[0]? = some (some (.ref r.a))) (h1 : 1 ≤ m) (h2 : m < 2 ^ 140) : EvI (c + 1) r W G σ (tCall (spDraw r) [] E0 (tCons (tVar 0) (tCons tm tNil))) (fun x => 0 ≤ x ∧ x < m) := fun n H Q l s q =>
  ⟨.ref r.a, h0, e n H _ (by omega) s fun i H1 re1 m1 e1 => ⟨m, n + c, by rw [e1]; rfl, re1, by omega, h1, h2, fun x H' re' m' x0 x1 => q x H' re'.to (m1.trans m') ⟨x0, x1⟩⟩⟩
theorem ev_ixG {K : PySem.W.Frag} {ta ti : TE} {PA PC : PyData → Prop} {PI : Int → Prop} (a : Ev c1 r W G σ ta PA) (b : EvI c2 r W G σ ti PI) (h : ∀ d i, PA d → PI i → ∃ ds, d = .list ds ∧ 0 ≤ i ∧ i < (ds.length : Int) ∧ ∀ x, ds[i.toNat]? = some x → PC x) : Ev (c1 + c2) r W G σ (tOp (rIxL K) ta ti) PC := fun n H Q l s q =>
  a n H _ (by omega) s fun v d H1 re1 m1 rp1 e1 => b (n + c1) H1 _ (by omega) (s.mv re1 m1) fun i H2 re2 m2 hi => by
    obtain ⟨ds, z, i0, i1, hc⟩ := h d i e1 hi
    subst z
    obtain ⟨p, xs, rfl, hp, hx⟩ := rp_list (Rp.sm (m2.hw s.wk.bag) rp1)
    obtain ⟨j, rfl⟩ : ∃ j : Nat, i = (j : Int) := ⟨i.toNat, (Int.toNat_of_nonneg i0).symm⟩
    have hj : j < xs.length := by have := hx.length; omega
    obtain ⟨d, hd, hr⟩ := hx.get (List.getElem?_eq_getElem hj)
    exact ⟨p, xs, j, xs[j], rfl, rfl, SqL.of (Hw.sub W H2 _ _ hp), atI_nat (List.getElem?_eq_getElem hj), q _ d H2 re2.to (m1.trans m2) hr (hc d hd)⟩
theorem ev_ix {K : PySem.W.Frag} {ta ti : TE} {lo hi : Nat} {P : PyData → Prop} (a : Ev c1 r W G σ ta (Ls lo hi P)) (b : EvI c2 r W G σ ti (fun x => 0 ≤ x ∧ x < (lo : Int))) : Ev (c1 + c2) r W G σ (tOp (rIxL K) ta ti) P :=
  ev_ixG a b fun d i ⟨ds, e1, a1, b1, p1⟩ hi => ⟨ds, e1, hi.1, by omega, fun x hx => p1 x (List.mem_of_getElem? hx)⟩
theorem ev_len {K : PySem.W.Frag} {i : Nat} {v : V} {ds : List PyData} (h1 : σ[i]? = some (some v)) (h2 : (v, PyData.list ds) ∈ G) :
    EvI 0 r W G σ (tCB (fun xs H Q => ∃ p ys, xs = [.ref p] ∧ (SqL K H p ys ∨ SqT K H p ys) ∧ Q (.int ys.length) H) (tCons (tVar i) tNil)) (· = (ds.length : Int)) := fun n H Q l s q => by
  obtain ⟨p, xs, rfl, hp, hx⟩ := rp_list (s.ok _ h2)
  exact ⟨.ref p, h1, p, xs, rfl, .inl (SqL.of (Hw.sub W H _ _ hp)), q _ H s.re (Mv.refl r H) (by rw [hx.length])⟩
theorem evi_add {ta tb : TE} {x y : Int} (a : EvI c1 r W G σ ta (· = x)) (b : EvI c2 r W G σ tb (· = y)) : EvI (c1 + c2) r W G σ (tOp (rI0 fun i j => .int (i + j)) ta tb) (· = x + y) := fun n H Q l s q =>
  a n H _ (by omega) s fun i H1 re1 m1 e1 => b (n + c1) H1 _ (by omega) (s.mv re1 m1) fun j H2 re2 m2 e2 => ⟨i, j, rfl, rfl, q _ H2 re2.to (m1.trans m2) (by rw [e1, e2])⟩
theorem evi_sub {ta tb : TE} {x y : Int} (a : EvI c1 r W G σ ta (· = x)) (b : EvI c2 r W G σ tb (· = y)) : EvI (c1 + c2) r W G σ (tOp (rI0 fun i j => .int (i - j)) ta tb) (· = x - y) := fun n H Q l s q =>
  a n H _ (by omega) s fun i H1 re1 m1 e1 => b (n + c1) H1 _ (by omega) (s.mv re1 m1) fun j H2 re2 m2 e2 => ⟨i, j, rfl, rfl, q _ H2 re2.to (m1.trans m2) (by rw [e1, e2])⟩
theorem evi_pow {x y : Int} (h : CPow x y) : EvI 0 r W G σ (tOp (rI CPow fun i j => .int (i ^ j.toNat)) (tC (.int x)) (tC (.int y))) (· = x ^ y.toNat) := fun n H Q l s q =>
  ⟨x, y, rfl, rfl, h, q _ H s.re (Mv.refl r H) rfl⟩
theorem evi_neg {x : Int} : EvI 0 r W G σ (tUn (rU fun i => .int (-i)) (tC (.int x))) (· = -x) := fun n H Q l s q => ⟨x, rfl, q _ H s.re (Mv.refl r H) rfl⟩
theorem ev_set {te : TE} {i n : Nat} {P : PyData → Prop} {D : Ends} {H : Hp} (e : Ev c r W G σ te P) (l : n + c ≤ M60) (s : Se n r W G H) (h : ∀ v d H', Se (n + c) r W ((v, d) :: G) H' → Mv r H H' → P d → D.nx (σ.set i (some v)) H') : tAsg te (gName i) D σ H :=
  e n H _ l s fun v d H' re m rp p => h v d H' ⟨re, s.wk.mv re m, (s.ok.mv m s.wk.bag).cons rp⟩ m p
theorem evi_set {te : TE} {i n : Nat} {P : Int → Prop} {D : Ends} {H : Hp} (e : EvI c r W G σ te P) (l : n + c ≤ M60) (s : Se n r W G H) (h : ∀ x H', Se (n + c) r W G H' → Mv r H H' → P x → D.nx (σ.set i (some (.int x))) H') : tAsg te (gName i) D σ H :=
  e n H _ l s fun x H' re m p => h x H' (s.mv re m) m p
end
end CL
set_option Elab.async false
set_option linter.all false
set_option maxRecDepth 100000
set_option maxHeartbeats 4000000
namespace CL
open PySem PySem.Spec PyProof.Rows L2 GE
/-! ### a def that is called where no repr is under way -/
structure FnG (P : Program) (w : World) (K : PySem.W.Frag) (mg : Str → Option Value) (base : Heap) (k : Nat) (f : Addr) (fd : FuncData) (ps : List Str) (sp : Sp) : Prop where
  run : ∀ (A : Around) (outer : List Env) (s : Shared) (H : Hp) (args : Args) (us : List Value) (vs : List V) (Q : VK) (E : XK), A.guards = some [] → Room k A → Env0 P w K mg base A outer s H → BindsTo s fd args (ps.zip us) → Vals vs us → sp vs H Q E →
    codeAny (model P w) A (.call (.ref f) args) (CR CX0 outer P w H s Q E) s
theorem fng_of {P : Program} {w : World} {K : PySem.W.Frag} {mg : Str → Option Value} {base : Heap} {x qual : Str} {st : Stmt} {f : Addr} {fd : FuncData} {N ps : List Str} {k : Nat} {sp : Sp} (F : Fun K x qual st f fd) (S : FnScope N ps (defScope st)) (len : ∀ vs H Q E, sp vs H Q E → vs.length = ps.length)
    (hbody : ∀ (cdv : Value) (A : Around) (outer : List Env) (s : Shared) (H : Hp) (vs : List V) (Q : VK) (E : XK), A.guards = some [] → Room k (A.deeper (envOfC qual (defScope st) s.heap.objs.size f cdv)) → sp vs H Q E →
      ∃ t, PSs (cxOf CX0 P w K mg base N qual (defScope st) f cdv A outer s H E).nox (defBody st) t ∧ t { nx := fun _ H' => Q .non H', rt := Q } (start N vs) H) : FnG P w K mg base (k + 1) f fd ps sp := by
  obtain ⟨oc, od, kV, doc, pm, an, cdv, ct, osl, rfl, lk, hcd⟩ := F.ex
  constructor
  intro A outer s H args us vs Q E hgd hr e0 hb r hsp
  have hl : vs.length = ps.length := len _ _ _ _ hsp
  have up : ∀ b o, base.get? b = some o → s.heap.get? b = some o := fun b o e => (e0.bs b o e).1
  have KX : K.In s.heap := e0.mod.kin.keeps up
  have pk : ∀ y ∈ ps.zip us, (defScope st).names.lookup y.1 = some .local ∨ ((defScope st).names.lookup y.1 = some .cell ∧ ((cellsFrom (s.heap.objs.size + 1) (defScope st).names []).lookup y.1).isSome = true) := by
    rintro ⟨n, v⟩ hy
    exact (S.par n (List.of_mem_zip hy).1).imp id fun q => ⟨q, PySem.W.cellsFrom_some _ _ _ (.inl q)⟩
  refine codeAny_call_function hr.depth (KX _ _ lk) rfl S.co S.gen rfl (PySem.W.codeRec_of KX hcd) (hb _ _ _ _ (wpAny_newFunctionEnv_cells S.kind pk fun env he s1 x => ?_))
  subst he
  obtain ⟨t, ht, hq⟩ := hbody cdv A outer s H vs Q E hgd (hr.deeper _) hsp
  refine ⟨(e0.mod.nolimit.keeps up).keeps x.toInCall.keep, codeAny_func (wpAny_mono (ht.nox.run [] s1 (start N vs) H _ (inv_start S hr.hd e0 hl r x) hq) (fun fl s' hs => ?_) fun _ _ z => z)⟩
  cases fl with
  | ret u =>
    obtain ⟨v, _, H', J, rv, z⟩ := hs
    exact ⟨v, H', J.os, J.bare, J.base, J.hok, rv, z⟩
  | next =>
    obtain ⟨_, H', J, z⟩ := hs
    exact ⟨.non, H', J.os, J.bare, J.base, J.hok, rfl, z⟩
  | brk => exact (let ⟨_, _, _, z⟩ := hs; z : False).elim
  | cont => exact (let ⟨_, _, _, z⟩ := hs; z : False).elim
/-! ### repr of data -/
section
variable {X : Cx} {pins : List (Addr × Obj)} {σ : L2.St} {H : Hp} {s : Shared}
mutual
theorem Rp.reads (hsys : ∃ o, X.base.get? sysModules = some o) (I : Inv X pins σ H s) : ∀ (d : PyData) (v : V) (u : Value), Rp H v d → RelV v u → ∃ as, Reads s.heap u d as ∧ sysModules ∉ as
  | .none, _, _, h, r => by cases h; cases r; exact ⟨_, Reads.none, by simp⟩
  | .bool b, _, _, h, r => by cases h; cases r; exact ⟨_, Reads.bool b, by simp⟩
  | .int i, _, _, h, r => by cases h; obtain ⟨t, rfl⟩ := r; exact ⟨_, Reads.int i t, by simp⟩
  | .str x, _, _, h, r => by cases h; obtain ⟨t, rfl⟩ := r; exact ⟨_, Reads.str x t, by simp⟩
  | .list ds, _, _, h, r => by
    cases h with
    | @lst a xs _ hs ha =>
      cases r
      obtain ⟨its, rv, ⟨o, n, ho, hc, _, hd⟩, _⟩ := I.list (SqL.of hs)
      obtain ⟨as, hr, hn⟩ := RpAll.reads hsys I ds _ its ha rv
      refine ⟨_, Reads.list ho hc hd hr, fun z => (List.mem_cons.mp z).elim (fun e => ?_) hn⟩
      obtain ⟨o1, ho1⟩ := hsys
      have z := (I.bs _ _ ho1).2
      rw [e, hs] at z
      cases z
  | .tuple ds, _, _, h, r => by
    cases h with
    | tup hs ha =>
      cases r
      obtain ⟨its, rv, ⟨o, ho, hc, n, hd⟩, _⟩ := I.tuple (SqT.of hs)
      obtain ⟨as, hr, hn⟩ := RpAll.reads hsys I ds _ its ha rv
      exact ⟨_, Reads.tuple ho hc hd hr, hn⟩
  | .dict kvs, _, _, h, r => by
    cases h with
    | @dct a hs =>
      cases r
      obtain ⟨_, hne, vs, kv, o, es, ep, ho, hx, hd, _, hp, _⟩ := (show ObjOk X.prog X.w H s.heap a (.dK []) from I.hok a _ hs)
      cases kv
      have e0 : es.toList = [] := List.eq_nil_of_length_eq_zero hp.length
      refine ⟨_, Reads.dict ho hx.1 hd (by rw [e0]; exact .nil) (by rw [e0]; exact .nil), fun z => ?_⟩
      have z' : sysModules = a := by simpa using z
      rw [z'] at hne
      simp at hne
theorem RpAll.reads (hsys : ∃ o, X.base.get? sysModules = some o) (I : Inv X pins σ H s) : ∀ (ds : List PyData) (vs : List V) (us : List Value), RpAll H vs ds → Vals vs us → ∃ as, ReadsAll s.heap us ds as ∧ sysModules ∉ as
  | [], _, _, h, r => by cases h; cases r; exact ⟨_, ReadsAll.nil, by simp⟩
  | d :: ds, _, _, h, r => by
    cases h with
    | cons h1 h2 =>
      cases r with
      | cons r1 r2 =>
        obtain ⟨as, q1, n1⟩ := Rp.reads hsys I d _ _ h1 r1
        obtain ⟨bs, q2, n2⟩ := RpAll.reads hsys I ds _ _ h2 r2
        exact ⟨_, ReadsAll.cons q1 q2, fun z => (List.mem_append.mp z).elim n1 n2⟩
end
end
/-! ### how long a thing is, shown -/
theorem piled_le {ts : List Str} : ∀ {ds : List PyData}, ts = PyData.shownAll ds → (∀ d ∈ ds, d.shown.length ≤ wt d) → piled ts ≤ wtAll ds
  | [], e, _ => by rw [e]; exact Nat.le_refl 0
  | d :: ds, e, h => by
    have ih := piled_le (ts := PyData.shownAll ds) rfl fun x hx => h x (List.mem_cons_of_mem _ hx)
    have h1 := h d List.mem_cons_self
    rw [e]
    show d.shown.length + 2 + piled (PyData.shownAll ds) ≤ wt d + 2 + wtAll ds
    omega
theorem list_len (ts : List Str) : (listText ts).length ≤ piled ts + 2 := by
  cases ts with
  | nil => decide +kernel
  | cons t r =>
    have h := textFrom_length_pos r 1 (("[" : Str) ++ (if (0 : Nat) > 0 then ", " else "" : String) ++ t) (Nat.succ_pos 0)
    have hX : (listText (t :: r)).length = (textFrom 1 (("[" : Str) ++ (if (0 : Nat) > 0 then ", " else "" : String) ++ t) r).length + 1 := by
      show (textFrom 1 _ r ++ "]").length = _
      rw [Str.length_append]
      rfl
    have e1 : ((("[" : Str) ++ (if (0 : Nat) > 0 then ", " else "" : String) ++ t) : Str).length = 1 + t.length := by
      rw [Str.length_append, Str.length_append]
      rfl
    have e2 : piled (t :: r) = t.length + 2 + piled r := rfl
    omega
theorem tuple_len (ts : List Str) : (tupleText ts).length ≤ piled ts + 3 := by
  have h : (Str.join ", " ts).length ≤ piled ts := by
    by_cases e : ts = []
    · rw [e]; decide +kernel
    · have := join_length_add ts e
      omega
  unfold tupleText
  rw [Str.length_append, Str.length_append]
  have h1 : (("(" : Str)).length = 1 := by decide +kernel
  have h2 : ((if ts.length == 1 then ",)" else ")" : String) : Str).length ≤ 2 := by
    split <;> decide +kernel
  omega
mutual
theorem shown_le : ∀ d : PyData, wt d ≤ 10000000 → d.showable = true → d.shown.length ≤ wt d
  | .none, _, _ => by decide +kernel
  | .bool b, _, _ => by cases b <;> decide +kernel
  | .int i, _, _ => by
    have h := int_text_length_le (a := i) (k := i.natAbs.log2 + 1) (Nat.succ_pos _) (Nat.lt_succ_self _)
    show (Str.ofString (toString i)).length ≤ i.natAbs.log2 + 4
    rw [PySem.ofString_length]
    omega
  | .str x, _, _ => Nat.le_refl _
  | .list ds, h, s => by
    have h1 := shown_all ds (by have : wt (.list ds) = wtAll ds + 4 := rfl; omega) (by simpa [PyData.showable] using s)
    have h2 := piled_le rfl h1
    have h3 := list_len (PyData.shownAll ds)
    show (listText (PyData.shownAll ds)).length ≤ wtAll ds + 4
    omega
  | .tuple ds, h, s => by
    have h1 := shown_all ds (by have : wt (.tuple ds) = wtAll ds + 4 := rfl; omega) (by simpa [PyData.showable] using s)
    have h2 := piled_le rfl h1
    have h3 := tuple_len (PyData.shownAll ds)
    show (tupleText (PyData.shownAll ds)).length ≤ wtAll ds + 4
    omega
  | .dict [], _, _ => by decide +kernel
  | .dict (x :: kvs), h, _ => by
    have : wt (.dict (x :: kvs)) = (kvs.length + 1) * 100000000 + 2 := rfl
    omega
theorem shown_all : ∀ ds : List PyData, wtAll ds ≤ 10000000 → PyData.showableAll ds = true → ∀ d ∈ ds, d.shown.length ≤ wt d
  | [], _, _, d, hd => nomatch hd
  | x :: ds, h, s, d, hd => by
    have e : wtAll (x :: ds) = wt x + 2 + wtAll ds := rfl
    have s' : x.showable = true ∧ PyData.showableAll ds = true := by simpa [PyData.showableAll] using s
    rcases List.mem_cons.mp hd with z | z
    · rw [z]
      exact shown_le x (by omega) s'.1
    · exact shown_all ds (by omega) s'.2 d z
end
/-! ### repr(x) of a list or a tuple -/
theorem call_reprD {X : Cx} {k : Nat} (hg : X.A.guards = some []) (hr : Room k X.A) (hsys : ∃ o, X.base.get? sysModules = some o) :
    CallR X (.builtin "repr") (fun xs H Q => ∃ v d a, xs = [v] ∧ v = .ref a ∧ Rp H v d ∧ B 100 10000000 d ∧ Q (.str d.shown) H) := by
  intro pins s σ H xs us Q I r h
  obtain ⟨v, d, a, rfl, rfl, hR, hB, q⟩ := h
  obtain ⟨u, rfl, rx⟩ := vals1 r
  obtain ⟨as, hrd, hno⟩ := Rp.reads hsys I d _ _ hR rx
  cases rx
  refine repr_of_reads' hrd hB.sh (fun _ => hno) hg (by have := hr.un; have := hB.dp; omega) (fun _ _ e => e) (fun h' u tk hk => ⟨.str _, H, I.kept hk, ⟨_, rfl⟩, q⟩) ?_
  have h1 := shown_le d hB.wt hB.sh
  have h2 := hB.wt
  rw [sizeLine_eq]
  omega
end CL
set_option Elab.async false
set_option linter.all false
set_option maxRecDepth 100000
set_option maxHeartbeats 4000000
namespace CL
open PySem PySem.Spec PyProof.Rows L2 GE
/-! ### what a call that fills tables leaves -/
theorem Ex.some {H H' : Hp} (e : Ex H H') {b : Addr} (n : H b ≠ none) : H' b ≠ none := fun z => n (e.free z)
theorem Wk.ex {W : Addr → Prop} {H H' : Hp} {r : Bg} (k : Wk W H r) (e : Ex H H') : Wk W H' r := ⟨k.bag, fun b hb => e.some (k.trk b hb)⟩
theorem Ex.hw {W : Addr → Prop} {H H' : Hp} (e : Ex H H') : Ex (Hw W H) (Hw W H') := fun b o h => by
  rw [Hw.at (Hw.ne h)]
  exact e b o (Hw.sub W H b o h)
theorem Se.ex {n : Nat} {r : Bg} {W : Addr → Prop} {G : Gam} {H H' : Hp} (s : Se n r W G H) (e : Ex H H') : Se n r W G H' := ⟨s.re.kx e, s.wk.ex e, fun p hp => Rp.ex e.hw _ _ (s.ok p hp)⟩
theorem tabG_mv {n : Nat} {P : Addr} {r : Bg} {H H' : Hp} (h : GxR.TabG H P) (hr : BagAt n H r) (m : Mv r H H') : GxR.TabG H' P := by
  obtain ⟨ps, e, t⟩ := h
  obtain ⟨ns, i, b, k, tt, er, _⟩ := hr
  exact ⟨ps, m.keep P _ (fun z => by rw [z, er] at e; cases e) e, t⟩
theorem tabG_upd {P p : Addr} {H : Hp} {o : HO} (h : GxR.TabG H P) (n : ∀ ps, H p ≠ some (.tbl ps)) : GxR.TabG (upd H p o) P := by
  obtain ⟨ps, e, t⟩ := h
  exact ⟨ps, by rw [upd_ne fun z => n ps (by rw [← z]; exact e)]; exact e, t⟩
def spE (sp : Bg → Sp) : Sp := fun vs H Q E => ∃ r, sp r vs H Q E
section
variable {c c1 c2 : Nat} {r : Bg} {W : Addr → Prop} {G : Gam} {σ : L2.St}
theorem ev_tupE {K : PySem.W.Frag} {te : TE} {PA PC : PyData → Prop} (e : Ev c r W G σ te PA) (h : ∀ d, PA d → ∃ ds, d = .list ds ∧ PC (.tuple ds)) :
    Ev c r W G σ (tCB (fun xs H Q => ∃ p ys, xs = [.ref p] ∧ ((SqL K H p ys ∧ ∀ l, H l = none → Q (.ref l) (upd H l (.tup ys))) ∨ (SqT K H p ys ∧ Q (.ref p) H))) (tCons te tNil)) PC := fun n H Q l s q =>
  e n H _ l s fun v d H1 b1 m1 rp p1 => by
    obtain ⟨ds, z, hc⟩ := h d p1
    subst z
    obtain ⟨p, xs, rfl, hp, hx⟩ := rp_list rp
    exact ⟨p, xs, rfl, .inl ⟨SqL.of (Hw.sub W H1 _ _ hp), fun t nt => q (.ref t) (.tuple ds) _ (b1.same (same_upd nt)) (m1.trans (Mv.of (same_upd nt))) (.tup (by rw [Hw.at ((s.wk.mv b1 m1).out nt)]; exact upd_same) (RpAll.sm (Same.hw (same_upd nt)) hx)) hc⟩⟩
end
/-! ### a list that grows, hidden from the other data -/
structure DS (n : Nat) (r : Bg) (D : Addr) (G : Gam) (ds : List PyData) (H : Hp) : Prop where
  se : Se n r (fun b => b = r.a ∨ b = D) G H
  at_ : ∃ vs, H D = some (.lst vs) ∧ RpAll (Hw (fun b => b = r.a ∨ b = D) H) vs ds
  off : Off r D
section
variable {n c c1 c2 : Nat} {r : Bg} {G : Gam} {σ : L2.St} {H : Hp} {D0 : Ends} {i : Nat} {ds es : List PyData}
theorem DS.mk' {W : Addr → Prop} {H1 : Hp} {t : Addr} {vs : List V} (se : Se n r W G H1) (nt : H1 t = none) (hv : RpAll (Hw W H1) vs ds) : DS n r t G ds (upd H1 t (.lst vs)) := by
  have ex : Same (Hw W H1) (Hw (fun b => b = r.a ∨ b = t) (upd H1 t (.lst vs))) := by
    rw [hw_upd (.inr rfl)]
    exact Hw.more fun b hb => hb.elim (fun e => .inl (by rw [e]; exact se.wk.bag)) fun e => .inr (by rw [e]; exact nt)
  have off := se.re.new nt
  refine ⟨⟨se.re.same (same_upd nt), ⟨.inl rfl, fun b hb => ?_⟩, fun p hp => Rp.sm ex (se.ok p hp)⟩, ⟨vs, upd_same, RpAll.sm ex hv⟩, off⟩
  rcases hb with e | e
  · rw [e, upd_ne (Ne.symm off.a)]; exact se.re.some
  · rw [e, upd_same]; exact nofun
theorem ds_catE {W : Addr → Prop} {ta tb : TE} {PA PB : PyData → Prop} (a : Ev c1 r W G σ ta PA) (b : Ev c2 r W G σ tb PB) (l : n + (c1 + c2) ≤ M60) (s : Se n r W G H) (h : ∀ d e, PA d → PB e → ∃ ds es, d = .list ds ∧ e = .list es ∧ ds.length ≤ 1000 ∧ es.length ≤ 1000)
    (h2 : ∀ D ds es H', Mv r H H' → DS (n + (c1 + c2)) r D G (ds ++ es) H' → PA (.list ds) → PB (.list es) → D0.nx (σ.set i (some (.ref D))) H') : tAsg (tOp rCat ta tb) (gName i) D0 σ H :=
  a n H _ (by omega) s fun v d H1 re1 m1 rp1 e1 => b (n + c1) H1 _ (by omega) (s.mv re1 m1) fun v2 d2 H2 re2 m2 rp2 e2 => by
    obtain ⟨ds, es, z1, z2, hn, hm⟩ := h d d2 e1 e2
    subst z1 z2
    obtain ⟨p, xs, rfl, hp, hx⟩ := rp_list (Rp.sm (m2.hw s.wk.bag) rp1)
    obtain ⟨p', ys, rfl, hp', hy⟩ := rp_list rp2
    have re3 : BagAt (n + (c1 + c2)) H2 r := re2.to
    exact ⟨p, p', xs, ys, rfl, rfl, Hw.sub W H2 _ _ hp, Hw.sub W H2 _ _ hp', small_add (by rw [hx.length]; exact hn) (by rw [hy.length]; exact hm), fun t nt => h2 t ds es _ ((m1.trans m2).trans (Mv.of (same_upd nt))) (DS.mk' (s.mv re3 (m1.trans m2)) nt (hx.append hy)) e1 e2⟩
theorem DS.app {D : Addr} {m : Nat} (s : DS n r D G ds H) {H1 : Hp} {v : V} {d : PyData} (re1 : BagAt m H1 r) (m1 : Mv r H H1) (rp : Rp (Hw (fun b => b = r.a ∨ b = D) H1) v d) : ∃ vs, H1 D = some (.lst vs) ∧ vs.length = ds.length ∧ DS m r D G (ds ++ [d]) (upd H1 D (.lst (vs ++ [v]))) := by
  obtain ⟨vs, hD, hv⟩ := s.at_
  have hD1 := m1.keep D _ s.off.a hD
  have se1 := s.se.mv re1 m1
  have hv1 := RpAll.sm (m1.hw (W := fun b => b = r.a ∨ b = D) (.inl rfl)) hv
  refine ⟨vs, hD1, hv.length, ⟨re1.store s.off, ⟨.inl rfl, fun b hb => ?_⟩, fun p hp => ?_⟩, ⟨_, upd_same, ?_⟩, s.off⟩
  · rcases hb with e | e
    · rw [e, upd_ne (Ne.symm s.off.a)]; exact re1.some
    · rw [e, upd_same]; exact nofun
  · rw [hw_upd (.inr rfl)]; exact se1.ok p hp
  · rw [hw_upd (.inr rfl)]; exact hv1.snoc rp
/-- the list shown again -/
theorem DS.back {D : Addr} (s : DS n r D G ds H) : Se n r (fun b => b = r.a) ((.ref D, .list ds) :: G) H := by
  obtain ⟨vs, hD, hv⟩ := s.at_
  have less : Same (Hw (fun b => b = r.a ∨ b = D) H) (Hw (fun b => b = r.a) H) := Hw.less fun b hb => .inl hb
  exact ⟨s.se.re, ⟨rfl, fun b hb => by rw [hb]; exact s.se.re.some⟩, GOk.cons (fun p hp => Rp.sm less (s.se.ok p hp)) (.lst (by rw [Hw.at (W := fun b => b = r.a) s.off.a]; exact hD) (RpAll.sm less hv))⟩
end
end CL
set_option Elab.async false
set_option linter.all false
set_option maxRecDepth 100000
set_option maxHeartbeats 4000000
/-! ### sep.join(reversed(a list of texts)) -/
namespace JR
open PySem PySem.Spec PyProof.Rows RT L2
section
variable {prog : Program} {w : World} {A : Around} {E : Value → Shared → Prop} {s : Shared}
theorem join_rev {x : Str} {t : Tok} {it l : Addr} {items : Array Value} {ys : List Str} {Q : Value → Shared → Prop} (hh : A.handled = none) (hit : s.heap.IsRevIter it l ((items.size : Int) - 1)) (hl : s.heap.IsList l items) (hne : l ≠ it) (hn : items.size ≤ sizeLine)
    (hP : ∀ acc : Array Value, ItemsOf (fun i v => items[items.size - 1 - i]? = some v) acc items.size → StrsAre acc.toList ys) (hok : (ys.map (·.length)).sum + ys.length * x.length ≤ 16777216)
    (hQ : ∀ (h' : Heap) (t' : Tok) (k : Nat), (∀ b o, b ≠ it → s.heap.get? b = some o → h'.get? b = some o) → Q (.str (Txt.join x ys) t') { s with heap := h', toks := k }) :
    wpAny (model prog w) A (call (.builtin "str.join") [.str x t, .ref it]) Q E s := by
  refine wpAny_call (codeAny_call_builtin F.slot_str_join.plain F.entry_str_join (F.slot_str_join.check _ _ _ _ _ _ _ _ (typeIs_str _ _ _) (F.args_str_join_2 _ _) ?_))
  rw [join_tree_other]
  refine wpAny_bind (wpAny_typeOf hit.typeIs ?_)
  show wpAny _ A.in1 ((pyIter (.ref it)).tryCatch _ >>= fun it => collect it >>= fun items => joinTail x items) _ _ s
  refine wpAny_bind (wpAny_tryCatch (wpAny_pyIter_revIter hit ?_))
  refine wpAny_bind (collect_rev hh hit hl hne hn fun h' tk acc hk hacc => ?_)
  obtain ⟨l', hl', ht⟩ := strsAre_values (hP acc hacc)
  subst ht
  rw [hl']
  have hok' := joinOk_of hok
  unfold JoinOk at hok'
  rw [Bool.not_eq_true'] at hok'
  have g : Gives (joinTail x (strValues l')) (joinMade x l') := by
    have g0 := gives_joinTail x l' hok'
    cases l' with
    | nil => exact g0
    | cons p r => cases r with
      | nil => exact g0
      | cons q r' => exact g0
  exact g prog w A (wants Q E) { s with heap := h', toks := tk } (post_join l' ⟨joinFit_length hok', fun t' k => hQ h' t' k hk⟩)
end
end JR
namespace CL
open PySem PySem.Spec PyProof.Rows L2 GE RT
def tJoinRev (K : PySem.W.Frag) (to te : TE) : TE := fun σ H Q => to σ H fun x H1 => (∃ a, x = .str a) ∧ te σ H1 fun v H2 => ∃ (a : Str) (q : Addr) (ys : List Str),
  x = .str a ∧ v = .ref q ∧ SqL K H2 q (ys.map V.str) ∧ (ys.reverse.map (·.length)).sum + ys.reverse.length * a.length ≤ 16777216 ∧ Q (.str (Txt.join a ys.reverse)) H2
theorem pe_joinRev {X : Cx} {o e : Expr} {to te : TE} {apos pos p2 pos2 : Pos} (hc : X.calm = true) (ho : PE X o to) (hg2 : Gl X "reversed") (hm2 : X.mg "reversed" = none) (he : PE X e te)
    (hs1 : starEach [.Call (.Name "reversed" p2) [e] [] pos2] X.env = [(false, eval (.Call (.Name "reversed" p2) [e] [] pos2) X.env)] := by rfl)
    (hs : starEach [e] X.env = (false, eval e X.env) :: starEach [] X.env := by rfl)
    (hbase : attributeBase o "join" X.env (eval o X.env) = eval o X.env := by rfl) (hline : (apos.endLine == pos.line) = true := by rfl) :
    PE X (.Call (.Attribute o "join" apos) [.Call (.Name "reversed" p2) [e] [] pos2] [] pos) (tJoinRev X.K to te) := by
  refine ⟨fun pins s σ H Q I h => ?_⟩
  refine PySem.Call_method1 hbase hs1 hline (thn (ho.run pins s σ H _ I h) fun v s1 ⟨x, H1, I1, r1, q1⟩ => ?_)
  obtain ⟨⟨a, rfl⟩, q1⟩ := q1
  obtain ⟨t, rfl⟩ := _root_.id r1
  refine ⟨"str", _, PySem.F.plainAttrs_str, PySem.F.slot_str_join, PySem.F.type_str_join, typeIs_str _ _ _, (fun _ e => nomatch e), Calls.callWith_builtin rfl (Calls.evalArgs_plain (Calls.spliced_cons ?_))⟩
  refine Call_ (ld_blt I1 hg2 hm2 PyProof.Rows.boot_reversed (PyProof.Rows.callWith_type1 (args_cons (thn (he.run pins s1 σ H1 _ I1 q1) fun u s2 ⟨v2, H2, I2, r2, q2⟩ => args_nil ?_) hs) hs rfl))
  obtain ⟨a', q, ys, ea, ev, hq, hz, q2⟩ := q2
  cases ea
  subst ev
  obtain rfl : u = Value.ref q := r2
  obtain ⟨its, rv, p', hsz⟩ := I2.list hq
  refine call_reversed_list p'.isList (Calls.spliced_nil ?_)
  have k0 : ∀ b o, s2.heap.get? b = some o → (s2.heap.push (revObj q ((its.toArray.size : Int) - 1))).get? b = some o := fun b o e => Heap.get?_push_of_some _ e
  have I3 : Inv X pins σ H2 { s2 with heap := s2.heap.push (revObj q ((its.toArray.size : Int) - 1)) } := I2.kept (t' := s2.toks) k0
  obtain ⟨f0, f1, f2, f3, f4, f5⟩ := I2.fpOk (H' := H2) (b := s2.heap.objs.size) (Nat.le_refl _) (I2.hok.fresh (Nat.le_refl _))
  have hl := p'.isList
  obtain ⟨ol, hol, _⟩ := id hl
  have hne : q ≠ s2.heap.objs.size := Nat.ne_of_lt (Heap.lt_size hol)
  have hn : its.toArray.size ≤ sizeLine := by rw [List.size_toArray, ← rv.length]; exact hsz
  refine JR.join_rev (s := { s2 with heap := s2.heap.push (revObj q ((its.toArray.size : Int) - 1)) }) (ys := ys.reverse) (I2.ok.hd hc) ⟨_, Heap.get?_push_size _ rfl, rfl, rfl⟩ (hl.push _) hne hn (fun acc hi => ?_) hz fun h' t' k hk => ?_
  · have rr := vals_rev rv hi
    rw [← List.map_reverse] at rr
    exact strs_of_vals rr
  · exact ⟨.str _, H2, I3.turned (t' := k) (fun b o hb e => hk b o hb e) f0 f1 f3 f4 f5, ⟨t', rfl⟩, q2⟩
end CL
set_option Elab.async false
set_option linter.all false
set_option maxRecDepth 100000
set_option maxHeartbeats 4000000
namespace CL
open PySem PySem.Spec PyProof.Rows L2 GE
theorem lc_seqW {K : PySem.W.Frag} {a : Addr} {xs : List V} {J : It} {g : TG} {tt : TT} {te : TE} {vs : List Nat} {σ : L2.St} {H1 : Hp} {D : Addr} {Qd : Hp → Prop} (Pv : Nat → Hp → Prop) (h0 : Pv 0 (upd H1 D (.lst []))) (hl : ∀ i H, Pv i H → StandsAs K a xs J H)
    (hs : ∀ i x H, xs[i]? = some x → Pv i H → g x (wipe σ vs) H fun σ2 H2 => wipe σ2 vs = wipe σ vs ∧ tt σ2 H2 fun b H3 => if b = true then te σ2 H3 fun y H4 => ∃ acc, H4 D = some (.lst acc) ∧ acc.length < sizeLine ∧ Pv (i + 1) (upd H4 D (.lst (acc ++ [y]))) else Pv (i + 1) H3) (hd : ∀ H, Pv xs.length H → Qd H) :
    ∃ W : Nat → Nat → Hp → Prop, (∃ m, W 0 m (upd H1 D (.lst []))) ∧ ∀ i m H, W i m H → (J.stop i H ∧ Qd H) ∨ (J.go i H ∧ ∃ Nx : Hp → Prop, (∀ H', Nx H' → ∃ m', m' < m ∧ W (i + 1) m' H') ∧ ∀ x H', J.yld i H x H' → g x (wipe σ vs) H' fun σ2 H2 => wipe σ2 vs = wipe σ vs ∧ tt σ2 H2 fun b H3 => if b = true then te σ2 H3 fun y H4 => ∃ acc, H4 D = some (.lst acc) ∧ acc.length < sizeLine ∧ Nx (upd H4 D (.lst (acc ++ [y]))) else Nx H3) := by
  refine ⟨fun i m H => m + i = xs.length ∧ Pv i H, ⟨xs.length, rfl, h0⟩, ?_⟩
  rintro i m H ⟨hm, p⟩
  have s := hl i H p
  cases m with
  | zero =>
    obtain rfl : i = xs.length := by omega
    exact .inl ⟨s.stop (Nat.le_refl _), hd H p⟩
  | succ m =>
    have lt : i < xs.length := by omega
    refine .inr ⟨s.go (List.getElem?_eq_getElem lt), Pv (i + 1), fun H' p' => ⟨m, Nat.lt_succ_self m, by omega, p'⟩, fun x H' y => ?_⟩
    obtain ⟨rfl, hx⟩ := s.yld y
    exact hs i x _ hx p
theorem same_updN {H H1 : Hp} {b : Addr} {o : HO} (s : Same H H1) (n : H b = none) : Same H (upd H1 b o) := fun c o' h => by
  have ne : c ≠ b := fun z => by rw [z, n] at h; cases h
  rw [upd_ne ne]
  exact s c o' h
/-! ### the figures of a number -/
abbrev FIFTY : Int := 100000000000000000000000000000000000000000000000000
structure Nm4 (mg : Str → Option Value) : Prop where
  str : mg "str" = none
  divmod : mg "divmod" = none
  reversed : mg "reversed" = none
  partL : ∃ t, mg "PART_LENGTH" = some (.int 50 t)
  partW : ∃ t, mg "PART_WORTH" = some (.int FIFTY t)
  never : ∃ t, mg "NEVER" = some (.str "never" t)
  ever : ∃ t, mg "EVER" = some (.str "ever" t)
abbrev nFig : List Str := ["number", "parts", "part"]
abbrev nFor : List Str := ["number", "none"]
abbrev nPc : List Str := ["turns", "many", "words", "patience"]
/-- a number's figures, or the word for None -/
def wordD (no : Str) : PyData → Str
  | .int i => toString i
  | _ => no
/-- None, or a number that isn't below 0 and not too great -/
def NumD (d : PyData) : Prop := d = .none ∨ ∃ i, d = .int i ∧ 0 ≤ i ∧ i ≤ GREAT
theorem NumD.of {d : PyData} (h : isPatience d = true) : NumD d := by
  cases d with
  | none => exact .inl rfl
  | int i =>
    simp only [isPatience, Bool.and_eq_true, decide_eq_true_eq] at h
    exact .inr ⟨i, rfl, h.1, h.2⟩
  | _ => simp [isPatience] at h
theorem great140 {i : Int} (h0 : 0 ≤ i) (h1 : i ≤ GREAT) : i.natAbs < 2 ^ 140 := by
  have e : (1000000000000000000000000000000 : Nat) < 2 ^ 140 := by decide
  have h1 : i ≤ 1000000000000000000000000000000 := h1
  omega
theorem int_len {i : Int} (h0 : 0 ≤ i) (h1 : i ≤ GREAT) : (toString i : Str).length ≤ 200 := by
  have b := b_int (k := 0) (great140 h0 h1)
  exact Nat.le_trans (shown_le (.int i) (Nat.le_trans b.wt (by decide)) b.sh) b.wt
theorem word_len {no : Str} {d : PyData} (h : NumD d) (hn : no.length ≤ 200) : (wordD no d).length ≤ 200 := by
  rcases h with rfl | ⟨i, rfl, h0, h1⟩
  · exact hn
  · exact int_len h0 h1
def spFig : Sp := fun vs H Q _ => ∃ i : Int, vs = [.int i] ∧ 0 ≤ i ∧ i ≤ GREAT ∧ ∀ H', Same H H' → Q (.str (toString i)) H'
def spFor : Sp := fun vs H Q _ => ∃ (v : V) (d : PyData) (no : Str), vs = [v, .str no] ∧ Rp H v d ∧ NumD d ∧ ∀ H', Same H H' → Q (.str (wordD no d)) H'
/-- a piece's text -/
def pieceS (ts : List PyData) (m : PyData) : Str := Txt.join " " (ts.map (wordD "never") ++ [("x" : Str), wordD "ever" m])
def spPc : Sp := fun vs H Q _ => ∃ (a : Addr) (xs : List V) (ds : List PyData) (vm : V) (m : PyData), vs = [.ref a, vm] ∧ StSeq H a xs ∧ RpAll H xs ds ∧ ds.length ≤ 8 ∧ (∀ d ∈ ds, NumD d) ∧ Rp H vm m ∧ NumD m ∧ ∀ H', Same H H' → Q (.str (pieceS ds m)) H'
section
variable {P : Program} {w : World} {K : PySem.W.Frag} {mg : Str → Option Value} {base : Heap}
end
end CL
set_option Elab.async false
set_option linter.all false
set_option pp.maxSteps 600
set_option maxRecDepth 100000
set_option maxHeartbeats 4000000
namespace CL
open PySem PySem.Spec PyProof.Rows L2 GE HotX
/-! ### a class of refusals; defs that refuse, what they let out with no context -/
structure ExcM (K : PySem.W.Frag) (mg : Str → Option Value) (x : Str) (C : Addr) : Prop where
  g : mg x = some (.ref C)
  x : PySem.W.excIn K C [.type "ValueError", .type "Exception", .type "BaseException", .type "object"] "ValueError.__new__" = true
  k : PySem.W.keepIn K (.ref C) = true
  b : PySem.W.subIn K (.ref C) (.type "BaseException") = some true
  t : PySem.W.typeIn K (.ref C) = some (.type "type")
section
variable {P : Program} {w : World} {K : PySem.W.Frag} {mg : Str → Option Value} {base : Heap} 
theorem okN {x qual : Str} {st : Stmt} {f : Addr} {fd : FuncData} {N ps : List Str} {k : Nat} {sp : Sp} (F : Fun K x qual st f fd) (S : FnScope N ps (defScope st)) (len : ∀ vs H Q E, sp vs H Q E → vs.length = ps.length)
    (body : ∀ cdv A outer s H vs Q E, Room k (A.deeper (envOfC qual (defScope st) s.heap.objs.size f cdv)) → sp vs H Q E → ∃ t, PSs (cxOf (L2N.CX P w) P w K mg base N qual (defScope st) f cdv A outer s H E) (defBody st) t ∧ t { nx := fun _ H' => Q .non H', rt := Q } (start N vs) H) :
    FnOk P w K mg base (L2N.CX P w) (k + 1) f fd ps sp := by
  obtain ⟨oc, od, kV, doc, pm, an, cdv, ct, osl, rfl, lk, hcd⟩ := F.ex
  exact fn_of lk hcd S len fun A outer s H vs Q E hr h => body cdv A outer s H vs Q E hr h
/-- the one or the other -/
theorem FnOk.both {k : Nat} {f : Addr} {fd : FuncData} {ps : List Str} {sp bad : Sp} (F : FnOk P w K mg base CX0 k f fd ps sp) (G : FnOk P w K mg base (L2N.CX P w) k f fd ps bad) : FnOk P w K mg base (L2N.CX P w) k f fd ps (fun vs H Q E => sp vs H Q E ∨ bad vs H Q E) := by
  refine ⟨fun vs H Q E h => h.elim (F.len vs H Q E) (G.len vs H Q E), fun A outer s H args us vs Q E hr e0 b r h => ?_⟩
  rcases h with h | h
  · refine codeAny_mono (F.run A outer s H args us vs Q E hr e0 b r h) fun c t y => ?_
    match c, y with
    | .ok (.ret u), y => exact y
  · exact G.run A outer s H args us vs Q E hr e0 b r h
end

/-! ### a plan's text -/
abbrev nShow : List Str := ["plan", "turns", "many"]
def pieceT (d : PyData) : Str := pieceS (turnsD d) (sndD d)
def planS (d : PyData) : Str := Txt.join ", " (((rowsD d).getD []).map pieceT)
theorem worth_le : ∀ (ds : List PyData), (∀ d ∈ ds, 0 ≤ worth (sndD d)) → ∀ d ∈ ds, worth (sndD d) ≤ sumSnd ds := by
  intro ds
  induction ds with
  | nil => intro _ d hd; cases hd
  | cons e es ih =>
    intro h d hd
    have e1 : sumSnd (e :: es) = worth (sndD e) + sumSnd es := rfl
    have h0 := h e List.mem_cons_self
    have hs : 0 ≤ sumSnd es := by
      have : ∀ es : List PyData, (∀ d ∈ es, 0 ≤ worth (sndD d)) → 0 ≤ sumSnd es := by
        intro es
        induction es with
        | nil => intro _; exact Int.le_refl _
        | cons x xs ihx =>
          intro h
          have e2 : sumSnd (x :: xs) = worth (sndD x) + sumSnd xs := rfl
          have := h x List.mem_cons_self
          have := ihx fun d hd => h d (List.mem_cons_of_mem _ hd)
          omega
      exact this es fun d hd => h d (List.mem_cons_of_mem _ hd)
    rcases List.mem_cons.mp hd with rfl | hd
    · omega
    · have := ih (fun d hd => h d (List.mem_cons_of_mem _ hd)) d hd
      omega
theorem piece_worth {d : PyData} (h : isPiece d = true) : 0 ≤ worth (sndD d) := by
  obtain ⟨t, m, e, ht, hm⟩ := piece_parts h
  have : sndD d = m := by unfold sndD; rw [e]
  rw [this]
  cases m with
  | int i => show 0 ≤ i; simpa [isMany] using hm
  | _ => exact Int.le_refl _
/-- the parts of a plan -/
theorem plan_parts {d : PyData} (h : isPlan d = true) : ∃ ds, rowsD d = some ds ∧ 1 ≤ ds.length ∧ ds.length ≤ 8 ∧ (∀ x ∈ ds, isPiece x = true) ∧ (∀ x ∈ ds, NumD (sndD x)) ∧ sumSnd ds ≤ GREAT := by
  unfold isPlan at h
  cases e : rowsD d with
  | none => rw [e] at h; cases h
  | some ds =>
    rw [e] at h
    simp only [isPlanL, Bool.and_eq_true, decide_eq_true_eq, List.all_eq_true] at h
    obtain ⟨⟨⟨⟨h1, h2⟩, h3⟩, h4⟩, h5⟩ := h
    refine ⟨ds, rfl, h1, h2, h3, fun x hx => ?_, h5⟩
    have hw := worth_le ds (fun y hy => piece_worth (h3 y hy)) x hx
    obtain ⟨t, m, e, ht, hm⟩ := piece_parts (h3 x hx)
    have es : sndD x = m := by unfold sndD; rw [e]
    rw [es] at hw ⊢
    cases m with
    | none => exact .inl rfl
    | int i =>
      have hi : 0 ≤ i := by simpa [isMany] using hm
      exact .inr ⟨i, rfl, hi, Int.le_trans hw h5⟩
    | _ => simp [isMany] at hm
theorem turns_parts {t : PyData} (h : isTurns t = true) : ∃ ds, rowsD t = some ds ∧ 1 ≤ ds.length ∧ ds.length ≤ 8 ∧ ∀ x ∈ ds, isPatience x = true := by
  unfold isTurns at h
  cases e : rowsD t with
  | none => rw [e] at h; cases h
  | some ds =>
    rw [e] at h
    simp only [Bool.and_eq_true, decide_eq_true_eq, List.all_eq_true] at h
    exact ⟨ds, rfl, h.1.1, h.1.2, h.2⟩
theorem piece_len {ts : List PyData} {m : PyData} (h8 : ts.length ≤ 8) (hN : ∀ d ∈ ts, NumD d) (hM : NumD m) : (pieceS ts m).length ≤ 2000 := by
  have hsum : ∀ es : List PyData, (∀ d ∈ es, NumD d) → ((es.map (wordD "never")).map (·.length)).sum ≤ es.length * 200 := by
    intro es
    induction es with
    | nil => intro _; exact Nat.le_refl _
    | cons e es ih =>
      intro h
      have h1 := word_len (no := "never") (h e List.mem_cons_self) (by decide)
      have h2 := ih fun d hd => h d (List.mem_cons_of_mem _ hd)
      simp only [List.map_cons, List.sum_cons, List.length_cons]
      omega
  have h1 := hsum ts hN
  have h2 := word_len (no := "ever") hM (by decide)
  have h3 : (Str.ofString " ").length = 1 := rfl
  have h4 : (Str.ofString "x").length = 1 := rfl
  have := StrLaws.join_length_le " " (ts.map (wordD "never") ++ [("x" : Str), wordD "ever" m])
  rw [← StrLaws.glued_eq_join] at this
  refine Nat.le_trans this ?_
  simp only [List.map_append, List.sum_append, List.map_cons, List.map_nil, List.sum_cons, List.sum_nil, List.length_append, List.length_map, List.length_cons, List.length_nil, h3, h4]
  omega
def spChk (P1 P2 : Addr) : Sp := fun vs H Q _ => ∃ (v : V) (d : PyData), vs = [v] ∧ Rp H v d ∧ Tb P1 P2 H ∧ isPlan d = true ∧ ∀ H', Ex H H' → Tb P1 P2 H' → Q .non H'
def badPlan (P1 P2 B : Addr) : Sp := fun vs H _ E => ∃ (v : V) (d : PyData), vs = [v] ∧ Rp H v d ∧ Tb P1 P2 H ∧ isPlan d = false ∧ ∀ H', Ex H H' → Tb P1 P2 H' → E (.ref B) none H'
def spShow (P1 P2 : Addr) : Sp := fun vs H Q _ => ∃ (v : V) (d : PyData), vs = [v] ∧ Rp H v d ∧ Tb P1 P2 H ∧ isPlan d = true ∧ ∀ H', Ex H H' → Tb P1 P2 H' → Q (.str (planS d)) H'
section
variable {P : Program} {w : World} {K : PySem.W.Frag} {mg : Str → Option Value} {base : Heap} {P1 P2 : Addr}
theorem ok_chk {f : Addr} {fd : FuncData} (F : Fun K "check_plan" "check_plan" sCheck f fd) (CP : Cal P w K mg base 7 "is_plan" ["thing"] (spTab P1 P2 isPlan)) : FnOk P w K mg base CX0 8 f fd ["thing"] (spChk P1 P2) := by
  refine F.ok scCheck (fun vs H Q E ⟨v, d, e, _⟩ => by rw [e]; rfl) (fun cdv A outer s H vs Q E hr h => ?_)
  obtain ⟨v, d, rfl, hR, hT, hp, q⟩ := h
  refine ⟨_, (pss_one (ps_if (pt_not (pt_val (pe_cal CP hr (by rfl) (pa_cons (pv 0) pa_nil)))) (pss_one ps_never) pss_nil)), ?_⟩
  refine ⟨v, rfl, v, d, rfl, hR, hT, fun H1 e1 tb1 => ⟨isPlan d, rfl, ?_⟩⟩
  rw [hp]
  exact iteF (q H1 e1 tb1)
theorem bad_chk {f B : Addr} {fd : FuncData} (F : Fun K "check_plan" "check_plan" sCheck f fd) (XB : ExcM K mg "NoPlan" B) (CP : Cal P w K mg base 7 "is_plan" ["thing"] (spTab P1 P2 isPlan)) : FnOk P w K mg base (L2N.CX P w) 8 f fd ["thing"] (badPlan P1 P2 B) := by
  refine okN F scCheck (fun vs H Q E ⟨v, d, e, _⟩ => by rw [e]; rfl) (fun cdv A outer s H vs Q E hr h => ?_)
  obtain ⟨v, d, rfl, hR, hT, hp, q⟩ := h
  refine ⟨_, (pss_one (ps_if (pt_not (pt_val (pe_cal CP hr (by rfl) (pa_cons (pv 0) pa_nil)))) (pss_one (L2N.ps_raise rfl (L2N.takes_of rfl rfl rfl rfl) (L2N.pmk_own PySem.F.excBase_ValueError XB.x XB.g XB.k (raises_own XB.b XB.t) (by rfl)))) pss_nil)), ?_⟩
  refine ⟨v, rfl, v, d, rfl, hR, hT, fun H1 e1 tb1 => ⟨isPlan d, rfl, ?_⟩⟩
  rw [hp]
  exact iteT (q H1 e1 tb1)
end
end CL
set_option Elab.async false
set_option linter.all false
set_option pp.maxSteps 600
set_option maxRecDepth 100000
set_option maxHeartbeats 4000000
namespace CL
open PySem PySem.Spec PyProof.Rows L2 GE
abbrev sPatB : Stmt := topS 46
abbrev sPlanB : Stmt := topS 47
abbrev nPat : List Str := ["bag", "most"]
abbrev nPlanB : List Str := ["bag", "most", "wide", "found", "k", "patiences", "spot"]
theorem scPatB : FnScope nPat ["bag", "most"] (defScope sPatB) := ⟨rfl, rfl, rfl, by decide +kernel, rfl, by decide +kernel, by decide +kernel⟩
theorem scPlanB : FnScope nPlanB ["bag", "most", "wide"] (defScope sPlanB) := ⟨rfl, rfl, rfl, by decide +kernel, rfl, by decide +kernel, by decide +kernel⟩
structure Nm5 (mg : Str → Option Value) : Prop where
  range : mg "range" = none
  min : mg "min" = none
  repr : mg "repr" = none
/-! ### plans that are drawn -/
abbrev RowT := List PyData × PyData
def rowD (x : RowT) : PyData := .tuple [.list x.1, x.2]
def planD (L : List RowT) : PyData := .list (L.map rowD)
/-- how many come, drawn -/
def DrM (d : PyData) : Prop := ∃ m : Int, d = .int m ∧ 0 ≤ m ∧ m < 100000000000000000000000000000
structure RowF (x : RowT) : Prop where
  l1 : 1 ≤ x.1.length
  l8 : x.1.length ≤ 8
  pt : ∀ d ∈ x.1, isPatience d = true
structure PlanL (L : List RowT) : Prop where
  l1 : 1 ≤ L.length
  l8 : L.length ≤ 8
  rows : ∀ x ∈ L, RowF x
  many : ∀ i x, L[i]? = some x → DrM x.2 ∨ (i + 1 = L.length ∧ x.2 = .none)
def spPatB (r : Bg) : Sp := fun vs H Q _ => ∃ (most : Int) (n : Nat), vs = [.ref r.a, .int most] ∧ BagAt n H r ∧ n + 4 ≤ M60 ∧ 0 ≤ most ∧ most ≤ GREAT ∧ ∀ v d H', BagAt (n + 4) H' r → Mv r H H' → Rp (fun _ => none) v d → isPatience d = true → Q v H'
def spPlanB (r : Bg) : Sp := fun vs H Q _ => ∃ (most wide : Int) (n : Nat), vs = [.ref r.a, .int most, .int wide] ∧ BagAt n H r ∧ n + 400 ≤ M60 ∧ 1 ≤ most ∧ most ≤ 8 ∧ 0 ≤ wide ∧ wide ≤ GREAT ∧
  ∀ v L H', BagAt (n + 400) H' r → Mv r H H' → Rp (Hw (fun b => b = r.a) H') v (planD L) → PlanL L → Q v H'
/-- data of no parts are so in any heap -/
theorem rp_any {H : Hp} {v : V} {d : PyData} (h : Rp (fun _ => none) v d) : Rp H v d := Rp.sm (fun b o e => by cases e) h
theorem pat_any {H H' : Hp} {v : V} {d : PyData} (h : Rp H v d) (p : isPatience d = true) : Rp H' v d := by
  cases h with
  | non => exact .non
  | int i => exact .int i
  | _ => simp [isPatience] at p
theorem pats_any {H H' : Hp} : ∀ {vs : List V} {ds : List PyData}, RpAll H vs ds → (∀ d ∈ ds, isPatience d = true) → RpAll H' vs ds
  | _, _, .nil, _ => .nil
  | _, _, .cons h t, p => .cons (pat_any h (p _ List.mem_cons_self)) (pats_any t fun d hd => p d (List.mem_cons_of_mem _ hd))
theorem ix_last (n : Nat) : ixN (n + 1) (-1) = some n := by
  unfold ixN
  rw [if_neg (by decide), if_pos (by omega)]
  congr 1
  omega
/-! ### rows that were drawn are a plan -/
theorem DS.mv {n m : Nat} {r : Bg} {D : Addr} {G : Gam} {ds : List PyData} {H H' : Hp} (s : DS n r D G ds H) (b : BagAt m H' r) (mv : Mv r H H') : DS m r D G ds H' := by
  obtain ⟨vs, hD, hv⟩ := s.at_
  exact ⟨s.se.mv b mv, ⟨vs, mv.keep D _ s.off.a hD, RpAll.sm (mv.hw (.inl rfl)) hv⟩, s.off⟩
theorem DS.to {n m : Nat} {r : Bg} {D : Addr} {G : Gam} {ds : List PyData} {H : Hp} (s : DS n r D G ds H) (e : n ≤ m) : DS m r D G ds H := ⟨s.se.to e, s.at_, s.off⟩
theorem seqP {A B : TS} {D : Ends} {σ : L2.St} {H : Hp} (R : L2.St → Hp → Prop) (hB : ∀ σ' H', R σ' H' → B D σ' H') (hA : ∀ nx : L2.St → Hp → Prop, (∀ σ' H', R σ' H' → nx σ' H') → A { D with nx := nx } σ H) : tSeq A B D σ H := hA (B D) hB
theorem RpAll.unsnoc2 {H : Hp} : ∀ {vs : List V} {ds : List PyData} {d : PyData}, RpAll H vs (ds ++ [d]) → ∃ v0 v, vs = v0 ++ [v] ∧ RpAll H v0 ds ∧ Rp H v d
  | _, [], _, .cons h .nil => ⟨[], _, rfl, .nil, h⟩
  | _, e :: es, _, .cons h t => by
    obtain ⟨v0, v, rfl, h0, h1⟩ := RpAll.unsnoc2 (ds := es) t
    exact ⟨_ :: v0, v, rfl, .cons h h0, h1⟩
section
variable {P : Program} {w : World} {K : PySem.W.Frag} {mg : Str → Option Value} {base : Heap}
theorem ok_patB {f : Addr} {r : Bg} {fd : FuncData} (F : Fun K "_law_patience" "_law_patience" sPatB f fd) (CD : Cal P w K mg base 2 "_law_draw" ["bag", "many"] (spDraw r)) : FnOk P w K mg base CX0 3 f fd ["bag", "most"] (spPatB r) := by
  refine F.ok scPatB (fun vs H Q E ⟨most, n, e, _⟩ => by rw [e]; rfl) (fun cdv A outer s H vs Q E hr h => ?_)
  obtain ⟨most, n, rfl, hb, hn, m0, m1, q⟩ := h
  have nd := scPatB.nd
  have t140 : (2 : Int) ^ 140 = 1393796574908163946345982392040522594123776 := by decide +kernel
  have hG : GREAT = 1000000000000000000000000000000 := rfl
  refine ⟨_, (pss_one (ps_ret (pe_ix ix_list (pe_lst (pa_cons (pe_cal (CD.mono (by decide)) hr (by rfl) (pa_cons (pv 0) (pa_cons pe_int pa_nil))) (pa_cons (pe_cal (CD.mono (by decide)) hr (by rfl) (pa_cons (pv 0) (pa_cons pe_int pa_nil))) (pa_cons (pe_cal (CD.mono (by decide)) hr (by rfl) (pa_cons (pv 0) (pa_cons (pe_op op_add (pv 1) pe_int) pa_nil))) (pa_cons pe_non pa_nil))))) (pe_cal (CD.mono (by decide)) hr (by rfl) (pa_cons (pv 0) (pa_cons pe_int pa_nil))) (fun _ _ => rfl)))), ?_⟩
  have hS : Se n r (fun b => b = r.a) [] H := ⟨hb, ⟨rfl, fun b hb' => by rw [hb']; exact hb.some⟩, fun p hp => nomatch hp⟩
  have d3 : Ev 1 r (fun b => b = r.a) [] [some (.ref r.a), some (.int most)] (tCall (spDraw r) [] E0 (tCons (tVar 0) (tCons (tC (.int 3)) tNil))) (fun d => isPatience d = true) := (ev_draw (ev_int (i := 3)) rfl (by decide) (by decide)).ev fun i hi => by
    simp only [isPatience, Bool.and_eq_true, decide_eq_true_eq]; omega
  have dm : Ev 1 r (fun b => b = r.a) [] [some (.ref r.a), some (.int most)] (tCall (spDraw r) [] E0 (tCons (tVar 0) (tCons (tOp (rI0 fun i j => .int (i + j)) (tVar 1) (tC (.int 1))) tNil))) (fun d => isPatience d = true) :=
    (ev_draw (evi_add (ev_varI (i := 1) rfl) (ev_int (i := 1))) rfl (by omega) (by rw [t140]; omega)).ev fun i hi => by
    simp only [isPatience, Bool.and_eq_true, decide_eq_true_eq]; omega
  exact (ev_ix (K := K) (ev_lst (eva_cons d3 (eva_cons d3 (eva_cons dm (eva_cons (ev_non rfl) eva_nil))))) ((ev_draw (ev_int (i := 4)) rfl (by decide) (by decide)).imp fun i hi => ⟨hi.1, by have := hi.2; show i < 4; omega⟩)) n H _ (by omega) hS fun v d H' b' m' rp p => q v d H' b'.to m' (pat_any rp p) p
theorem ok_planB {f : Addr} {r : Bg} {fd : FuncData} (F : Fun K "_law_plan" "_law_plan" sPlanB f fd) (T2 : Nm5 mg) (CD : Cal P w K mg base 2 "_law_draw" ["bag", "many"] (spDraw r)) (CP : Cal P w K mg base 3 "_law_patience" ["bag", "most"] (spPatB r)) : FnOk P w K mg base CX0 4 f fd ["bag", "most", "wide"] (spPlanB r) := by
  refine F.ok scPlanB (fun vs H Q E ⟨most, wide, n, e, _⟩ => by rw [e]; rfl) (fun cdv A outer s H vs Q E hr h => ?_)
  obtain ⟨most, wide, n, rfl, hb, hn, m1, m8, w0, w1, q⟩ := h
  have nd := scPlanB.nd
  have hM : M60 = 1000000000000000000 := rfl
  have hG : GREAT = 1000000000000000000000000000000 := rfl
  have t140 : (2 : Int) ^ 140 = 1393796574908163946345982392040522594123776 := by decide +kernel
  refine ⟨_, (pss_cons (ps_set (i := 3) nd rfl (.inl rfl) (pe_lst pa_nil))
      (pss_cons (ps_for PassesOwn.never rfl (pi_range1 (by rfl) T2.range (pa_cons (pe_op op_add pe_int (pe_cal (CD.mono (by decide)) hr (by rfl) (pa_cons (pv 0) (pa_cons (pv 1) pa_nil)))) pa_nil)) (pg_name (i := 4) nd rfl (.inl rfl)) (pss_cons (ps_setLc (i := 5) (own := [("spot", 6)]) (g := (gName 6)) (tt := tYes) rfl nd rfl rfl (sw_true rfl rfl rfl (by decide +kernel)) (pi_range1 (by rfl) T2.range (pa_cons (pe_op op_add pe_int (pe_cal (CD.mono (by decide)) hr (by rfl) (pa_cons (pv 0) (pa_cons pe_int pa_nil)))) pa_nil)) (blkOk_by (own := [("spot", 6)]) (N := nPlanB) (sc := (defScope sPlanB)) (by decide +kernel)) (fun _ _ _ _ _ => (pg_name (i := 6) nd rfl (.inl rfl))) (fun _ _ _ _ _ => pts_nil) (fun _ _ _ _ _ => (pe_cal (CP.mono (by decide)) hr (by rfl) (pa_cons (pv 0) (pa_cons (pv 2) pa_nil)))))
      (pss_one (ps_expr (pe_bm PySem.F.plainAttrs_list PySem.F.slot_list_append PySem.F.type_list_append mt_append (pv 3) (pa_cons (pe_tup (pa_cons (pv 5) (pa_cons (pe_ix ix_list (pe_lst (pa_cons (pe_cal (CD.mono (by decide)) hr (by rfl) (pa_cons (pv 0) (pa_cons pe_int pa_nil))) (pa_cons (pe_cal (CD.mono (by decide)) hr (by rfl) (pa_cons (pv 0) (pa_cons (pe_op op_pow pe_int pe_int) pa_nil))) pa_nil))) (pe_cal (CD.mono (by decide)) hr (by rfl) (pa_cons (pv 0) (pa_cons pe_int pa_nil))) (fun _ _ => rfl)) pa_nil))) pa_nil))))))
      (pss_cons (ps_if (pt_cmpR op_eq (pe_cal (CD.mono (by decide)) hr (by rfl) (pa_cons (pv 0) (pa_cons pe_int pa_nil))) pe_int (nomark _)) (pss_one (ps_asg (pe_tup (pa_cons (pe_ix ix_tup (pe_ix ix_list (pv 3) (pe_un un_neg pe_int) (fun _ _ => rfl)) pe_int (fun _ _ => rfl)) (pa_cons pe_non pa_nil))) (pg_sub (pv 3) (pe_un un_neg pe_int) set_list))) pss_nil)
      (pss_one (ps_ret (pv 3)))))), ?_⟩
  refine ⟨Nat.zero_le _, fun pf npf => ?_⟩
  have hS : Se n r (fun b => b = r.a) [] H := ⟨hb, ⟨rfl, fun b hb' => by rw [hb']; exact hb.some⟩, fun p hp => nomatch hp⟩
  have D1 : DS n r pf [] (([] : List RowT).map rowD) (upd H pf (.lst [])) := DS.mk' hS npf .nil
  have v1 : Mv r H (upd H pf (.lst [])) := Mv.of (same_upd npf)
  generalize upd H pf (.lst []) = H1 at D1 v1 ⊢
  dsimp only [gName]
  show tSeq _ _ _ [some (.ref r.a), some (.int most), some (.int wide), some (.ref pf), none, none, none] H1
  refine ⟨.ref r.a, rfl, .int most, rfl, most, n, rfl, D1.se.re, by omega, m1, by rw [t140]; omega, fun x H2 b2 v2 x0 x1 => ⟨1, x, rfl, rfl, 1 + x, rfl, by omega, by omega, ?_⟩⟩
  obtain ⟨sz, hsz⟩ : ∃ sz : Nat, 1 + x = (sz : Int) := ⟨(1 + x).toNat, by omega⟩
  rw [hsz]
  have D2 := D1.mv b2 v2
  refine for_range (lo := 0) (n := ((sz : Int)).toNat) (fun i σ H4 => ∃ L y4 y5, σ = [some (.ref r.a), some (.int most), some (.int wide), some (.ref pf), y4, y5, none] ∧ DS (n + 1 + 40 * i) r pf [] (L.map rowD) H4 ∧ Mv r H H4 ∧ L.length = i ∧ (∀ x ∈ L, RowF x) ∧ ∀ x ∈ L, DrM x.2)
    ⟨[], none, none, rfl, D2, v1.trans v2, rfl, fun x hx => (nomatch hx), fun x hx => (nomatch hx)⟩ (fun i σ H4 hi hP => ?_) (fun σ H4 hP => ?_)
  · obtain ⟨L, y4, y5, rfl, D4, v4, hL, hF, hMn⟩ := hP
    have hi8 : i < 8 := by omega
    dsimp only [gName]
    show tSeq _ _ _ [some (.ref r.a), some (.int most), some (.int wide), some (.ref pf), some (.int (0 + (i : Int))), y5, none] H4
    refine ⟨.ref r.a, rfl, 8, _, rfl, D4.se.re, by omega, by decide, by decide, fun y H5 b5 v5 y0 y1 => ⟨1, y, rfl, rfl, 1 + y, rfl, by omega, by omega, fun D hD => ?_⟩⟩
    have Dr := (b5.new hD).a
    have D5 := D4.mv b5 v5
    refine lc_range (lo := 0) (n := (1 + y).toNat) (fun j H6 => ∃ ts vs, BagAt (n + 1 + 40 * i + 1 + 4 * j) H6 r ∧ Mv r H5 H6 ∧ H6 D = some (.lst vs) ∧ RpAll (fun _ => none) vs ts ∧ ts.length = j ∧ ∀ d ∈ ts, isPatience d = true)
      ⟨[], [], b5.store (b5.new hD), (Mv.refl r H5).upd hD, upd_same, .nil, rfl, fun d hd => (nomatch hd)⟩ (fun j H6 hj ⟨ts, vs, b6, m6, eD, hv, lt, hp⟩ => ?_) (fun H6 ⟨ts, vs, b6, m6, eD, hv, lt, hp⟩ => ?_)
    · have hj8 : j < 8 := by omega
      refine ⟨rfl, yesT ⟨.ref r.a, rfl, .int wide, rfl, wide, _, rfl, b6, by omega, w0, w1, fun v d H7 b7 m7 rp p => ⟨vs, m7.keep D _ Dr eD, small1000 (by rw [hv.length]; omega), ts ++ [d], vs ++ [v], (b7.mono (by omega)).store (b5.new hD), (m6.trans m7).upd hD, upd_same, hv.snoc rp, by rw [List.length_append, lt]; rfl, fun e he => ?_⟩⟩⟩
      rcases List.mem_append.mp he with he | he
      · exact hp e he
      · rw [List.mem_singleton.mp he]; exact p
    have hl1 : 1 ≤ ts.length ∧ ts.length ≤ 8 := by omega
    have D6 := (D5.mv b6 m6).to (m := n + 1 + 40 * i + 34) (by omega)
    dsimp only [gName]
    show tDrop _ _ [some (.ref r.a), some (.int most), some (.int wide), some (.ref pf), some (.int (0 + (i : Int))), some (.ref D), none] H6
    obtain ⟨fvs, hpf, _⟩ := D6.at_
    refine ⟨.ref pf, rfl, .inl ⟨rfl, _, SqL.of hpf⟩, .ref D, rfl, ?_⟩
    have em : Ev 3 r (fun b => b = r.a ∨ b = pf) [] [some (.ref r.a), some (.int most), some (.int wide), some (.ref pf), some (.int (0 + (i : Int))), some (.ref D), none]
        (tOp (rIxL K) (tLst (tCons (tCall (spDraw r) [] E0 (tCons (tVar 0) (tCons (tC (.int 30)) tNil))) (tCons (tCall (spDraw r) [] E0 (tCons (tVar 0) (tCons (tOp (rI CPow fun i j => .int (i ^ j.toNat)) (tC (.int 10)) (tC (.int 29))) tNil))) tNil))) (tCall (spDraw r) [] E0 (tCons (tVar 0) (tCons (tC (.int 2)) tNil)))) DrM :=
      ev_ix (ev_lst (eva_cons ((ev_draw (ev_int (i := 30)) rfl (by decide) (by decide)).ev fun i hi => ⟨i, rfl, hi.1, by have := hi.2; omega⟩)
        (eva_cons ((ev_draw (evi_pow ⟨by decide, by decide, by decide⟩) rfl (by decide +kernel) (by decide +kernel)).ev fun i hi => ⟨i, rfl, hi.1, Int.lt_of_lt_of_le hi.2 (by decide +kernel)⟩) eva_nil))) ((ev_draw (ev_int (i := 2)) rfl (by decide) (by decide)).imp fun i hi => ⟨hi.1, by have := hi.2; show i < 2; omega⟩)
    refine em _ H6 _ (by omega) D6.se fun vm dm H7 b7 m7 rpm hdm => ?_
    refine ⟨small_le (by show 2 ≤ 1000; decide), fun u nu => ?_⟩
    have D7 := D6.mv b7 m7
    have eD7 := m7.keep D _ Dr eD
    have s8 := same_upd (o := .tup [.ref D, vm]) nu
    have uW := D7.se.wk.out nu
    have D8 := D7.mv (b7.same s8) (Mv.of s8)
    have eu : (upd H7 u (.tup [.ref D, vm])) u = some (.tup [.ref D, vm]) := upd_same
    have eD8 := s8 _ _ eD7
    have v8 : Mv r H (upd H7 u (.tup [.ref D, vm])) := (v4.trans v5).trans ((m6.trans m7).trans (Mv.of s8))
    generalize upd H7 u (.tup [.ref D, vm]) = H8 at s8 D8 eu eD8 v8 ⊢
    have Dpf : D ≠ pf := fun z => by
      obtain ⟨gv, hg, _⟩ := D5.at_
      rw [z, hg] at hD
      cases hD
    have DW : ¬ (D = r.a ∨ D = pf) := fun z => z.elim Dr Dpf
    obtain ⟨d', rfl, d0, d1⟩ := hdm
    obtain ⟨fv, hfv, lf, D9⟩ := D8.app (D := pf) D8.se.re (Mv.refl r H8) (v := .ref u) (d := rowD (ts, .int d')) (.tup (by rw [Hw.at (W := fun b => b = r.a ∨ b = pf) uW]; exact eu) (.cons (.lst (by rw [Hw.at (W := fun b => b = r.a ∨ b = pf) DW]; exact eD8) (pats_any hv hp)) (.cons (by cases rpm; exact .int d') .nil)))
    refine ⟨pf, fv, .ref u, rfl, rfl, hfv, small1000 (by rw [lf, List.length_map]; omega), L ++ [(ts, .int d')], _, _, rfl, ?_, v8.upd npf, by rw [List.length_append, hL]; rfl, fun x hx => ?_, fun x hx => ?_⟩
    · rw [List.map_append]
      exact D9.to (by omega)
    · rcases List.mem_append.mp hx with hx | hx
      · exact hF x hx
      · rw [List.mem_singleton.mp hx]
        exact ⟨hl1.1, hl1.2, hp⟩
    · rcases List.mem_append.mp hx with hx | hx
      · exact hMn x hx
      · rw [List.mem_singleton.mp hx]
        exact ⟨d', rfl, d0, d1⟩
  · obtain ⟨L, y4, y5, rfl, D4, v4, hL, hF, hMn⟩ := hP
    have hsz8 : 1 ≤ L.length ∧ L.length ≤ 8 := by omega
    have D4 := D4.to (m := n + 399) (by omega)
    dsimp only []
    show tSeq (tIfS _ _ _) _ _ [some (.ref r.a), some (.int most), some (.int wide), some (.ref pf), y4, y5, none] H4
    refine seqP (fun σ' H' => ∃ L, σ' = [some (.ref r.a), some (.int most), some (.int wide), some (.ref pf), y4, y5, none] ∧ DS (n + 400) r pf [] (L.map rowD) H' ∧ Mv r H H' ∧ PlanL L) (fun σ' H' hR => ?_) (fun nx hnx => ?_)
    · obtain ⟨L, rfl, D5, v5, hP⟩ := hR
      exact ⟨.ref pf, rfl, q (.ref pf) L H' D5.se.re v5 (D5.back.ok (.ref pf, .list (L.map rowD)) List.mem_cons_self) hP⟩
    · refine ⟨.ref r.a, rfl, 2, _, rfl, D4.se.re, by omega, by decide, by decide, fun z H5 b5 v5 z0 z1 => ⟨rfl, _, rfl, ite2 (fun c => ?_) (fun c => ?_)⟩⟩
      rotate_left
      · exact hnx _ _ ⟨L, rfl, D4.mv b5 v5, v4.trans v5, hsz8.1, hsz8.2, hF, fun i x hx => .inl (hMn x (List.mem_of_getElem? hx))⟩
      clear c
      have D5 := D4.mv b5 v5
      have v5 := v4.trans v5
      obtain ⟨L0, ⟨ts, mm⟩, rfl⟩ : ∃ L0 x, L = L0 ++ [x] := ⟨L.dropLast, L.getLast (by intro z; rw [z] at hsz8; exact absurd hsz8.1 (by decide)), (List.dropLast_concat_getLast _).symm⟩
      obtain ⟨gvs, hgv, hrp⟩ := D5.at_
      rw [List.map_append, List.map_cons, List.map_nil] at hrp
      obtain ⟨fv0, vl, rfl, hrp0, hrpl⟩ := hrp.unsnoc2
      cases hrpl with
      | @tup b _ _ hb hall =>
      cases hall with
      | cons ht hall =>
      cases hall with
      | cons hm hall =>
      cases hall
      cases ht with
      | @lst t tv _ ht htv =>
      have hb' := Hw.sub _ _ _ _ hb
      have ht' := Hw.sub _ _ _ _ ht
      have tW := Hw.ne ht
      refine ⟨.ref pf, rfl, 1, rfl, pf, _, -1, .ref b, rfl, rfl, SqL.of hgv, atI_last _ _, b, _, 0, .ref t, rfl, rfl, SqT.of hb', rfl, small_le (by show 2 ≤ 1000; decide), fun u nu => ?_⟩
      have s6 := same_upd (o := .tup [.ref t, .non]) nu
      have eu : (upd H5 u (.tup [.ref t, .non])) u = some (.tup [.ref t, .non]) := upd_same
      have uW := D5.se.wk.out nu
      have ht6 := s6 _ _ ht'
      have b6 := b5.same s6
      have v6 := v5.trans (Mv.of s6)
      have hgv6 := s6 _ _ hgv
      have hrp06 := RpAll.sm (Same.hw (W := fun b => b = r.a ∨ b = pf) s6) hrp0
      have htv6 := RpAll.sm (Same.hw (W := fun b => b = r.a ∨ b = pf) s6) htv
      generalize upd H5 u (.tup [.ref t, .non]) = H6 at s6 eu ht6 b6 v6 hgv6 hrp06 htv6 ⊢
      have hixl : ixN (fv0 ++ [V.ref b]).length (-1) = some fv0.length := by
        rw [List.length_append, List.length_singleton]
        exact ix_last _
      refine ⟨.ref pf, rfl, 1, rfl, pf, _, -1, fv0.length, rfl, rfl, hgv6, hixl, ?_⟩
      have eset : (fv0 ++ [V.ref b]).set fv0.length (V.ref u) = fv0 ++ [.ref u] := by rw [List.set_append_right _ _ (Nat.le_refl _), Nat.sub_self]; rfl
      rw [eset]
      have off := D5.off
      have hF0 : RowF (ts, mm) := hF _ (List.mem_append_right _ List.mem_cons_self)
      refine hnx _ _ ⟨L0 ++ [(ts, .none)], rfl, ⟨⟨b6.store off, ⟨.inl rfl, fun c hc => ?_⟩, fun p hp => nomatch hp⟩, ⟨_, upd_same, ?_⟩, off⟩, v6.upd npf, ?_⟩
      · rcases hc with e | e
        · rw [e, upd_ne (Ne.symm off.a)]; exact b6.some
        · rw [e, upd_same]; exact nofun
      · rw [hw_upd (W := fun b => b = r.a ∨ b = pf) (a := pf) (.inr rfl), List.map_append]
        exact hrp06.snoc (.tup (by rw [Hw.at (W := fun b => b = r.a ∨ b = pf) uW]; exact eu) (.cons (.lst (by rw [Hw.at (W := fun b => b = r.a ∨ b = pf) tW]; exact ht6) htv6) (.cons .non .nil)))
      · rw [List.length_append] at hsz8
        refine ⟨by rw [List.length_append]; exact hsz8.1, by rw [List.length_append]; exact hsz8.2, fun x hx => ?_, fun i x hx => ?_⟩
        · rcases List.mem_append.mp hx with hx | hx
          · exact hF x (List.mem_append_left _ hx)
          · rw [List.mem_singleton.mp hx]
            exact ⟨hF0.l1, hF0.l8, hF0.pt⟩
        · by_cases hi : i < L0.length
          · rw [List.getElem?_append_left hi] at hx
            exact .inl (hMn x (List.mem_append_left _ (List.mem_of_getElem? hx)))
          · rw [List.getElem?_append_right (by omega)] at hx
            have h0 : i - L0.length = 0 := by
              have := (List.getElem?_eq_some_iff.mp hx).1
              rw [List.length_singleton] at this
              omega
            rw [h0] at hx
            cases hx
            exact .inr ⟨by rw [List.length_append, List.length_singleton]; omega, rfl⟩
end
end CL
set_option Elab.async false
set_option linter.all false
set_option pp.maxSteps 600
set_option maxRecDepth 100000
set_option maxHeartbeats 4000000
namespace CL
open PySem PySem.Spec PyProof.Rows L2 GE
/-! ### evaluation to what is known in full -/
section
variable {c c1 c2 : Nat} {r : Bg} {W : Addr → Prop} {G : Gam} {σ : L2.St}
def EvL (c : Nat) (r : Bg) (W : Addr → Prop) (G : Gam) (σ : L2.St) (ta : TA) (ds : List PyData) : Prop := ∀ n H Q, n + c ≤ M60 → Se n r W G H → (∀ vs H', BagAt (n + c) H' r → Mv r H H' → RpAll (Hw W H') vs ds → Q vs H') → ta σ H Q
theorem evl_nil : EvL 0 r W G σ tNil [] := fun n H Q l s q => q [] H s.re (Mv.refl r H) .nil
theorem evl_cons {te : TE} {ta : TA} {d : PyData} {ds : List PyData} (e : Ev c1 r W G σ te (· = d)) (a : EvL c2 r W G σ ta ds) : EvL (c1 + c2) r W G σ (tCons te ta) (d :: ds) := fun n H Q l s q =>
  e n H _ (by omega) s fun v d' H1 re1 m1 rp1 p1 => a (n + c1) H1 _ (by omega) (s.mv re1 m1) fun vs H2 re2 m2 rp2 => q (v :: vs) H2 re2.to (m1.trans m2) (.cons (Rp.sm (m2.hw s.wk.bag) (by rw [← p1]; exact rp1)) rp2)
theorem RpAll.len {H : Hp} {vs : List V} {ds : List PyData} (h : RpAll H vs ds) : vs.length = ds.length := h.length
theorem evx_lst {ta : TA} {ds : List PyData} (a : EvL c r W G σ ta ds) (hn : ds.length ≤ 1000 := by decide) : Ev c r W G σ (tLst ta) (· = .list ds) := fun n H Q l s q =>
  a n H _ l s fun vs H1 re1 m1 rp1 => ⟨small_le (by rw [rp1.length]; exact hn), fun p np => q (.ref p) (.list ds) _ (re1.same (same_upd np)) (m1.trans (Mv.of (same_upd np)))
    (.lst (by rw [Hw.at ((s.wk.mv re1 m1).out np)]; exact upd_same) (RpAll.sm (Same.hw (same_upd np)) rp1)) rfl⟩
theorem evx_tup {ta : TA} {ds : List PyData} (a : EvL c r W G σ ta ds) (hn : ds.length ≤ 1000 := by decide) : Ev c r W G σ (tTup ta) (· = .tuple ds) := fun n H Q l s q =>
  a n H _ l s fun vs H1 re1 m1 rp1 => ⟨small_le (by rw [rp1.length]; exact hn), fun p np => q (.ref p) (.tuple ds) _ (re1.same (same_upd np)) (m1.trans (Mv.of (same_upd np)))
    (.tup (by rw [Hw.at ((s.wk.mv re1 m1).out np)]; exact upd_same) (RpAll.sm (Same.hw (same_upd np)) rp1)) rfl⟩
theorem evx_cat {ta tb : TE} {ds es : List PyData} (a : Ev c1 r W G σ ta (· = .list ds)) (b : Ev c2 r W G σ tb (· = .list es)) (hn : ds.length ≤ 1000) (hm : es.length ≤ 1000) : Ev (c1 + c2) r W G σ (tOp rCat ta tb) (· = .list (ds ++ es)) :=
  ev_catG a b fun _ _ e1 e2 => ⟨ds, es, e1, e2, hn, hm, rfl⟩
theorem xi (i : Int) : Ev 0 r W G σ (tC (.int i)) (· = .int i) := (ev_int (i := i)).ev fun j e => by rw [e]
theorem xn : Ev 0 r W G σ (tC .non) (· = .none) := ev_non rfl
theorem xb (b : Bool) : Ev 0 r W G σ (tC (.bl b)) (· = .bool b) := ev_bl rfl
theorem xs (x : Str) : Ev 0 r W G σ (tC (.str x)) (· = .str x) := ev_str rfl
/-- the first ones, the others -/
theorem evx_to {K : PySem.W.Frag} {te ti : TE} {ds : List PyData} {k : Nat} (a : Ev c1 r W G σ te (· = .list ds)) (b : EvI c2 r W G σ ti (· = (k : Int))) : Ev (c1 + 0 + c2) r W G σ (tSl (rSlL K) te tNoPart (tPart ti)) (· = .list (ds.take k)) :=
  ev_slG (K := K) (PL := fun l => l = none) (PH := fun l => ∃ i, l = some i ∧ i = (k : Int)) a part_none (part_some b) fun d l u e1 e2 ⟨i, e3, e4⟩ => ⟨ds, e1, by
    subst e2 e3 e4
    have e0 : HT.sIx ds.length 0 none = 0 := rfl
    have e1 : HT.sIx ds.length ds.length (some (k : Int)) = min k ds.length := by
      show (if (k : Int) < 0 then ((k : Int) + (ds.length : Int)).toNat else min ((k : Int)).toNat ds.length) = _
      rw [if_neg (by omega), Int.toNat_natCast]
    rw [e0, e1, List.drop_zero, Nat.sub_zero, ← List.take_eq_take_min]⟩
theorem evx_from {K : PySem.W.Frag} {te ti : TE} {ds : List PyData} {k : Nat} (a : Ev c1 r W G σ te (· = .list ds)) (b : EvI c2 r W G σ ti (· = (k : Int))) (hk : k ≤ ds.length) : Ev (c1 + c2 + 0) r W G σ (tSl (rSlL K) te (tPart ti) tNoPart) (· = .list (ds.drop k)) :=
  ev_slG (K := K) (PL := fun l => ∃ i, l = some i ∧ i = (k : Int)) (PH := fun l => l = none) a (part_some b) part_none fun d l u e1 ⟨i, e3, e4⟩ e2 => ⟨ds, e1, by
    subst e2 e3 e4
    have e0 : HT.sIx ds.length ds.length none = ds.length := rfl
    have e1 : HT.sIx ds.length 0 (some (k : Int)) = k := by
      show (if (k : Int) < 0 then ((k : Int) + (ds.length : Int)).toNat else min ((k : Int)).toNat ds.length) = _
      rw [if_neg (by omega), Int.toNat_natCast]
      omega
    rw [e0, e1, List.take_of_length_le (by rw [List.length_drop]; exact Nat.le_refl _)]⟩
theorem evl_cons0 {te : TE} {ta : TA} {d : PyData} {ds : List PyData} (e : Ev 0 r W G σ te (· = d)) (a : EvL 0 r W G σ ta ds) : EvL 0 r W G σ (tCons te ta) (d :: ds) := evl_cons e a
theorem evx_cat0 {ta tb : TE} {ds es : List PyData} (a : Ev 0 r W G σ ta (· = .list ds)) (b : Ev 0 r W G σ tb (· = .list es)) (hn : ds.length ≤ 1000) (hm : es.length ≤ 1000) : Ev 0 r W G σ (tOp rCat ta tb) (· = .list (ds ++ es)) := evx_cat a b hn hm
theorem evi_add0 {ta tb : TE} {x y : Int} (a : EvI 0 r W G σ ta (· = x)) (b : EvI 0 r W G σ tb (· = y)) : EvI 0 r W G σ (tOp (rI0 fun i j => .int (i + j)) ta tb) (· = x + y) := evi_add a b
theorem evi_sub0 {ta tb : TE} {x y : Int} (a : EvI 0 r W G σ ta (· = x)) (b : EvI 0 r W G σ tb (· = y)) : EvI 0 r W G σ (tOp (rI0 fun i j => .int (i - j)) ta tb) (· = x - y) := evi_sub a b
theorem evx_rep {ta : TE} {ds : List PyData} {k : Nat} (a : Ev c r W G σ ta (· = .list ds)) (hn : ds.length ≤ 100) (hk : k ≤ 10) : Ev c r W G σ (tOp rRep ta (tC (.int (k : Int)))) (· = .list (List.replicate k ds).flatten) := fun n H Q l s q =>
  a n H _ l s fun v d H1 b1 m1 rp e => by
    subst e
    obtain ⟨p, xs, rfl, hp, hx⟩ := rp_list rp
    have lx := hx.length
    have h1 : xs.length * k ≤ 1000 := Nat.le_trans (Nat.mul_le_mul (lx ▸ hn) hk) (by decide)
    refine ⟨p, k, xs, rfl, rfl, Hw.sub _ _ _ _ hp, by omega, by omega, small_le (by rw [Int.toNat_natCast]; exact h1), fun t nt => q (.ref t) _ _ (b1.same (same_upd nt)) (m1.trans (Mv.of (same_upd nt))) (.lst (by rw [Hw.at ((s.wk.mv b1 m1).out nt)]; exact upd_same) (RpAll.sm (Same.hw (same_upd nt)) ?_)) rfl⟩
    rw [Int.toNat_natCast]
    clear h1 hk nt q lx
    induction k with
    | zero => exact .nil
    | succ k ih =>
      rw [List.replicate_succ, List.replicate_succ, List.flatten_cons, List.flatten_cons]
      exact hx.append ih
theorem evi_mul {ta tb : TE} {x y : Int} (a : EvI c1 r W G σ ta (· = x)) (b : EvI c2 r W G σ tb (· = y)) (h : CMul x y) : EvI (c1 + c2) r W G σ (tOp (rI CMul fun i j => .int (i * j)) ta tb) (· = x * y) := fun n H Q l s q =>
  a n H _ (by omega) s fun i H1 re1 m1 e1 => b (n + c1) H1 _ (by omega) (s.mv re1 m1) fun j H2 re2 m2 e2 => ⟨i, j, rfl, rfl, by rw [e1, e2]; exact h, q _ H2 re2.to (m1.trans m2) (by rw [e1, e2])⟩
theorem evi_mul0 {ta tb : TE} {x y : Int} (a : EvI 0 r W G σ ta (· = x)) (b : EvI 0 r W G σ tb (· = y)) (h : CMul x y) : EvI 0 r W G σ (tOp (rI CMul fun i j => .int (i * j)) ta tb) (· = x * y) := evi_mul a b h
/-- a comprehension over a list that is known, nothing drawn within -/
theorem ev_lcL {K : PySem.W.Frag} {i : Nat} {tl te : TE} {ds : List PyData} {f : PyData → PyData} (hn : ds.length ≤ 999) (e : Ev c r W G σ tl (· = .list ds))
    (he : ∀ (W' : Addr → Prop) (G' : Gam) (v : V) (d : PyData), d ∈ ds → (∀ p ∈ G, p ∈ G') → Ev 0 r W' ((v, d) :: G') ((σ.set i none).set i (some v)) te (· = f d)) : Ev c r W G σ (tLc (iList K tl) (gName i) tYes te [i]) (· = .list (ds.map f)) := fun n H Q l s q =>
  e n H _ l s fun v d H1 b1 m1 rp e1 => by
    subst e1
    obtain ⟨a, xs, rfl, ha, hx⟩ := rp_list rp
    have ha1 := Hw.sub _ _ _ _ ha
    have aW : ¬ W a := Hw.ne ha
    have s1 := s.mv b1 m1
    refine ⟨a, rfl, ⟨xs, SqL.of ha1⟩, fun D nD => ?_⟩
    have off := b1.new nD
    have nW := s1.wk.out nD
    have aD : a ≠ D := fun z => by rw [← z, ha1] at nD; cases nD
    have ar : a ≠ r.a := fun z => aW (by rw [z]; exact s.wk.bag)
    have lx := hx.length
    refine lc_list (K := K) (a := a) (xs := xs) (fun k H3 => ∃ vs, BagAt (n + c) H3 r ∧ Mv r H1 H3 ∧ H3 D = some (.lst vs) ∧ RpAll (Hw (fun b => W b ∨ b = D) H3) vs ((ds.take k).map f))
      ⟨[], b1.same (same_upd nD), Mv.of (same_upd nD), upd_same, .nil⟩ (fun k H3 _ ⟨vs, b3, m3, _⟩ => SqL.of (m3.keep a _ ar ha1)) (fun k x H3 hxk ⟨vs, b3, m3, eD, hv⟩ => ?_) (fun H3 ⟨vs, b3, m3, eD, hv⟩ => ?_)
    · have hk : k < xs.length := (List.getElem?_eq_some_iff.mp hxk).1
      have lv := hv.length
      rw [List.length_map, List.length_take] at lv
      have S3 : Se (n + c) r (fun b => W b ∨ b = D) ((.ref a, .list ds) :: G) H3 := by
        refine ⟨b3, ⟨.inl s.wk.bag, fun b hb => hb.elim (fun z => (s1.wk.mv b3 m3).trk b z) fun z => by rw [z, eD]; exact nofun⟩, fun p hp => Rp.sm (H := Hw W H1) (fun b o e => ?_) ((s1.ok.cons rp) p hp)⟩
        have nb := Hw.ne e
        have e' := Hw.sub W H1 b o e
        rw [Hw.at (W := fun b => W b ∨ b = D) (fun z => z.elim nb fun z => by rw [z, nD] at e'; cases e')]
        exact m3.keep b o (fun z => nb (by rw [z]; exact s.wk.bag)) e'
      obtain ⟨a', ys, ea, ha3, hx3⟩ := rp_list (S3.ok (.ref a, .list ds) List.mem_cons_self)
      cases ea
      have e3 := Hw.sub _ _ _ _ ha3
      rw [m3.keep a _ ar ha1] at e3
      cases e3
      obtain ⟨dx, hdx, hRx⟩ := hx3.get hxk
      refine ⟨?_, yesT (he (fun b => W b ∨ b = D) ((.ref a, .list ds) :: G) x dx (List.mem_of_getElem? hdx) (fun p hp => List.mem_cons_of_mem _ hp) (n + c) H3 _ (by omega) ⟨S3.re, S3.wk, S3.ok.cons hRx⟩ fun v d H4 b4 m4 rp p => ?_)⟩
      · show ((σ.set i none).set i (some x)).set i none = σ.set i none
        rw [List.set_set, List.set_set]
      · subst p
        refine ⟨vs, m4.keep D _ off.a eD, small1000 (by omega), vs ++ [v], (b4.store off).mono (by omega), (m3.trans m4).upd nD, upd_same, ?_⟩
        rw [hw_upd (W := fun b => W b ∨ b = D) (.inr rfl), List.take_add_one, hdx, List.map_append]
        exact (RpAll.sm (m4.hw (W := fun b => W b ∨ b = D) (.inl s.wk.bag)) hv).snoc rp
    · rw [lx, List.take_length] at hv
      exact q (.ref D) (.list (ds.map f)) H3 b3 (m1.trans m3) (.lst (by rw [Hw.at nW]; exact eD) (RpAll.sm (Hw.less fun b hb => .inl hb) hv)) rfl
end
end CL
set_option Elab.async false
set_option linter.all false
set_option maxRecDepth 100000
set_option maxHeartbeats 4000000
set_option exponentiation.threshold 200000
namespace CL
open PySem PySem.Spec PyProof.Rows L2 GE TL
abbrev sIsN : Stmt := topS 21
abbrev sBy : Stmt := topS 22
abbrev sIsO : Stmt := topS 23
abbrev sNor : Stmt := topS 24
abbrev nIsN : List Str := ["word"]
abbrev nIsO : List Str := ["word", "none"]
abbrev nNor : List Str := ["word", "none"]
abbrev nBy : List Str := ["figures", "head", "number", "at"]
theorem scIsN : FnScope nIsN ["word"] (defScope sIsN) := ⟨rfl, rfl, rfl, by decide +kernel, rfl, by decide +kernel, by decide +kernel⟩
theorem scIsO : FnScope nIsO ["word", "none"] (defScope sIsO) := ⟨rfl, rfl, rfl, by decide +kernel, rfl, by decide +kernel, by decide +kernel⟩
theorem scNor : FnScope nNor ["word", "none"] (defScope sNor) := ⟨rfl, rfl, rfl, by decide +kernel, rfl, by decide +kernel, by decide +kernel⟩
theorem scBy : FnScope nBy ["figures"] (defScope sBy) := ⟨rfl, rfl, rfl, by decide +kernel, rfl, by decide +kernel, by decide +kernel⟩
/-! ### numbers as texts -/
def dig (c : Nat) : Bool := decide (48 ≤ c) && decide (c ≤ 57)
/-- figures without noughts ahead -/
def numSigns (l : List Nat) : Bool := l.all dig && !l.isEmpty && (decide (l = [48]) || !decide (l.head? = some 48))
def isNumS (w : Str) : Bool := numSigns (tl w)
theorem isDigit_ascii : ∀ c, c < 128 → Unicode.isDigit c = dig c := by decide +kernel
theorem str_size {n : Nat} (h : n ≤ 40000) : n ≤ sizeLine := Nat.le_trans h (by rw [sizeLine_eq]; decide)
theorem zero_tl : tl (Str.ofString "0") = [48] := by decide +kernel
theorem str_zero {w : Str} : w = Str.ofString "0" ↔ tl w = [48] := ⟨fun e => by rw [e, zero_tl], fun e => ext_tl (by rw [e, zero_tl])⟩
theorem ascii_of {w : Str} : Txt.isascii w = (tl w).all (fun c => decide (c < 128)) := by
  show w.cps.all _ = w.cps.toList.all _
  rw [Array.all_toList]
theorem isdigit_of {w : Str} : Txt.isdigit w = (!(tl w).isEmpty && (tl w).all Unicode.isDigit) := by
  show (decide (w.length > 0) && w.cps.all _) = (!w.cps.toList.isEmpty && w.cps.toList.all _)
  rw [Array.all_toList]
  congr 1
  have : w.length = w.cps.toList.length := len_tl w
  rw [this]
  cases w.cps.toList with
  | nil => rfl
  | cons a l => simp
theorem ascii_dig {w : Str} : (Txt.isascii w && Txt.isdigit w) = ((tl w).all dig && !(tl w).isEmpty) := by
  rw [ascii_of, isdigit_of]
  generalize tl w = l
  rw [Bool.eq_iff_iff]
  simp only [Bool.and_eq_true, List.all_eq_true, decide_eq_true_eq]
  constructor
  · rintro ⟨h1, h2, h3⟩
    exact ⟨fun c hc => by rw [← isDigit_ascii c (h1 c hc)]; exact h3 c hc, h2⟩
  · rintro ⟨h1, h2⟩
    have hlt : ∀ c ∈ l, c < 128 := fun c hc => by
      have := h1 c hc
      simp only [dig, Bool.and_eq_true, decide_eq_true_eq] at this
      omega
    exact ⟨hlt, h2, fun c hc => by rw [isDigit_ascii c (hlt c hc)]; exact h1 c hc⟩
theorem isNum_parts {w : Str} (h : isNumS w = true) : NumText.AllDigits (tl w) ∧ tl w ≠ [] := by
  simp only [isNumS, numSigns, Bool.and_eq_true, List.all_eq_true] at h
  refine ⟨fun c hc => ?_, fun z => ?_⟩
  · have := h.1.1 c hc
    simpa [dig] using this
  · have := h.1.2
    rw [z] at this
    cases this
def numV (no w : Str) : V := if w = no then .non else .int ((NumText.digitsVal (tl w) : Nat) : Int)
def spIsN : Sp := fun vs H Q _ => ∃ w : Str, vs = [.str w] ∧ w.length ≤ 40000 ∧ ∀ H', Same H H' → Q (.bl (isNumS w)) H'
def spIsO : Sp := fun vs H Q _ => ∃ w no : Str, vs = [.str w, .str no] ∧ w.length ≤ 40000 ∧ ∀ H', Same H H' → Q (.bl (decide (w = no) || isNumS w)) H'
def spBy : Sp := fun vs H Q _ => ∃ w : Str, vs = [.str w] ∧ w.length ≤ 40000 ∧ isNumS w = true ∧ ∀ H', Same H H' → Q (.int ((NumText.digitsVal (tl w) : Nat) : Int)) H'
def spNor : Sp := fun vs H Q _ => ∃ w no : Str, vs = [.str w, .str no] ∧ w.length ≤ 40000 ∧ (decide (w = no) || isNumS w) = true ∧ ∀ H', Same H H' → Q (numV no w) H'
theorem digits_app (a b : List Nat) : NumText.digitsVal (a ++ b) = NumText.digitsVal a * 10 ^ b.length + NumText.digitsVal b := by
  have gen : ∀ (b : List Nat) (x : Nat), b.foldl (fun acc c => acc * 10 + (c - 48)) x = x * 10 ^ b.length + b.foldl (fun acc c => acc * 10 + (c - 48)) 0 := by
    intro b
    induction b with
    | nil => intro x; simp
    | cons c b ih =>
      intro x
      rw [List.foldl_cons, List.foldl_cons, ih, ih (0 * 10 + (c - 48)), List.length_cons, Nat.pow_succ]
      rw [Nat.add_mul, Nat.zero_mul, Nat.zero_add, Nat.mul_assoc, Nat.mul_comm 10 (10 ^ b.length), Nat.add_assoc]
  unfold NumText.digitsVal
  rw [List.foldl_append]
  exact gen b _
theorem digits_lt : ∀ (l : List Nat), NumText.AllDigits l → NumText.digitsVal l < 10 ^ l.length := by
  have gen : ∀ (k : Nat) (l : List Nat), l.length = k → NumText.AllDigits l → NumText.digitsVal l < 10 ^ l.length := by
    intro k
    induction k with
    | zero => intro l hk _; rw [List.eq_nil_of_length_eq_zero hk]; decide
    | succ k ih =>
    intro l0 hk h
    obtain ⟨l, c, rfl⟩ : ∃ l c, l0 = l ++ [c] := ⟨l0.dropLast, l0.getLast (by intro z; rw [z] at hk; cases hk), (List.dropLast_concat_getLast _).symm⟩
    have h1 := ih l (by rw [List.length_append, List.length_singleton] at hk; omega) fun d hd => h d (List.mem_append_left _ hd)
    have h2 := h c (List.mem_append_right _ (List.mem_singleton.mpr rfl))
    have hp : 10 ^ (l ++ [c]).length = 10 ^ l.length * 10 := by rw [List.length_append]; show 10 ^ (l.length + 1) = _; exact Nat.pow_succ ..
    have e1 : NumText.digitsVal [c] = 0 * 10 + (c - 48) := rfl
    have e3 : 10 ^ [c].length = 10 := rfl
    rw [digits_app, hp, e1, e3]
    omega
  exact fun l h => gen _ l rfl h
theorem rgC50 {h n : Nat} (hl : h + 50 * n ≤ 60000) : RgC (h : Int) ((h + 50 * n : Nat) : Int) 50 n := by
  have e : Builtin.Range.rangeSize (h : Int) ((h + 50 * n : Nat) : Int) 50 = n := by
    unfold Builtin.Range.rangeSize
    rw [if_pos (by decide)]
    split
    · omega
    · omega
  refine ⟨by decide, by decide, ?_, e⟩
  have fits : ∀ i : Int, -100000 ≤ i → i ≤ 100000 → Builtin.Range.rangeFitsLong i = true := fun i h1 h2 => by
    unfold Builtin.Range.rangeFitsLong
    rw [Bool.and_eq_true, decide_eq_true_eq, decide_eq_true_eq]
    have p63 : (2 : Int) ^ 63 = 9223372036854775808 := by decide +kernel
    rw [p63]
    omega
  unfold Builtin.Range.small
  rw [e, fits _ (by omega) (by omega), fits _ (by omega) (by omega), fits 50 (by decide) (by decide), fits _ (by omega) (by omega)]
  rw [if_pos (by decide), fits _ (by omega) (by omega)]
  simp
section
variable {P : Program} {w : World} {K : PySem.W.Frag} {mg : Str → Option Value} {base : Heap}
theorem ok_isN {f : Addr} {fd : FuncData} (F : Fun K "is_number" "is_number" sIsN f fd) : FnOk P w K mg base CX0 1 f fd ["word"] spIsN := by
  refine F.ok scIsN (fun vs H Q E ⟨w, e, _⟩ => by rw [e]; rfl) (fun cdv A outer s H vs Q E hr h => ?_)
  obtain ⟨x, rfl, hl, q⟩ := h
  have nd := scIsN.nd
  refine ⟨_, (pss_one (ps_ret (pe_and (pe_m0 PySem.F.slot_str_isascii PySem.F.type_str_isascii mt_isascii (pv 0)) (pe_and (pe_m0 PySem.F.slot_str_isdigit PySem.F.type_str_isdigit mt_isdigit (pv 0)) (pe_one (pe_or (pe_cmpR op_eq (pv 0) pe_str (nomark _)) (pe_one (pe_cmpR op_ne (pe_ix ix_str (pv 0) pe_int (fun _ _ => rfl)) pe_str (nomark _))))))))), ?_⟩
  have q := q H (Same.refl H)
  have key := ascii_dig (w := x)
  refine ⟨.str x, rfl, ⟨x, rfl⟩, x, rfl, rfl, trivial, Txt.isascii x, rfl, ite2 (fun e => ?_) (fun e => ?_)⟩
  · refine ⟨.str x, rfl, ⟨x, rfl⟩, x, rfl, rfl, trivial, Txt.isdigit x, rfl, ite2 (fun e2 => ?_) (fun e2 => ?_)⟩
    · rw [e, e2] at key
      have hv : isNumS x = (decide (tl x = [48]) || !decide ((tl x).head? = some 48)) := by
        show ((tl x).all dig && !(tl x).isEmpty && _) = _
        rw [← key]
        rfl
      refine ⟨.str x, rfl, rfl, decide (V.str x = V.str (Str.ofString "0")), rfl, ite2 (fun e3 => ?_) (fun e3 => ?_)⟩
      · have : tl x = [48] := str_zero.mp (V.str.inj (of_decide_eq_true e3))
        rw [hv, decide_eq_true this] at q
        exact q
      · have hn : tl x ≠ [48] := fun z => e3 (decide_eq_true (congrArg V.str (str_zero.mpr z)))
        have hne : tl x ≠ [] := fun z => by rw [z] at key; cases key
        obtain ⟨c, l, hc⟩ : ∃ c l, tl x = c :: l := by cases h : tl x with
          | nil => exact absurd h hne
          | cons c l => exact ⟨c, l, rfl⟩
        have ec : (V.str (⟨#[c]⟩ : Str) = V.str (Str.ofString "0")) ↔ c = 48 := by
          constructor
          · intro z
            have z := str_zero.mp (V.str.inj z)
            have z : [c] = [48] := z
            exact List.cons.inj z |>.1
          · intro z
            rw [z]
            exact congrArg V.str (str_zero.mpr rfl)
        refine ⟨.str x, rfl, x, 0, c, rfl, rfl, str_size hl, (by show atI (tl x) 0 = some c; rw [hc]; exact atI_nat (j := 0) rfl), rfl, ?_⟩
        have ev : isNumS x = (!decide (V.str (⟨#[c]⟩ : Str) = V.str (Str.ofString "0"))) := by
          rw [hv, decide_eq_false hn, hc, Bool.false_or]
          congr 1
          exact decide_eq_decide.mpr ⟨fun z => ec.mpr (Option.some.inj z), fun z => by rw [ec.mp z]; rfl⟩
        rw [ev] at q
        exact q
    · have e2 := Bool.eq_false_iff.mpr e2
      rw [e, e2] at key
      have hv : isNumS x = false := by
        show ((tl x).all dig && !(tl x).isEmpty && _) = _
        rw [← key]
        rfl
      rw [hv] at q
      exact q
  · have e := Bool.eq_false_iff.mpr e
    rw [e] at key
    have hv : isNumS x = false := by
      show ((tl x).all dig && !(tl x).isEmpty && _) = _
      rw [← key]
      rfl
    rw [hv] at q
    exact q
theorem ok_isO {f : Addr} {fd : FuncData} (F : Fun K "is_number_or" "is_number_or" sIsO f fd) (CN : Cal P w K mg base 1 "is_number" ["word"] spIsN) : FnOk P w K mg base CX0 2 f fd ["word", "none"] spIsO := by
  refine F.ok scIsO (fun vs H Q E ⟨w, no, e, _⟩ => by rw [e]; rfl) (fun cdv A outer s H vs Q E hr h => ?_)
  obtain ⟨x, no, rfl, hl, q⟩ := h
  have nd := scIsO.nd
  refine ⟨_, (pss_one (ps_ret (pe_or (pe_cmpR op_eq (pv 0) (pv 1) (nomark _)) (pe_one (pe_cal (CN.mono (by decide)) hr (by rfl) (pa_cons (pv 0) pa_nil)))))), ?_⟩
  have ed : decide (V.str x = V.str no) = decide (x = no) := decide_eq_decide.mpr ⟨V.str.inj, congrArg V.str⟩
  refine ⟨.str x, rfl, .str no, rfl, rfl, decide (V.str x = V.str no), rfl, ite2 (fun e => ?_) (fun e => ?_)⟩
  · rw [ed] at e
    have q := q H (Same.refl H)
    rw [e] at q
    exact q
  · rw [ed] at e
    refine ⟨.str x, rfl, x, rfl, hl, fun H' s' => ?_⟩
    have q := q H' s'
    rw [Bool.eq_false_iff.mpr e] at q
    exact q
theorem ok_nor {f : Addr} {fd : FuncData} (F : Fun K "number_or" "number_or" sNor f fd) (CB : Cal P w K mg base 1 "number_by" ["figures"] spBy) : FnOk P w K mg base CX0 2 f fd ["word", "none"] spNor := by
  refine F.ok scNor (fun vs H Q E ⟨w, no, e, _⟩ => by rw [e]; rfl) (fun cdv A outer s H vs Q E hr h => ?_)
  obtain ⟨x, no, rfl, hl, hg, q⟩ := h
  have nd := scNor.nd
  refine ⟨_, (pss_one (ps_ret (pe_ifExp (pt_cmpR op_eq (pv 0) (pv 1) (nomark _)) pe_non (pe_cal (CB.mono (by decide)) hr (by rfl) (pa_cons (pv 0) pa_nil))))), ?_⟩
  have ed : decide (V.str x = V.str no) = decide (x = no) := decide_eq_decide.mpr ⟨V.str.inj, congrArg V.str⟩
  refine ⟨.str x, rfl, .str no, rfl, rfl, decide (V.str x = V.str no), rfl, ite2 (fun e => ?_) (fun e => ?_)⟩
  · rw [ed] at e
    have q := q H (Same.refl H)
    unfold numV at q
    rw [if_pos (of_decide_eq_true e)] at q
    exact q
  · rw [ed] at e
    rw [Bool.eq_false_iff.mpr e] at hg
    refine ⟨.str x, rfl, x, rfl, hl, hg, fun H' s' => ?_⟩
    have q := q H' s'
    unfold numV at q
    rw [if_neg (fun z => e (decide_eq_true z))] at q
    exact q
theorem ok_by {f : Addr} {fd : FuncData} (F : Fun K "number_by" "number_by" sBy f fd) (T : Nm mg) (N4 : Nm4 mg) (N5 : Nm5 mg) : FnOk P w K mg base CX0 1 f fd ["figures"] spBy := by
  refine F.ok scBy (fun vs H Q E ⟨w, e, _⟩ => by rw [e]; rfl) (fun cdv A outer s H vs Q E hr h => ?_)
  obtain ⟨x, rfl, hl, hg, q⟩ := h
  obtain ⟨tpl, hpl⟩ := N4.partL
  obtain ⟨tpw, hpw⟩ := N4.partW
  have nd := scBy.nd
  refine ⟨_, (pss_cons (ps_set (i := 1) nd rfl (.inl rfl) (pe_op op_mod (pe_callB call_len_str (by rfl) T.len PySem.boot_len (pa_cons (pv 0) pa_nil)) (pe_glob (v := .int 50) (by rfl) hpl ⟨_, rfl⟩)))
      (pss_cons (ps_set (i := 2) nd rfl (.inl rfl) (pe_callTy call_int_str (by rfl) T.int (by decide +kernel) (pa_cons (pe_op op_add_str pe_str (pe_slice sl_str (pv 0) po_none (po_some (pv 1)))) pa_nil)))
      (pss_cons (ps_for PassesOwn.never rfl (pi_range3 (by rfl) N5.range (pa_cons (pv 1) (pa_cons (pe_callB call_len_str (by rfl) T.len PySem.boot_len (pa_cons (pv 0) pa_nil)) (pa_cons (pe_glob (v := .int 50) (by rfl) hpl ⟨_, rfl⟩) pa_nil)))) (pg_name (i := 3) nd rfl (.inl rfl)) (pss_one (ps_set (i := 2) nd rfl (.inl rfl) (pe_op op_add (pe_op op_mulW (pv 2) (pe_glob (v := .int FIFTY) (by rfl) hpw ⟨_, rfl⟩)) (pe_callTy call_int_str (by rfl) T.int (by decide +kernel) (pa_cons (pe_slice sl_str (pv 0) (po_some (pv 3)) (po_some (pe_op op_add (pv 3) (pe_glob (v := .int 50) (by rfl) hpl ⟨_, rfl⟩)))) pa_nil))))))
      (pss_one (ps_ret (pv 2)))))), ?_⟩
  obtain ⟨hd, hne⟩ := isNum_parts hg
  have hlen : x.length = (tl x).length := len_tl x
  -- the head, and so many parts
  obtain ⟨hh, n, e1, h50⟩ : ∃ hh n, x.length = hh + 50 * n ∧ hh < 50 := ⟨x.length % 50, x.length / 50, by omega, Nat.mod_lt _ (by decide)⟩
  have em : ((x.length : Int)) % 50 = (hh : Int) := by omega
  have cut_tl : ∀ (lo hi : Nat), lo ≤ hi → hi ≤ x.length → tl (cutS x (some (lo : Int)) (some (hi : Int))) = ((tl x).drop lo).take (hi - lo) := fun lo hi h1 h2 => by
    show ((x.cps.toList.drop (HT.sIx x.length 0 (some (lo : Int)))).take (HT.sIx x.length x.length (some (hi : Int)) - HT.sIx x.length 0 (some (lo : Int)))).toArray.toList = _
    rw [HT.sIx_nat, HT.sIx_nat, Nat.min_eq_left (Nat.le_trans h1 h2), Nat.min_eq_left h2]
  have cut0_tl : ∀ (hi : Nat), hi ≤ x.length → tl (cutS x none (some (hi : Int))) = (tl x).take hi := fun hi h2 => by
    show ((x.cps.toList.drop (HT.sIx x.length 0 none)).take (HT.sIx x.length x.length (some (hi : Int)) - HT.sIx x.length 0 none)).toArray.toList = _
    rw [HT.sIx_nat, Nat.min_eq_left h2]
    rfl
  refine ⟨.str x, rfl, x, rfl, str_size hl, (x.length : Int), 50, rfl, rfl, (by show (0 : Int) < 50; decide), ?_⟩
  show tSeq _ _ _ [some (.str x), some (.int (((x.length : Int)) % 50)), none, none] H
  rw [em]
  have hdt : NumText.AllDigits ((tl x).take hh) := fun c hc => hd c (List.mem_of_mem_take hc)
  have ltk : ((tl x).take hh).length = hh := by rw [List.length_take]; omega
  have t0 : tl (Str.ofString "0" ++ cutS x none (some (hh : Int))) = 48 :: (tl x).take hh := by rw [tl_append, zero_tl, cut0_tl hh (by omega)]; rfl
  have v0 : NumText.digitsVal (48 :: (tl x).take hh) = NumText.digitsVal ((tl x).take hh) := rfl
  have i0 : intText? (Str.ofString "0" ++ cutS x none (some (hh : Int))) = some ((NumText.digitsVal ((tl x).take hh) : Nat) : Int) := by
    have := intText_digits (x := Str.ofString "0" ++ cutS x none (some (hh : Int))) (by show NumText.AllDigits (tl _); rw [t0]; intro c hc; rcases List.mem_cons.mp hc with rfl | hc; exact ⟨by decide, by decide⟩; exact hdt c hc) (by show tl _ ≠ []; rw [t0]; exact nofun) (by rw [len_tl, t0, List.length_cons, ltk]; omega)
    rw [this]
    show some ((NumText.digitsVal (tl _) : Nat) : Int) = _
    rw [t0, v0]
  have l1 : (cutS x none (some (hh : Int))).length = hh := by rw [len_tl, cut0_tl hh (by omega), ltk]
  refine ⟨.str x, rfl, .int (hh : Int), rfl, (hh : Int), rfl, x, rfl, str_size hl, Str.ofString "0", cutS x none (some (hh : Int)), rfl, rfl, str_size (by rw [l1]; show 1 + hh ≤ 40000; omega), _, _, rfl, i0, (by rw [len_tl, t0, List.length_cons, ltk]; omega), ?_⟩
  dsimp only [gName]
  show tSeq _ _ _ [some (.str x), some (.int (hh : Int)), some (.int ((NumText.digitsVal ((tl x).take hh) : Nat) : Int)), none] H
  refine ⟨.int (hh : Int), rfl, .str x, rfl, x, rfl, str_size hl, (hh : Int), (x.length : Int), 50, n, rfl, by rw [e1]; exact rgC50 (by omega), ?_⟩
  refine for_rangeC (lo := (hh : Int)) (c := 50) (n := n) (fun i σ H' => H' = H ∧ ∃ y3, σ = [some (.str x), some (.int (hh : Int)), some (.int ((NumText.digitsVal ((tl x).take (hh + 50 * i)) : Nat) : Int)), y3]) ⟨rfl, none, rfl⟩ (fun i σ H' hi ⟨eH, y3, eσ⟩ => ?_) (fun σ H' ⟨eH, y3, eσ⟩ => ?_)
  · subst eH eσ
    have hi1 : hh + 50 * i + 50 ≤ x.length := by omega
    have hb : (((hh + 50 * i : Nat) : Int) + 50) = ((hh + 50 * i + 50 : Nat) : Int) := by omega
    have ha : ((hh : Int) + (i : Nat) * 50) = ((hh + 50 * i : Nat) : Int) := by omega
    dsimp only [gName]
    show tAsg _ _ _ [some (.str x), some (.int (hh : Int)), some (.int ((NumText.digitsVal ((tl x).take (hh + 50 * i)) : Nat) : Int)), some (.int ((hh : Int) + (i : Nat) * 50))] H'
    rw [ha]
    have hdi : NumText.AllDigits ((tl x).take (hh + 50 * i)) := fun c hc => hd c (List.mem_of_mem_take hc)
    have tc := cut_tl (hh + 50 * i) (hh + 50 * i + 50) (by omega) hi1
    rw [show hh + 50 * i + 50 - (hh + 50 * i) = 50 by omega] at tc
    have hdc : NumText.AllDigits (((tl x).drop (hh + 50 * i)).take 50) := fun c hc => hd c (List.mem_of_mem_drop (List.mem_of_mem_take hc))
    have lc : (((tl x).drop (hh + 50 * i)).take 50).length = 50 := by rw [List.length_take, List.length_drop]; omega
    have ic : intText? (cutS x (some ((hh + 50 * i : Nat) : Int)) (some ((hh + 50 * i + 50 : Nat) : Int))) = some ((NumText.digitsVal (((tl x).drop (hh + 50 * i)).take 50) : Nat) : Int) := by
      have := intText_digits (x := cutS x (some ((hh + 50 * i : Nat) : Int)) (some ((hh + 50 * i + 50 : Nat) : Int))) (by show NumText.AllDigits (tl _); rw [tc]; exact hdc) (by show tl _ ≠ []; rw [tc]; intro z; rw [z] at lc; cases lc) (by rw [len_tl, tc, lc]; decide)
      rw [this]
      show some ((NumText.digitsVal (tl _) : Nat) : Int) = _
      rw [tc]
    have lt : NumText.digitsVal ((tl x).take (hh + 50 * i)) < 10 ^ 40000 := by
      refine Nat.lt_of_lt_of_le (digits_lt _ hdi) (Nat.pow_le_pow_right (by decide) ?_)
      rw [List.length_take]
      omega
    have lt2 : NumText.digitsVal ((tl x).take (hh + 50 * i)) < 2 ^ 160000 := Nat.lt_of_lt_of_le lt (by
      have : (10 : Nat) ^ 40000 ≤ (2 ^ 4) ^ 40000 := Nat.pow_le_pow_left (by decide) _
      rw [← Nat.pow_mul] at this
      exact this)
    refine ⟨_, rfl, _, FIFTY, rfl, rfl, wide_mul (a := 160000) (b := 200) (by rw [Int.natAbs_natCast]; exact lt2) (by decide +kernel) (by decide) (by decide) (by decide), .str x, rfl, .int ((hh + 50 * i : Nat) : Int), rfl, _, rfl, .int ((hh + 50 * i : Nat) : Int), rfl, _, 50, rfl, rfl, _, rfl, x, rfl, str_size hl, _, ((NumText.digitsVal (((tl x).drop (hh + 50 * i)).take 50) : Nat) : Int), rfl, (by rw [hb]; exact ic), (by rw [hb, len_tl, tc, lc]; decide), _, _, rfl, rfl, rfl, some (.int ((hh + 50 * i : Nat) : Int)), ?_⟩
    have ev : ((NumText.digitsVal ((tl x).take (hh + 50 * i)) : Nat) : Int) * FIFTY + ((NumText.digitsVal (((tl x).drop (hh + 50 * i)).take 50) : Nat) : Int) = ((NumText.digitsVal ((tl x).take (hh + 50 * (i + 1))) : Nat) : Int) := by
      have et : (tl x).take (hh + 50 * (i + 1)) = (tl x).take (hh + 50 * i) ++ ((tl x).drop (hh + 50 * i)).take 50 := by
        rw [show hh + 50 * (i + 1) = (hh + 50 * i) + 50 by omega]
        exact List.take_add ..
      have e50 : (((10 ^ 50 : Nat)) : Int) = FIFTY := by decide +kernel
      rw [et, digits_app, lc, Int.natCast_add, Int.natCast_mul, e50]
    show [some (V.str x), some (V.int (hh : Int)), some (V.int _), some (V.int _)] = _
    rw [← ev]
  · subst eH eσ
    rw [show hh + 50 * n = (tl x).length by omega, List.take_length]
    exact ⟨_, rfl, q _ (Same.refl _)⟩
end
end CL
set_option Elab.async false
set_option linter.all false
set_option pp.maxSteps 700
set_option maxRecDepth 100000
set_option maxHeartbeats 4000000
namespace CL
open PySem PySem.Spec PyProof.Rows L2 GE TL
abbrev sForm : Stmt := topS 39
abbrev sRead : Stmt := topS 40
abbrev nForm : List Str := ["words"]
abbrev nRead : List Str := ["text", "plan", "sign", "piece", "words", "turns", "word"]
theorem scForm : FnScope nForm ["words"] (defScope sForm) := ⟨rfl, rfl, rfl, by decide +kernel, rfl, by decide +kernel, by decide +kernel⟩
theorem scRead : FnScope nRead ["text"] (defScope sRead) := ⟨rfl, rfl, rfl, by decide +kernel, rfl, by decide +kernel, by decide +kernel⟩
structure Nm6 (mg : Str → Option Value) : Prop where
  enum : mg "enumerate" = none
theorem size20 {n : Nat} (h : n ≤ 40001) : n < sizeLine := Nat.lt_of_le_of_lt h (by rw [sizeLine_eq]; decide)
/-! ### what a text tells -/
def okW (no w : Str) : Bool := decide (w = no) || isNumS w
def formS (ws : List Str) : Bool := decide (3 ≤ ws.length) && decide (ws[ws.length - 2]? = some (Str.ofString "x")) && (ws[ws.length - 1]?.any (okW "ever")) && (ws.take (ws.length - 2)).all (okW "never")
def numD (no w : Str) : PyData := if w = no then .none else .int ((NumText.digitsVal (tl w) : Nat) : Int)
def valD : PyData → V
  | .int i => .int i
  | _ => .non
theorem num_val (no w : Str) : numV no w = valD (numD no w) := by
  unfold numV numD
  split <;> rfl
def rowS (ws : List Str) : RowT := ((ws.take (ws.length - 2)).map (numD "never"), numD "ever" (ws.getD (ws.length - 1) Str.empty))
def rowsS (t : Str) : List RowT := (Txt.split t ", ").map fun p => rowS (Txt.split p " ")
/-- how far a text goes that is read here -/
structure Fits (t : Str) : Prop where
  len : t.length ≤ 40000
  many : (Txt.split t ", ").length ≤ 40001
  piece : ∀ p ∈ Txt.split t ", ", p.length ≤ 40000 ∧ (Txt.split p " ").length ≤ 40001 ∧ ∀ w ∈ Txt.split p " ", w.length ≤ 40000
/-- a plan that was told: all its lists are new, each its own -/
structure Told (H0 H : Hp) (p : Addr) (bs ts : List Addr) (L : List RowT) : Prop where
  p0 : H0 p = none
  e : H p = some (.lst (bs.map V.ref))
  lb : bs.length = L.length
  lt : ts.length = L.length
  row : ∀ (i : Nat) (b t : Addr) (x : RowT), bs[i]? = some b → ts[i]? = some t → L[i]? = some x → H b = some (.tup [.ref t, valD x.2]) ∧ H t = some (.lst (x.1.map valD))
  b0 : ∀ b ∈ bs, H0 b = none
  t0 : ∀ t ∈ ts, H0 t = none
  nd : ts.Nodup
  tp : ∀ t ∈ ts, t ≠ p
theorem Told.ex {H0 H H' : Hp} {p : Addr} {bs ts : List Addr} {L : List RowT} (T : Told H0 H p bs ts L) (x : Ex H H') : Told H0 H' p bs ts L :=
  ⟨T.p0, x.lst T.e, T.lb, T.lt, fun i b t y h1 h2 h3 => ⟨x.tup (T.row i b t y h1 h2 h3).1, x.lst (T.row i b t y h1 h2 h3).2⟩, T.b0, T.t0, T.nd, T.tp⟩
theorem Told.push {H0 H : Hp} {p b t : Addr} {bs ts : List Addr} {L : List RowT} {x : RowT} (T : Told H0 H p bs ts L) (eb : H b = some (.tup [.ref t, valD x.2])) (et : H t = some (.lst (x.1.map valD))) (b0 : H0 b = none) (t0 : H0 t = none) (nt : t ∉ ts) (tp : t ≠ p) :
    Told H0 (upd H p (.lst (bs.map V.ref ++ [.ref b]))) p (bs ++ [b]) (ts ++ [t]) (L ++ [x]) := by
  have keepT : ∀ c o, c ≠ p → H c = some o → (upd H p (.lst (bs.map V.ref ++ [.ref b]))) c = some o := fun c o ne e => by rw [upd_ne ne]; exact e
  have bp : ∀ c ys, H c = some (.tup ys) → c ≠ p := fun c ys e z => by rw [z, T.e] at e; cases e
  refine ⟨T.p0, by rw [upd_same, List.map_append]; rfl, by rw [List.length_append, List.length_append, T.lb]; rfl, by rw [List.length_append, List.length_append, T.lt]; rfl, fun i c u y h1 h2 h3 => ?_, fun c hc => ?_, fun c hc => ?_, ?_, fun c hc => ?_⟩
  · by_cases hi : i < L.length
    · rw [List.getElem?_append_left (by rw [T.lb]; exact hi)] at h1
      rw [List.getElem?_append_left (by rw [T.lt]; exact hi)] at h2
      rw [List.getElem?_append_left hi] at h3
      obtain ⟨r1, r2⟩ := T.row i c u y h1 h2 h3
      refine ⟨keepT c _ (bp c _ r1) r1, ?_⟩
      exact keepT u _ (T.tp u (List.mem_of_getElem? h2)) r2
    · have h3l := (List.getElem?_eq_some_iff.mp h3).1
      rw [List.length_append, List.length_singleton] at h3l
      obtain rfl : i = L.length := by omega
      rw [List.getElem?_append_right (by rw [T.lb]; exact Nat.le_refl _), T.lb, Nat.sub_self] at h1
      rw [List.getElem?_append_right (by rw [T.lt]; exact Nat.le_refl _), T.lt, Nat.sub_self] at h2
      rw [List.getElem?_append_right (Nat.le_refl _), Nat.sub_self] at h3
      cases h1
      cases h2
      cases h3
      exact ⟨keepT _ _ (bp _ _ eb) eb, keepT _ _ tp et⟩
  · rcases List.mem_append.mp hc with hc | hc
    · exact T.b0 c hc
    · rw [List.mem_singleton.mp hc]; exact b0
  · rcases List.mem_append.mp hc with hc | hc
    · exact T.t0 c hc
    · rw [List.mem_singleton.mp hc]; exact t0
  · rw [List.nodup_append]
    exact ⟨T.nd, by simp, fun a ha b hb z => by rw [List.mem_singleton.mp hb] at z; exact nt (z ▸ ha)⟩
  · rcases List.mem_append.mp hc with hc | hc
    · exact T.tp c hc
    · rw [List.mem_singleton.mp hc]; exact tp
/-- None or a number -/
def Plain (d : PyData) : Prop := d = .none ∨ ∃ i, d = .int i
theorem Plain.rp {H : Hp} {d : PyData} (h : Plain d) : Rp H (valD d) d := by
  rcases h with rfl | ⟨i, rfl⟩
  · exact .non
  · exact .int i
theorem plain_rps {H : Hp} : ∀ {ds : List PyData}, (∀ d ∈ ds, Plain d) → RpAll H (ds.map valD) ds
  | [], _ => .nil
  | d :: ds, h => .cons (h d List.mem_cons_self).rp (plain_rps fun e he => h e (List.mem_cons_of_mem _ he))
theorem num_plain (no w : Str) : Plain (numD no w) := by
  unfold numD
  split
  · exact .inl rfl
  · exact .inr ⟨_, rfl⟩
def PlainR (x : RowT) : Prop := (∀ d ∈ x.1, Plain d) ∧ Plain x.2
theorem rowS_plain (ws : List Str) : PlainR (rowS ws) := ⟨fun d hd => by
  obtain ⟨w, _, rfl⟩ := List.mem_map.mp hd
  exact num_plain _ _, num_plain _ _⟩
theorem Told.rp {H0 H : Hp} {p : Addr} {bs ts : List Addr} {L : List RowT} (T : Told H0 H p bs ts L) (hp : ∀ x ∈ L, PlainR x) : Rp H (.ref p) (planD L) := by
  refine .lst T.e ?_
  have gen : ∀ (n : Nat), n ≤ L.length → RpAll H ((bs.take n).map V.ref) ((L.take n).map rowD) := by
    intro n
    induction n with
    | zero => intro _; exact .nil
    | succ n ih =>
      intro hn
      obtain ⟨b, hb⟩ : ∃ b, bs[n]? = some b := ⟨_, List.getElem?_eq_getElem (by rw [T.lb]; omega)⟩
      obtain ⟨t, ht⟩ : ∃ t, ts[n]? = some t := ⟨_, List.getElem?_eq_getElem (by rw [T.lt]; omega)⟩
      obtain ⟨x, hx⟩ : ∃ x, L[n]? = some x := ⟨_, List.getElem?_eq_getElem (by omega)⟩
      obtain ⟨r1, r2⟩ := T.row n b t x hb ht hx
      have hpx := hp x (List.mem_of_getElem? hx)
      rw [List.take_add_one, hb, List.map_append, List.take_add_one, hx, List.map_append]
      exact (ih (by omega)).append (.cons (.tup r1 (.cons (.lst r2 (plain_rps hpx.1)) (.cons hpx.2.rp .nil))) .nil)
  have := gen L.length (Nat.le_refl _)
  rw [List.take_length, ← T.lb, List.take_length] at this
  exact this
theorem form_parts {ws : List Str} (h : formS ws = true) : 3 ≤ ws.length ∧ (∀ w ∈ ws.take (ws.length - 2), okW "never" w = true) ∧ okW "ever" (ws.getD (ws.length - 1) Str.empty) = true := by
  unfold formS at h
  simp only [Bool.and_eq_true, decide_eq_true_eq, List.all_eq_true] at h
  refine ⟨h.1.1.1, h.2, ?_⟩
  have h2 := h.1.2
  rw [List.getD_eq_getElem?_getD]
  cases e : ws[ws.length - 1]? with
  | none => rw [e] at h2; cases h2
  | some w => rw [e] at h2; exact h2
theorem ex_updN {H H1 : Hp} {b : Addr} {o : HO} (e : Ex H H1) (n : H b = none) : Ex H (upd H1 b o) := fun c o' h => by
  have ne : c ≠ b := fun z => by rw [z, n] at h; cases h
  rw [upd_ne ne]
  exact e c o' h
def spForm (P3 : Addr) : Sp := fun vs H Q _ => ∃ (a : Addr) (ws : List Str), vs = [.ref a] ∧ H a = some (.lst (ws.map V.str)) ∧ ws.length ≤ 40001 ∧ (∀ w ∈ ws, w.length ≤ 40000) ∧ GxR.TabG H P3 ∧ ∀ H', Ex H H' → Q (.bl (formS ws)) H'
def spRead (P1 P2 P3 : Addr) : Sp := fun vs H Q _ => ∃ t : Str, vs = [.str t] ∧ Fits t ∧ (∀ p ∈ Txt.split t ", ", formS (Txt.split p " ") = true) ∧ isPlan (planD (rowsS t)) = true ∧ Tb P1 P2 H ∧ GxR.TabG H P3 ∧
  ∀ p bs ts H', Ex H H' → Told H H' p bs ts (rowsS t) → Q (.ref p) H'
theorem cut_end (xs : List V) (h : 2 ≤ xs.length) : cutV xs none (some (-2)) = xs.take (xs.length - 2) := by
  unfold cutV
  have e0 : HT.sIx xs.length 0 none = 0 := rfl
  have e1 : HT.sIx xs.length xs.length (some (-2)) = xs.length - 2 := by
    show (if (-2 : Int) < 0 then ((-2 : Int) + (xs.length : Int)).toNat else min (-2 : Int).toNat xs.length) = _
    rw [if_pos (by decide)]
    omega
  rw [e0, e1, List.drop_zero, Nat.sub_zero]
section
variable {P : Program} {w : World} {K : PySem.W.Frag} {mg : Str → Option Value} {base : Heap}
theorem ok_form {f c P3 : Addr} {fd : FuncData} (F : FunC K "has_form" "has_form" sForm f fd c) (T : Nm mg) (N4 : Nm4 mg) (TB : GxR.TabB base mg c P3) (CI : Cal P w K mg base 2 "is_number_or" ["word", "none"] spIsO) : FnOk P w K mg base CX0 4 f fd ["words"] (spForm P3) := by
  refine F.ok scForm (fun vs H Q E ⟨a, ws, e, _⟩ => by rw [e]; rfl) (fun A outer s H vs Q E hr h => ?_)
  obtain ⟨a, ws, rfl, hA, hl, hw, hT, q⟩ := h
  obtain ⟨tn, hnv⟩ := N4.never
  obtain ⟨te, hev⟩ := N4.ever
  refine ⟨_, (pss_cons (ps_if (PW.pt (pw_or (pt_cmpR op_lt (pe_callB call_len_seq (by rfl) T.len PySem.boot_len (pa_cons (pv 0) pa_nil)) pe_int (nomark _)) (pw_or (pt_cmpR op_ne (pe_ix ix_list (pv 0) (pe_un un_neg pe_int) (fun _ _ => rfl)) pe_str (nomark _)) (pw_or1 (pt_not (pt_val (pe_cal (CI.mono (by decide)) hr (by rfl) (pa_cons (pe_ix ix_list (pv 0) (pe_un un_neg pe_int) (fun _ _ => rfl)) (pa_cons (pe_glob (v := .str "ever") (by rfl) hev ⟨_, rfl⟩) pa_nil))))))))) (pss_one (ps_ret pe_bl)) pss_nil)
      (pss_one (ps_ret (pe_allG (N := ["word"]) hr (by rfl) T.all TB rfl (by exact ⟨rfl, rfl, by decide +kernel, rfl⟩) (pi_seq (pe_slice sl_list (pv 0) po_none (po_some (pe_un un_neg pe_int))))
      (fun A s H C code fp pn rY => pg_name (i := 0) nd1 rfl (.inl rfl) (.inr rfl)) (fun A s H C code fp pn rY => pts_nil)
      (fun A s H C code fp pn rY => pe_cal CI rY (by rfl) (pa_cons (pv 0) (pa_cons (pe_glob (v := .str "never") (by rfl) hnv ⟨_, rfl⟩) pa_nil))))))), ?_⟩
  have lm : (ws.map V.str).length = ws.length := List.length_map ..
  have q0 : ∀ b, formS ws = b → ∀ H', Ex H H' → Q (.bl b) H' := fun b e H' x => by rw [← e]; exact q H' x
  refine ⟨.ref a, rfl, a, _, rfl, .inl (SqL.of hA), _, 3, rfl, rfl, _, rfl, ite2 (fun e => ?_) (fun e => ?_)⟩
  · have e := of_decide_eq_true e
    exact q0 false (by unfold formS; rw [decide_eq_false (by omega)]; rfl) H (Ex.refl H)
  · have h3 : 3 ≤ ws.length := by
      have : ¬ (((ws.map V.str).length : Int) < 3) := fun z => e (decide_eq_true z)
      omega
    obtain ⟨pre, x, m, rfl⟩ : ∃ pre x m, ws = pre ++ [x, m] := by
      refine ⟨ws.take (ws.length - 2), ws[ws.length - 2], ws[ws.length - 1], ?_⟩
      have : ws.drop (ws.length - 2) = [ws[ws.length - 2], ws[ws.length - 1]] := by
        rw [List.drop_eq_getElem_cons (by omega), List.drop_eq_getElem_cons (by omega), List.drop_eq_nil_of_le (by omega)]
        congr 3
        omega
      rw [← this, List.take_append_drop]
    have lw : (pre ++ [x, m]).length = pre.length + 2 := by rw [List.length_append]; rfl
    have fv : formS (pre ++ [x, m]) = (decide (x = Str.ofString "x") && okW "ever" m && pre.all (okW "never")) := by
      unfold formS
      rw [decide_eq_true h3, lw, Nat.add_sub_cancel, List.take_left, List.getElem?_append_right (Nat.le_refl _), Nat.sub_self, List.getElem?_append_right (by omega), show pre.length + 2 - 1 - pre.length = 1 by omega]
      show (true && decide (some x = some (Str.ofString "x")) && (some m).any (okW "ever") && _) = _
      rw [Bool.true_and, show decide (some x = some (Str.ofString "x")) = decide (x = Str.ofString "x") from decide_eq_decide.mpr ⟨Option.some.inj, congrArg some⟩]
      rfl
    have em : (pre ++ [x, m]).map V.str = pre.map V.str ++ [V.str x, V.str m] := List.map_append ..
    rw [em] at hA
    have at2 : atI (pre.map V.str ++ [V.str x, V.str m]) (-2) = some (V.str x) := by
      have hl2 : (pre.map V.str ++ [V.str x, V.str m]).length = pre.length + 2 := by rw [List.length_append, List.length_map]; rfl
      have e : ixN (pre.map V.str ++ [V.str x, V.str m]).length (-2) = some pre.length := by
        unfold ixN
        rw [hl2, if_neg (by decide), if_pos (by omega)]
        congr 1
        omega
      unfold atI
      rw [e]
      show (pre.map V.str ++ [V.str x, V.str m])[pre.length]? = _
      rw [List.getElem?_append_right (by rw [List.length_map]; exact Nat.le_refl _), List.length_map, Nat.sub_self]
      rfl
    have at1 : atI (pre.map V.str ++ [V.str x, V.str m]) (-1) = some (V.str m) := by
      have := atI_last (pre.map V.str ++ [V.str x]) (V.str m)
      rw [List.append_assoc] at this
      exact this
    have ed : decide (V.str x = V.str (Str.ofString "x")) = decide (x = Str.ofString "x") := decide_eq_decide.mpr ⟨V.str.inj, congrArg V.str⟩
    refine ⟨.ref a, rfl, 2, rfl, a, _, -2, .str x, rfl, rfl, SqL.of hA, at2, rfl, _, rfl, ?_⟩
    rw [ed]
    refine ite2 (fun e2 => ?_) (fun e2 => ?_)
    · exact q0 false (by rw [fv, show decide (x = Str.ofString "x") = false by simpa using e2]; rfl) H (Ex.refl H)
    · have e2 : decide (x = Str.ofString "x") = true := by simpa using e2
      refine ⟨.ref a, rfl, 1, rfl, a, _, -1, .str m, rfl, rfl, SqL.of hA, at1, m, "ever", rfl, hw m (by simp), fun H1 s1 => ⟨_, rfl, ?_⟩⟩
      cases ek : okW "ever" m with
      | false =>
        rw [show (decide (m = Str.ofString "ever") || isNumS m) = false from ek]
        exact iteT (q0 false (by rw [fv, ek, Bool.and_false, Bool.false_and]) H1 (Ex.of s1))
      | true =>
        rw [show (decide (m = Str.ofString "ever") || isNumS m) = true from ek]
        refine iteF ?_
        have fv2 : formS (pre ++ [x, m]) = pre.all (okW "never") := by rw [fv, e2, ek]; rfl
        have hA1 := s1 _ _ hA
        have hT1 := tabG_same s1 hT
        refine ⟨.ref a, rfl, 2, rfl, -2, rfl, a, _, rfl, SqL.of hA1, fun D nD => ?_⟩
        have ecut : cutV (pre.map V.str ++ [V.str x, V.str m]) none (some (-2)) = pre.map V.str := by
          rw [cut_end _ (by rw [List.length_append]; show 2 ≤ _ + 2; omega), List.length_append]
          show (pre.map V.str ++ _).take (_ + 2 - 2) = _
          rw [Nat.add_sub_cancel, List.take_left]
        rw [ecut]
        have x2 : Ex H1 (upd H1 D (.lst (pre.map V.str))) := Ex.of (same_upd nD)
        have eD : (upd H1 D (.lst (pre.map V.str))) D = some (.lst (pre.map V.str)) := upd_same
        have hT2 := tabG_same (same_upd (o := .lst (pre.map V.str)) nD) hT1
        generalize upd H1 D (.lst (pre.map V.str)) = H2 at x2 eD hT2 ⊢
        have x02 := (Ex.of s1).trans x2
        refine ⟨D, _, rfl, ⟨.inl eD⟩, fun J hJ => ⟨hT2, fun H3 tb => ⟨_, ⟨(pre.map V.str).length, rfl, Nat.zero_le _, ex_tabbed hT2 tb, rfl⟩, turn_by (xs := pre.map V.str) (fun _ i H => Ex H2 H ∧ (pre.take i).all (okW "never") = true)
          (fun _ i H ⟨eH, _⟩ => hJ H eH) (fun _ i z H3 hz ⟨eH, aH⟩ => ?_) (fun _ H3 ⟨eH, aH⟩ => ?_)⟩⟩⟩
        · rw [List.getElem?_map] at hz
          obtain ⟨y, hy, rfl⟩ := Option.map_eq_some_iff.mp hz
          refine name_yes ?_
          refine ⟨.str y, rfl, y, "never", rfl, hw y (List.mem_append_left _ (List.mem_of_getElem? hy)), fun H4 s4 => ⟨_, rfl, ite2 (fun e4 => ?_) (fun e4 => ?_)⟩⟩
          · exact ⟨eH.trans (Ex.of s4), by rw [List.take_add_one, hy, List.all_append, aH]; show (true && (okW "never" y && true)) = true; rw [show okW "never" y = true from e4]; rfl⟩
          · refine q0 false ?_ H4 (x02.trans (eH.trans (Ex.of s4)))
            rw [fv2]
            cases ea : pre.all (okW "never") with
            | false => rfl
            | true => exact absurd (List.all_eq_true.mp ea y (List.mem_of_getElem? hy)) e4
        · rw [List.length_map, List.take_length] at aH
          exact q0 true (by rw [fv2, aH]) H3 (x02.trans eH)
theorem ok_read {f P1 P2 P3 : Addr} {fd : FuncData} (F : Fun K "read_plan" "read_plan" sRead f fd) (T : Nm mg) (N4 : Nm4 mg) (N6 : Nm6 mg) (CF : Cal P w K mg base 4 "has_form" ["words"] (spForm P3)) (CO : Cal P w K mg base 2 "number_or" ["word", "none"] spNor) (CC : Cal P w K mg base 8 "check_plan" ["thing"] (spChk P1 P2)) :
    FnOk P w K mg base CX0 9 f fd ["text"] (spRead P1 P2 P3) := by
  refine F.ok scRead (fun vs H Q E ⟨t, e, _⟩ => by rw [e]; rfl) (fun cdv A outer s H vs Q E hr h => ?_)
  obtain ⟨t, rfl, hF, hform, hplan, hT, hT3, q⟩ := h
  obtain ⟨tn, hnv⟩ := N4.never
  obtain ⟨te, hev⟩ := N4.ever
  have nd := scRead.nd
  refine ⟨_, (pss_cons (ps_if (pt_not (pt_val (pe_callB call_isi (by rfl) T.isi (by decide +kernel) (pa_cons (pv 0) (pa_cons (pe_bltn (v := .ty "str") (by rfl) N4.str PyProof.Rows.boot_str rfl) pa_nil))))) (pss_one ps_never) pss_nil)
      (pss_cons (ps_set (i := 1) nd rfl (.inl rfl) (pe_lst pa_nil))
      (pss_cons (ps_for PassesOwn.never rfl (pi_enum (by rfl) N6.enum (pa_cons (pe_split (pv 0) pe_str) pa_nil)) (pg_tup rfl (pgs_cons (pg_name (i := 2) nd rfl (.inl rfl)) (pgs_cons (pg_name (i := 3) nd rfl (.inl rfl)) pgs_nil))) (pss_cons (ps_set (i := 4) nd rfl (.inl rfl) (pe_split (pv 3) pe_str))
      (pss_cons (ps_if (pt_not (pt_val (pe_cal (CF.mono (by decide)) hr (by rfl) (pa_cons (pv 4) pa_nil)))) (pss_one ps_never) pss_nil)
      (pss_cons (ps_setLc (i := 5) (own := [("word", 6)]) (g := (gName 6)) (tt := tYes) rfl nd rfl rfl (sw_true rfl rfl rfl (by decide +kernel)) (pi_list (pe_slice sl_list (pv 4) po_none (po_some (pe_un un_neg pe_int)))) (blkOk_by (own := [("word", 6)]) (N := nRead) (sc := (defScope sRead)) (by decide +kernel)) (fun _ _ _ _ _ => (pg_name (i := 6) nd rfl (.inl rfl))) (fun _ _ _ _ _ => pts_nil) (fun _ _ _ _ _ => (pe_cal (CO.mono (by decide)) hr (by rfl) (pa_cons (pv 6) (pa_cons (pe_glob (v := .str "never") (by rfl) hnv ⟨_, rfl⟩) pa_nil)))))
      (pss_one (ps_expr (pe_bm PySem.F.plainAttrs_list PySem.F.slot_list_append PySem.F.type_list_append mt_append (pv 1) (pa_cons (pe_tup (pa_cons (pv 5) (pa_cons (pe_cal (CO.mono (by decide)) hr (by rfl) (pa_cons (pe_ix ix_list (pv 4) (pe_un un_neg pe_int) (fun _ _ => rfl)) (pa_cons (pe_glob (v := .str "ever") (by rfl) hev ⟨_, rfl⟩) pa_nil))) pa_nil))) pa_nil))))))))
      (pss_cons (ps_expr (pe_cal (CC.mono (by decide)) hr (by rfl) (pa_cons (pv 1) pa_nil)))
      (pss_one (ps_ret (pv 1))))))), ?_⟩
  refine ⟨.str t, rfl, .str t, .ty "str", _, _, true, rfl, .ty _, .base (.str t), kit_ty (by decide +kernel), true, rfl, iteF ?_⟩
  dsimp only [tNext]
  show tSeq _ _ _ [some (.str t), none, none, none, none, none, none] H
  refine ⟨Nat.zero_le _, fun D nD => ?_⟩
  have T1 : Told H (upd H D (.lst [])) D [] [] [] := ⟨nD, upd_same, rfl, rfl, fun i b t x h => by simp at h, fun b hb => (nomatch hb), fun b hb => (nomatch hb), List.nodup_nil, fun b hb => (nomatch hb)⟩
  have x1 : Ex H (upd H D (.lst [])) := Ex.of (same_upd nD)
  generalize upd H D (.lst []) = H1 at T1 x1 ⊢
  dsimp only [gName]
  show tSeq _ _ _ [some (.str t), some (.ref D), none, none, none, none, none] H1
  refine ⟨.str t, rfl, ⟨t, rfl⟩, t, ", ", rfl, rfl, rfl, Nat.le_trans (Nat.add_le_add_right hF.len 2) (by rw [sizeLine_eq]; decide), fun p np => ?_⟩
  have pD : p ≠ D := fun z => by rw [z, T1.e] at np; cases np
  have x2a : Ex H1 (upd H1 p (.lst ((Txt.split t ", ").map V.str))) := Ex.of (same_upd np)
  have ep : (upd H1 p (.lst ((Txt.split t ", ").map V.str))) p = some (.lst ((Txt.split t ", ").map V.str)) := upd_same
  have T2 := T1.ex x2a
  have x2 := x1.trans x2a
  clear x2a
  generalize upd H1 p (.lst ((Txt.split t ", ").map V.str)) = H2 at x2 ep T2 ⊢
  unfold rowsS at q hplan
  have hmany := hF.many
  have hpiece := hF.piece
  generalize Txt.split t ", " = pcs at *
  have lm : (pcs.map V.str).length = pcs.length := List.length_map ..
  refine ⟨p, _, rfl, SqL.of ep, for_it (walk_enum (xs := pcs.map V.str)) (fun i σ H3 => ∃ y2 y3 y4 y5 bs ts, σ = [some (.str t), some (.ref D), y2, y3, y4, y5, none] ∧ Told H H3 D bs ts ((pcs.take i).map fun p => rowS (Txt.split p " ")) ∧ Ex H H3 ∧ H3 p = some (.lst (pcs.map V.str)))
    ⟨none, none, none, none, [], [], rfl, T2, x2, ep⟩ (fun i σ H3 _ hP => by obtain ⟨_, _, _, _, _, _, _, _, _, e⟩ := hP; exact SqL.of e) (fun i x σ H3 H4 hi hP hY => ?_) (fun σ H3 hP => ?_)⟩
  · obtain ⟨y2, y3, y4, y5, bs, ts, rfl, T3, x3, ep3⟩ := hP
    obtain ⟨Tt, xi, xc, rfl, nT, rfl, hxi, hxc⟩ := hY
    cases hxi
    have hxc : (pcs.map V.str)[i]? = some xc := hxc
    rw [List.getElem?_map] at hxc
    obtain ⟨pc, hpc, rfl⟩ := Option.map_eq_some_iff.mp hxc
    have hmem := List.mem_of_getElem? hpc
    obtain ⟨hl, hwn, hww⟩ := hpiece pc hmem
    have hfm := hform pc hmem
    obtain ⟨h3, hnev, hev2⟩ := form_parts hfm
    have x34 : Ex H3 (upd H3 Tt (.tup [.int (i : Nat), .str pc])) := Ex.of (same_upd nT)
    have e4 : (upd H3 Tt (.tup [.int (i : Nat), .str pc])) Tt = some (.tup [.int (i : Nat), .str pc]) := upd_same
    have T4 := T3.ex x34
    have x4 := x3.trans x34
    have ep4 := x34.lst ep3
    generalize upd H3 Tt (.tup [.int (i : Nat), .str pc]) = H4 at x34 e4 T4 x4 ep4 ⊢
    clear T3 x3 ep3 x34
    refine ⟨Tt, _, rfl, SqT.of e4, rfl, .int (i : Nat), _, rfl, .str pc, _, rfl, rfl, ?_⟩
    show tSeq _ _ _ [some (.str t), some (.ref D), some (.int (i : Nat)), some (.str pc), y4, y5, none] H4
    refine ⟨.str pc, rfl, ⟨pc, rfl⟩, pc, " ", rfl, rfl, rfl, Nat.le_trans (Nat.add_le_add_right hl 2) (by rw [sizeLine_eq]; decide), fun Wd nW => ?_⟩
    generalize hws : Txt.split pc " " = ws at hfm h3 hnev hev2 hwn hww
    have x45 : Ex H4 (upd H4 Wd (.lst (ws.map V.str))) := Ex.of (same_upd nW)
    have eW : (upd H4 Wd (.lst (ws.map V.str))) Wd = some (.lst (ws.map V.str)) := upd_same
    have T5 := T4.ex x45
    have x5 := x4.trans x45
    have ep5 := x45.lst ep4
    generalize upd H4 Wd (.lst (ws.map V.str)) = H5 at x45 eW T5 x5 ep5 ⊢
    clear T4 x4 ep4 x45
    dsimp only [gName]
    show tSeq _ _ _ [some (.str t), some (.ref D), some (.int (i : Nat)), some (.str pc), some (.ref Wd), y5, none] H5
    refine ⟨.ref Wd, rfl, Wd, ws, rfl, eW, hwn, hww, tabG_ex hT3 x5, fun H6 x6 => ⟨formS ws, rfl, ?_⟩⟩
    rw [hfm]
    refine iteF ?_
    have T6 := T5.ex x6
    have eW6 := x6.lst eW
    have ep6 := x6.lst ep5
    have x6 := x5.trans x6
    clear T5 x5 ep5 eW
    dsimp only [tNext]
    show tSeq _ _ _ [some (.str t), some (.ref D), some (.int (i : Nat)), some (.str pc), some (.ref Wd), y5, none] H6
    refine ⟨.ref Wd, rfl, 2, rfl, -2, rfl, Wd, _, rfl, SqL.of eW6, fun S nS => ?_⟩
    have lw : (ws.map V.str).length = ws.length := List.length_map ..
    rw [cut_end _ (by rw [lw]; omega), lw, ← List.map_take]
    have x67 : Ex H6 (upd H6 S (.lst ((ws.take (ws.length - 2)).map V.str))) := Ex.of (same_upd nS)
    have eS : (upd H6 S (.lst ((ws.take (ws.length - 2)).map V.str))) S = some (.lst ((ws.take (ws.length - 2)).map V.str)) := upd_same
    have T7 := T6.ex x67
    have eW7 := x67.lst eW6
    have ep7 := x67.lst ep6
    have x7 := x6.trans x67
    generalize upd H6 S (.lst ((ws.take (ws.length - 2)).map V.str)) = H7 at x67 eS T7 eW7 ep7 x7 ⊢
    clear T6 eW6 ep6 x6 x67
    refine ⟨S, rfl, ⟨_, SqL.of eS⟩, fun U nU => ?_⟩
    have lpre : (ws.take (ws.length - 2)).length ≤ 40001 := by rw [List.length_take]; omega
    have hwp : ∀ w ∈ ws.take (ws.length - 2), w.length ≤ 40000 := fun w hw => hww w (List.mem_of_mem_take hw)
    generalize hpre : ws.take (ws.length - 2) = pre at eS hnev lpre hwp ⊢
    refine lc_list (K := K) (a := S) (xs := pre.map V.str) (fun k H8 => Same H7 H8 ∧ H8 U = some (.lst ((pre.take k).map fun w => valD (numD "never" w)))) ⟨same_upd nU, upd_same⟩ (fun k H8 _ ⟨s8, _⟩ => SqL.of (s8 _ _ eS)) (fun k x H8 hx ⟨s8, eU⟩ => ?_) (fun H8 ⟨s8, eU⟩ => ?_)
    · rw [List.getElem?_map] at hx
      obtain ⟨w, hw, rfl⟩ := Option.map_eq_some_iff.mp hx
      have hwm := List.mem_of_getElem? hw
      have hk : k < pre.length := (List.getElem?_eq_some_iff.mp hw).1
      refine ⟨rfl, yesT ⟨.str w, rfl, w, "never", rfl, hwp w hwm, hnev w hwm, fun H9 s9 => ⟨_, s9 _ _ eU, size20 (by rw [List.length_map, List.length_take]; omega), same_updN (s8.trans s9) nU, ?_⟩⟩⟩
      rw [upd_same, List.take_add_one, hw, List.map_append, num_val]
      rfl
    · rw [List.length_map, List.take_length] at eU
      have T8 := T7.ex (Ex.of s8)
      have eW8 := s8 _ _ eW7
      have ep8 := s8 _ _ ep7
      have x8 := x7.trans (Ex.of s8)
      have U0 : H U = none := by cases z : H U with
        | none => rfl
        | some o =>
          have := x7.free nU
          rw [z] at this
          cases this
      have Uts : U ∉ ts := fun z => by
        obtain ⟨j, hj⟩ := List.getElem?_of_mem z
        have jl := (List.getElem?_eq_some_iff.mp hj).1
        rw [T7.lt] at jl
        obtain ⟨b, hb⟩ : ∃ b, bs[j]? = some b := ⟨_, List.getElem?_eq_getElem (by rw [T7.lb]; exact jl)⟩
        have := (T7.row j b U _ hb hj (List.getElem?_eq_getElem jl)).2
        rw [nU] at this
        cases this
      have UD : U ≠ D := fun z => by rw [z, T7.e] at nU; cases nU
      dsimp only [gName]
      show tDrop _ _ [some (.str t), some (.ref D), some (.int (i : Nat)), some (.str pc), some (.ref Wd), some (.ref U), none] H8
      have hlast : (ws.map V.str) = (ws.take (ws.length - 1)).map V.str ++ [V.str (ws.getD (ws.length - 1) Str.empty)] := by
        have : ws = ws.take (ws.length - 1) ++ [ws.getD (ws.length - 1) Str.empty] := by
          rw [List.getD_eq_getElem?_getD, List.getElem?_eq_getElem (show ws.length - 1 < ws.length by omega)]
          show ws = ws.take (ws.length - 1) ++ [ws[ws.length - 1]]
          have : ws.drop (ws.length - 1) = [ws[ws.length - 1]] := by rw [List.drop_eq_getElem_cons (by omega), List.drop_eq_nil_of_le (by omega)]
          rw [← this, List.take_append_drop]
        conv => lhs; rw [this]
        rw [List.map_append]
        rfl
      have hlm : ws.getD (ws.length - 1) Str.empty ∈ ws := by
        rw [List.getD_eq_getElem?_getD, List.getElem?_eq_getElem (show ws.length - 1 < ws.length by omega)]
        exact List.getElem_mem _
      refine ⟨.ref D, rfl, .inl ⟨rfl, _, SqL.of T8.e⟩, .ref U, rfl, .ref Wd, rfl, 1, rfl, Wd, _, -1, .str (ws.getD (ws.length - 1) Str.empty), rfl, rfl, SqL.of eW8, by rw [hlast]; exact atI_last _ _, _, "ever", rfl, hww _ hlm, hev2, fun H9 s9 => ⟨small_le (by show 2 ≤ 1000; decide), fun b nb => ?_⟩⟩
      have x9 := Ex.of (s9.trans (same_upd (o := .tup [.ref U, numV "ever" (ws.getD (ws.length - 1) Str.empty)]) nb))
      have T9 := T8.ex x9
      have eU9 := x9.lst eU
      have ep9 := x9.lst ep8
      have eb : (upd H9 b (.tup [.ref U, numV "ever" (ws.getD (ws.length - 1) Str.empty)])) b = some (.tup [.ref U, valD (rowS ws).2]) := by rw [upd_same, num_val]; rfl
      have b0 : H b = none := by cases z : H b with
        | none => rfl
        | some o =>
          have := (x8.trans (Ex.of s9)).free nb
          rw [z] at this
          cases this
      have x9 := x8.trans x9
      generalize upd H9 b (.tup [.ref U, numV "ever" (ws.getD (ws.length - 1) Str.empty)]) = H10 at T9 eU9 ep9 eb x9 ⊢
      have eU9 : H10 U = some (.lst ((rowS ws).1.map valD)) := by
        rw [eU9]
        show _ = some (HO.lst (((ws.take (ws.length - 2)).map (numD "never")).map valD))
        rw [hpre, List.map_map]
        rfl
      have lb : bs.length ≤ 40001 := by rw [T9.lb, List.length_map, List.length_take]; omega
      refine ⟨D, _, .ref b, rfl, rfl, T9.e, size20 (by rw [List.length_map]; omega), _, _, _, _, bs ++ [b], ts ++ [U], rfl, ?_, ex_updN x9 T9.p0, by rw [upd_ne pD]; exact ep9⟩
      rw [List.take_add_one, hpc, List.map_append]
      show Told _ _ _ _ _ (_ ++ [rowS (Txt.split pc " ")])
      rw [hws]
      exact T9.push eb eU9 b0 U0 Uts UD
  · obtain ⟨y2, y3, y4, y5, bs, ts, rfl, T3, x3, ep3⟩ := hP
    rw [lm, List.take_length] at T3
    dsimp only []
    show tSeq _ _ _ [some (.str t), some (.ref D), y2, y3, y4, y5, none] H3
    refine ⟨.ref D, rfl, .ref D, _, rfl, T3.rp (fun x hx => by obtain ⟨pc, _, rfl⟩ := List.mem_map.mp hx; exact rowS_plain _), ⟨tabG_ex hT.1 x3, tabG_ex hT.2 x3⟩, hplan, fun H4 x4 _ => ?_⟩
    exact ⟨.ref D, rfl, q D bs ts H4 (x3.trans x4) (T3.ex x4)⟩
end
end CL
set_option Elab.async false
set_option linter.all false
set_option pp.maxSteps 700
set_option maxRecDepth 100000
set_option maxHeartbeats 4000000
/-! ### Base.__init__(self, ..), Base a class of the module over ValueError -/
namespace L2
open PySem PySem.Spec PyProof.Rows
theorem pe_leinit {X : Cx} {C0 : Addr} {x : Str} {e : Expr} {es : List Expr} {ta : TA} {p1 p2 pos : Pos} {pl : Sem Bool} (hg : Gl X x) (hm : X.mg x = some (.ref C0)) (hr : PySem.W.readsIn X.K C0 (.type "type") = true)
    (sg : PySem.W.specialIn X.K (.ref C0) "__getattribute__" = some (some (.builtin "type.__getattribute__"))) (vV : PySem.W.findCls X.K (.ref C0) (.type "type") "__init__" = some (.val (.builtin "ValueError.__init__"))) (ha : PA X (e :: es) ta)
    (hdb : (x == ("__debug__" : Str)) = false := by decide)
    (hc : eval (.Call (.Attribute (.Name x p1) "__init__" p2) (e :: es) [] pos) X.env = (do
      let ov ← eval (.Name x p1) X.env
      standAt p2.atName
      let (f, first) ← holding [ov] (getMethod ov "__init__" pl)
      callWith pos f first (backTo pos (starEach (e :: es) X.env)) (backToKw pos (keywordEach [] X.env))) := by rfl)
    (he : starEach (e :: es) X.env = (false, eval e X.env) :: starEach es X.env := by rfl) (hpl : (backTo pos (starEach es X.env)).any (·.1) = false := by rfl) :
    PE X (.Call (.Attribute (.Name x p1) "__init__" p2) (e :: es) [] pos) (tVeI X.K ta) := by
  refine ⟨fun pins s σ H Q I h => ?_⟩
  refine PySem.W.methodCall_KW (ld_glob I hg hm ?_ hdb) hc
  refine PySem.W.method_cls I.kIn sg (PySem.W.cls_value I.kIn hr vV (by decide +kernel) ?_)
  show wpAny _ _ (callWith pos (Value.builtin "ValueError.__init__") [] (backTo pos (starEach (e :: es) X.env)) []) _ _ _
  refine PyProof.Rows.callWith_method1 (thn (ha.run pos pins _ σ H _ (I.tok _) h) fun us s1 ⟨vs, H1, I1, r1, a, C, ws, ev, hl, T, ea, q⟩ => ?_) he hpl
  subst ev
  cases r1 with
  | @cons _ u0 _ ur ra rw' =>
    obtain rfl : u0 = Value.ref a := ra
    have hlen : ur.length ≤ sizeLine := by
      rw [← Paired.length rw', sizeLine_eq]
      omega
    exact oinit_ok T I1 ea hlen fun s' J => ⟨.non, H1, J, rfl, q⟩
end L2
namespace CL
open PySem PySem.Spec PyProof.Rows L2 GE TL

abbrev sNT : Stmt := topS 15
abbrev sInitNT : Stmt := inClass sNT 0
theorem scInitNT : FnScope ["self", "sign"] ["self", "sign"] (defScope sInitNT) := ⟨rfl, rfl, rfl, by decide +kernel, rfl, by decide +kernel, by decide +kernel⟩
/-- what the classes of refusals say: LineError at LE, NoText at CT, its own __init__ at fI -/
structure NTx (K : PySem.W.Frag) (mg : Str → Option Value) (LE CT : Addr) : Prop where
  gL : mg "LineError" = some (.ref LE)
  rd : PySem.W.readsIn K LE (.type "type") = true
  sg : PySem.W.specialIn K (.ref LE) "__getattribute__" = some (some (.builtin "type.__getattribute__"))
  ini : PySem.W.findCls K (.ref LE) (.type "type") "__init__" = some (.val (.builtin "ValueError.__init__"))
  gT : mg "NoText" = some (.ref CT)
  ox : OexC K CT
  no : PySem.W.findIn K (.ref CT) "sign" = some none
def spInitNT (CT : Addr) : Sp := fun vs H Q _ => ∃ (a : Addr) (x : V), vs = [.ref a, x] ∧ H a = some (exo a CT none) ∧ ∀ dx, H dx = none → dx ≠ a → Q .non (upd (upd H dx (exd dx [(Str.ofString "sign", x)])) a (exo a CT (some dx)))
section
variable {P : Program} {w : World} {K : PySem.W.Frag} {mg : Str → Option Value} {base : Heap}
theorem ok_initNT {f LE CT : Addr} {fd : FuncData} (F : Fun K "__init__" "NoText.__init__" sInitNT f fd) (N : NTx K mg LE CT) : FnOk P w K mg base CX0 1 f fd ["self", "sign"] (spInitNT CT) := by
  refine F.ok scInitNT (fun vs H Q E ⟨a, x, e, _⟩ => by rw [e]; rfl) (fun cdv A outer s H vs Q E hr h => ?_)
  obtain ⟨a, x, rfl, ha, q⟩ := h
  refine ⟨_, (pss_cons (ps_expr (pe_leinit (by rfl) N.gL N.rd N.sg N.ini (pa_cons (pv 0) (pa_cons pe_str pa_nil)))) (pss_one (ps_ost (pv 0) (pv 1)))), ?_⟩
  refine ⟨.ref a, rfl, a, CT, _, rfl, by decide, N.ox, ha, ?_⟩
  exact ⟨x, rfl, .ref a, rfl, a, CT, rfl, N.ox, N.no, .inl ⟨ha, fun dx hd hn => q dx hd hn⟩⟩
end
end CL
set_option Elab.async false
set_option linter.all false
set_option pp.maxSteps 700
set_option maxRecDepth 100000
set_option maxHeartbeats 4000000
/-! ### an exception with an __init__ of its own, its context None; try with two clauses that name the error -/
namespace L2N
open PySem PySem.Spec PyProof.Rows L2
theorem pmk_oex {X : Cx} {e : Expr} {es : List Expr} {ta : TA} {p pos : Pos} {CX : CXT} {x : Str} {C fI : Addr} {k : Nat} {fd : FuncData} {ps : List Str} {sp : Sp} (T : OexC X.K C) (iC : PySem.W.findIn X.K (.ref C) "__init__" = some (some (.ref fI)))
    (tI : PySem.W.typeIn X.K (.ref fI) = some (.type "function")) (F1 : FnOk X.prog X.w X.K X.mg X.base CX k fI fd ps sp) (hr : Room (k + 1) X.A) (hb : Binds X.K fd ps []) (hx : Passes CX X (fun _ _ _ => False)) (hg : Gl X x) (hm : X.mg x = some (.ref C)) (ha : PA X (e :: es) ta)
    (hdb : (x == ("__debug__" : Str)) = false := by decide) (he : starEach (e :: es) X.env = (false, eval e X.env) :: starEach es X.env := by rfl) (hpl : (backTo pos (starEach es X.env)).any (·.1) = false := by rfl) :
    PMk X (.Call (.Name x p) (e :: es) [] pos) (tMkO C sp [] ta) := fun pins s σ H Q I h => by
  obtain ⟨nm, q, N, bs, bm, sn, sub, ab, col, dd, k0, k1, k2, k3, k5, hC, hbm⟩ := T.cls
  refine wpAny_Call_Name_kw (ld_glob I hg hm (PySem.W.callWith_K (h₀ := X.base) I.ok.mod.kin T.kC (thn (ha.run pos pins s σ H _ I h) fun us s1 ⟨vs, H1, I1, r1, hz, q1⟩ => ⟨I1.kIn, ?_⟩) he hpl) hdb)
  obtain ⟨hp, g, dr, tk, os⟩ := s1
  have hn : H1 (hp.objs.size + 1) = none := I1.hok.fresh (Nat.le_succ _)
  have hq := q1 (hp.objs.size + 1) hn
  have kk : ∀ b o, hp.get? b = some o → ((hp.push (PySem.W.kdv_tup us)).push (PySem.HandSPX.excO C hp.objs.size)).get? b = some o := fun b o e1 => by
    exact Heap.get?_push_of_some _ (Heap.get?_push_of_some _ e1)
  have hget : ((hp.push (PySem.W.kdv_tup us)).push (PySem.HandSPX.excO C hp.objs.size)).get? (hp.objs.size + 1) = some (PySem.HandSPX.excO C hp.objs.size) := by (heap_get)
  have I2 := I1.laid (t' := tk) (a := hp.objs.size + 1) (o := exo (hp.objs.size + 1) C none) kk (Nat.le_succ _) (exo_ok hget)
  have r2 : Vals (V.ref (hp.objs.size + 1) :: (vs ++ [])) (Value.ref (hp.objs.size + 1) :: (us ++ [])) := .cons rfl (r1.append .nil)
  have hl : (Value.ref (hp.objs.size + 1) :: us ++ []).length = ps.length := r2.length.symm.trans (F1.len _ _ _ _ hq)
  have hus : us.length ≤ sizeLine := by (rw [← Paired.length r1, sizeLine_eq]; omega)
  show wpAny _ _ (call (.ref C) us) _ _ _
  refine wpAny_call (PySem.HandSPX.call_own PySem.F.excBase_ValueError (fun Y => PySem.HandSPX.refsVE_contains Y bm hbm) (I1.kIn _ _ hC) (PySem.W.looks_findIn I1.kIn iC) (fun self => PySem.W.bind_fn I1.kIn self tI) hus ?_)
  refine codeAny_mono (F1.run _ X.stack _ _ ⟨Value.ref (hp.objs.size + 1) :: us, []⟩ _ _ _ (fun _ _ _ => False) (hr.make C us []) (I2.env0.make C us []) (hb _ (Value.ref (hp.objs.size + 1) :: us) I2.kIn hl) r2 hq) fun r s' hq' => ?_
  match r, hq' with
  | .error er, hq' => exact hx pins σ _ _ er s' I2 hq'
  | .ok (.ret u), ⟨v, H2, os2, bare2, un2, hok2, rv, ev, d, fs, ea, ed, hd1, q2⟩ =>
    subst ev
    obtain ⟨h2, g2, d2, t2, os'⟩ := s'
    obtain ⟨t0, G, J, kG, ge, hoe, na⟩ := mk_end0 (d2 := d2) (t2 := t2) I1 (Nat.le_succ _) kk un2 hok2 os2 bare2 ea ed hd1
    exact ⟨rv, _, _, _, ⟨G, g2, d2, t2, os'⟩, _, .ref C, some d, rfl, J, kG, ge, hoe, ⟨rfl, rfl, fun vs e2 => by cases e2; rfl⟩, rfl, rfl, na, rfl, bare2, raises_own T.exC T.tyC, q2⟩
def offN (D : Ends) (i : Nat) : Ends := { nx := fun σ' H' => D.nx (σ'.set i none) H', rt := D.rt, bk := fun σ' H' => D.bk (σ'.set i none) H', ct := fun σ' H' => D.ct (σ'.set i none) H' }
/-- what two clauses wish, which let nothing by -/
def wTwo (K : PySem.W.Frag) (c c2 : Value) (i : Nat) (ts ts2 : Addr → Value → Option Addr → TS) (D : Ends) : WX := fun cls d σ H =>
  (PySem.W.exmOne K cls c = some true ∧ ∀ a, H a = none → ts a cls d (offN D i) (σ.set i (some (.ref a))) H) ∨
  (PySem.W.exmOne K cls c = some false ∧ PySem.W.exmOne K cls c2 = some true ∧ ∀ a, H a = none → ts2 a cls d (offN D i) (σ.set i (some (.ref a))) H)
/-- what stands in a clause, for any error that it may be handed -/
def SuitOk (X : Cx) (st : List Stmt) (ts : Addr → Value → Option Addr → TS) : Prop := ∀ (a : Addr) (oe : Obj) (cls : Value) (d : Option Addr) (pn : List (Addr × Obj)), Zn cls d oe → (∃ vs, oe.data = .fields vs) → PSs (X.suite a ((a, oe) :: pn)) st (ts a cls d)
theorem ps_try_two {X : Cx} {x y n : Str} {c c2 : Value} {i : Nat} {body suite suite2 : List Stmt} {b₀ b₁ : Stmt} {np np2 pos pos1 pos2 : Pos} {tb : WX → TS} {ts ts2 : Addr → Value → Option Addr → TS} (hs : X.stack = X.env :: X.outer) (hf : X.env.frame = some X.env.locals) (hN : X.N.Nodup)
    (hi : X.N[i]? = some n) (hln : X.env.kindOf n = some .local) (hc : Names X x c) (hc2 : Names X y c2) (hb : ∀ (W : WX) (pn : List (Addr × Obj)) (xe : Value → Shared → Prop), Takes (X.tr pn xe) W → PassesOwn (model X.prog X.w) X.A X.env xe → PSs (X.tr pn xe) body (tb W))
    (h1 : SuitOk X (b₀ :: suite) ts) (h2 : SuitOk X (b₁ :: suite2) ts2) :
    PS X (.Try body [.ExceptHandler (some (.Name x np)) (some n) (b₀ :: suite) pos1, .ExceptHandler (some (.Name y np2)) (some n) (b₁ :: suite2) pos2] [] [] pos) (fun D σ H => tb (wTwo X.K c c2 i ts ts2 D) D σ H) := by
  refine ⟨fun pins s σ H D I h => ?_⟩
  have ok := I.ok
  have hfr : X.A.frames = some (X.env :: X.outer) := ok.frames.trans (congrArg some hs)
  let hds : List ExceptHandler := [.ExceptHandler (some (.Name x np)) (some n) (b₀ :: suite) pos1, .ExceptHandler (some (.Name y np2)) (some n) (b₁ :: suite2) pos2]
  let xe2 : Value → Shared → Prop := fun e s₁ => wpAny (model X.prog X.w) X.A (noteFrame e X.env) (fun _ s₂ => wpAny (model X.prog X.w) X.A (setFlight e none) (fun _ s₃ => wpAny (model X.prog X.w) X.A (handleBy e X.env hds) (SP X pins D) X.xe s₃) X.xe s₂) X.xe s₁
  have tk : Takes (X.tr (X.pn ++ pins) xe2) (wTwo X.K c c2 i ts ts2 D) := fun u s' xx => by
    obtain ⟨a, B, sI, pins', σ', H', cls, d, rfl, J', nb, up, sky, na, os, ag, w⟩ := xx
    have J : Inv X pins σ' H' sI := J'.ofTry ok
    refine Sky.land Zn.steady hfr hf (show Sky B (X.env :: X.outer) a (Zn cls d) X.env.locals s'.heap from hs ▸ sky) fun h3 fl3 up3 => ?_
    have lands : ∀ {h : Heap}, HandSPX.FlyingZ B (X.env :: X.outer) a (Zn cls d) h → s'.heap.UpToSlots h → ∃ o vs, h.get? a = some o ∧ Zn cls d o ∧ o.data = .fields vs ∧ Inv X pins σ' H' { s' with heap := h } ∧ Inv (X.suite a ((a, o) :: (X.pn ++ pins))) [] σ' H' { s' with heap := h } := fun {h} fl u => by
      obtain ⟨o, vs, he, hz, hd⟩ := fl.there
      have nfr : a ∉ frs (X.env :: X.outer) := fun hm => by
        obtain ⟨_, o', e', hnf⟩ := fl.2.2.1.mem hm
        exact hnf vs (by rw [← Option.some.inj (he.symm.trans e')]; exact hd)
      have J3 : Inv X pins σ' H' { s' with heap := h } := J.landed nb fl.1 (up.trans u) os ag
      refine ⟨o, vs, he, hz, hd, J3, J3.suite he hd na (fun z => nfr (List.mem_filterMap.mpr ⟨X.env, List.mem_cons_self, hf.trans (congrArg some z.symm)⟩)) fun hm => ?_⟩
      obtain ⟨e, hm', q⟩ := List.mem_filterMap.mp hm
      exact nfr (List.mem_filterMap.mpr ⟨e, List.mem_cons_of_mem _ hm', q⟩)
    obtain ⟨o3, vs3, he3, hz3, hd3, J3, S3⟩ := lands fl3 up3
    have LT : PySem.W.Looks (model X.prog X.w) h3 (typeOf (.ref a)) cls := fun A Q E s k q => wpAny_typeOf_ref (k _ _ he3) (hz3.1 ▸ q)
    -- the class that a clause names
    have nmd : ∀ {z : Str} {v : Value} {pz : Pos} {Q E : Value → Shared → Prop}, Names X z v → Q v { s' with heap := h3 } → wpAny (model X.prog X.w) (X.A.mark (some (.ref a))) (eval (.Name z pz) X.env) Q E { s' with heap := h3 } := fun hn q => by
      rcases hn with ⟨g1, g2, m | ⟨m, v, nn⟩⟩
      · exact ld_glob (X := X.suite a ((a, o3) :: (X.pn ++ pins))) S3 g1 m q g2
      · exact ld_blt (X := X.suite a ((a, o3) :: (X.pn ++ pins))) S3 g1 m v q nn g2
    have take : ∀ {z : Str} {v : Value} {pz p3 : Pos} {b3 : Stmt} {st : List Stmt} {t3 : Addr → Value → Option Addr → TS} {rest : List ExceptHandler}, Names X z v → SuitOk X (b3 :: st) t3 → PySem.W.exmOne X.K cls v = some true → t3 a cls d (offN D i) (σ'.set i (some (.ref a))) H' →
        wpAny (model X.prog X.w) X.A (handleBy (.ref a) X.env (.ExceptHandler (some (.Name z pz)) (some n) (b3 :: st) p3 :: rest)) (SP X pins D) X.xe { s' with heap := h3 } := fun {z v pz p3 b3 st t3 rest} hn hsu em q => by
      refine wpAny_handleBy_cons (codeAny_handlers_test (nmd hn ((PySem.W.exm_one (M := model X.prog X.w) J3.kIn LT em).here ?_))) (fun q => nomatch q)
      refine codeAny_handlers_suite_as (HandSPX.lands_againZ fl3 fun h4 fl4 up4 => ?_)
      obtain ⟨o4, vs4, he4, hz4, hd4, J4, S4⟩ := lands fl4 (up3.trans up4)
      refine store_ok (X := X.suite a ((a, o4) :: (X.pn ++ pins))) (v := .ref a) S4 hN hi (.inl hln) rfl (fun s5 S5 => ?_) (.inr hln)
      have gone : ∀ {s6 : Shared} {σ6 : St} {H6 : Hp} {Q : Shared → Prop}, Inv (X.suite a ((a, o4) :: (X.pn ++ pins))) [] σ6 H6 s6 → (∀ s7, Inv X pins (σ6.set i none) H6 s7 → Q s7) → wpAny (model X.prog X.w) X.A (do bindName X.env n .none; unbindBehindTheSuite X.env n p3) (fun _ s7 => Q s7) X.xe s6 :=
        fun S6 hq => gone_ok (S6.unsuite ok) hN hi hln hq
      refine wpAny_mono ((hsu a o4 cls d (X.pn ++ pins) hz4 ⟨_, hd4⟩).run [] s5 _ H' _ S5 q) (fun f s6 hsp => ?_) (fun _ _ z => False.elim z)
      match f, hsp with
      | .next, ⟨σ6, H6, S6, q6⟩ => exact gone S6 fun s7 J7 => ⟨_, _, J7, q6⟩
      | .brk, ⟨σ6, H6, S6, q6⟩ => exact gone S6 fun s7 J7 => ⟨_, _, J7, q6⟩
      | .cont, ⟨σ6, H6, S6, q6⟩ => exact gone S6 fun s7 J7 => ⟨_, _, J7, q6⟩
      | .ret u, ⟨v6, σ6, H6, S6, r6, q6⟩ => exact gone S6 fun s7 J7 => ⟨_, _, _, J7, r6, q6⟩
    rcases w with ⟨e1, q⟩ | ⟨e1, e2, q⟩
    · exact take hc h1 e1 (q a na)
    · exact wpAny_handleBy_cons (codeAny_handlers_test (nmd hc ((PySem.W.exm_one (M := model X.prog X.w) J3.kIn LT e1).here (take hc2 h2 e2 (q a na))))) (fun q => nomatch q)
  refine wpAny_Try_except (wpAny_mono ((hb _ (X.pn ++ pins) xe2 tk PassesOwn.looking).run [] s σ H D (I.toTry _) h) (fun f s1 hsp => ?_) (fun e s1 he => he))
  match f, hsp with
  | .next, ⟨σ', H', J', q⟩ => exact wpAny_execs_nil ⟨σ', H', J'.ofTry ok, q⟩
  | .brk, ⟨σ', H', J', q⟩ => exact ⟨σ', H', J'.ofTry ok, q⟩
  | .cont, ⟨σ', H', J', q⟩ => exact ⟨σ', H', J'.ofTry ok, q⟩
  | .ret u, ⟨v, σ', H', J', r, q⟩ => exact ⟨v, σ', H', J'.ofTry ok, r, q⟩
end L2N
set_option Elab.async false
set_option linter.all false
set_option pp.maxSteps 700
set_option maxRecDepth 100000
set_option maxHeartbeats 4000000
namespace CL
open PySem PySem.Spec PyProof.Rows L2 GE TL
/-! ### how great the parts of a text are -/
theorem joinL_len {S : List Nat} : ∀ {ps : List (List Nat)}, ps ≠ [] → (joinL S ps).length + S.length = (ps.map (·.length)).sum + ps.length * S.length
  | [], h => absurd rfl h
  | [p], _ => by show p.length + S.length = (p.length + 0) + 1 * S.length; omega
  | p :: q :: r, _ => by
    have ih := joinL_len (S := S) (ps := q :: r) (by simp)
    show (p ++ (S ++ joinL S (q :: r))).length + S.length = p.length + ((q :: r).map (·.length)).sum + ((q :: r).length + 1) * S.length
    rw [List.length_append, List.length_append, Nat.add_mul, Nat.one_mul]
    omega
theorem le_sum : ∀ {ps : List (List Nat)} {p : List Nat}, p ∈ ps → p.length ≤ (ps.map (·.length)).sum
  | q :: ps, p, h => by
    rw [List.map_cons, List.sum_cons]
    rcases List.mem_cons.mp h with rfl | h
    · omega
    · have := le_sum h
      omega
theorem split_sizes {x y : Str} (hy : 1 ≤ y.length) : (∀ p ∈ Txt.split x y, p.length ≤ x.length) ∧ (Txt.split x y).length ≤ x.length + 1 := by
  have e := congrArg tl (StrLaws.join_split x y)
  rw [tl_join] at e
  generalize Txt.split x y = ps at e
  cases ps with
  | nil => exact ⟨fun p hp => (nomatch hp), Nat.zero_le _⟩
  | cons a r =>
    have hl := joinL_len (S := tl y) (ps := (a :: r).map tl) (by simp)
    rw [e, ← len_tl, ← len_tl, List.length_map] at hl
    have h1 : (a :: r).length = r.length + 1 := rfl
    have h2 : r.length ≤ r.length * y.length := Nat.le_mul_of_pos_right _ hy
    rw [h1, Nat.add_mul, Nat.one_mul] at hl
    refine ⟨fun p hp => ?_, by rw [h1]; omega⟩
    have := le_sum (List.mem_map.mpr ⟨p, hp, rfl⟩ : tl p ∈ (a :: r).map tl)
    rw [← len_tl] at this
    omega
theorem fits_of {t : Str} (h : t.length ≤ 40000) : Fits t := by
  obtain ⟨h1, h2⟩ := split_sizes (x := t) (y := ", ") (by decide)
  refine ⟨h, by omega, fun p hp => ?_⟩
  obtain ⟨h3, h4⟩ := split_sizes (x := p) (y := " ") (by decide)
  have := h1 p hp
  exact ⟨by omega, by omega, fun w hw => by have := h3 w hw; omega⟩
theorem ex_raise {H H1 : Hp} {a d : Addr} {o1 o2 o3 o4 : HO} (x : Ex H H1) (na : H1 a = none) (nd : H1 d = none) : Ex H (upd (del (upd (upd (upd H1 a o1) d o2) a o3) a) d o4) := fun b o e => by
  have ba : b ≠ a := fun z => by
    have := x.free na
    rw [← z, e] at this
    cases this
  have bd : b ≠ d := fun z => by
    have := x.free nd
    rw [← z, e] at this
    cases this
  rw [upd_ne bd, del_ne ba, upd_ne ba, upd_ne bd, upd_ne ba]
  exact x b o e
end CL
set_option Elab.async false
set_option linter.all false
set_option pp.maxSteps 700
set_option maxRecDepth 100000
set_option maxHeartbeats 4000000
namespace CL
open PySem PySem.Spec PyProof.Rows L2 GE TL
def isStrB : PyData → Bool
  | .str _ => true
  | _ => false
/-- anything: told, or refused; what the refusal says of its sign -/
def spReadN (P1 P2 P3 CT C : Addr) : Sp := fun vs H Q E => ∃ (v : V) (d : PyData), vs = [v] ∧ Rp H v d ∧ Tb P1 P2 H ∧ GxR.TabG H P3 ∧
  ((isStrB d = false ∧ ∀ x H', Ex H H' → H' x = some (.xd [("sign", .non)]) → E (.ref CT) (some x) H') ∨ ∃ t : Str, v = .str t ∧ Fits t ∧
    (∀ i p, (Txt.split t ", ")[i]? = some p → formS (Txt.split p " ") = false → (∀ z ∈ (Txt.split t ", ").take i, formS (Txt.split z " ") = true) → ∀ x H', Ex H H' → H' x = some (.xd [("sign", .int (i : Nat))]) → E (.ref CT) (some x) H') ∧
    ((∀ p ∈ Txt.split t ", ", formS (Txt.split p " ") = true) → isPlan (planD (rowsS t)) = false → ∀ H', Ex H H' → E (.ref C) none H') ∧
    ((∀ p ∈ Txt.split t ", ", formS (Txt.split p " ") = true) → isPlan (planD (rowsS t)) = true → ∀ u H', Ex H H' → Q u H'))
theorem kit_str {K : PySem.W.Frag} (d : PyData) : PySem.W.kitOne K (.type (tyName d)) (.type "str") = some (isStrB d) := by
  cases d <;> (refine kit_ty ?_; dsimp only [tyName, isStrB]; decide +kernel)
section
variable {P : Program} {w : World} {K : PySem.W.Frag} {mg : Str → Option Value} {base : Heap}
theorem ok_readN {f fI fC P1 P2 P3 LE CT C : Addr} {fd fdI fdC : FuncData} (F : Fun K "read_plan" "read_plan" sRead f fd) (T : Nm mg) (N4 : Nm4 mg) (N6 : Nm6 mg) (CF : Cal P w K mg base 4 "has_form" ["words"] (spForm P3)) (CO : Cal P w K mg base 2 "number_or" ["word", "none"] spNor) (gC : mg "check_plan" = some (.ref fC)) (kC : PySem.W.keepIn K (.ref fC) = true) (GC : FnOk P w K mg base (L2N.CX P w) 8 fC fdC ["thing"] (fun vs H Q E => spChk P1 P2 vs H Q E ∨ badPlan P1 P2 C vs H Q E)) (bC : Binds K fdC ["thing"] []) (NX : NTx K mg LE CT) (iC : PySem.W.findIn K (.ref CT) "__init__" = some (some (.ref fI))) (tI : PySem.W.typeIn K (.ref fI) = some (.type "function")) (GI : FnOk P w K mg base CX0 1 fI fdI ["self", "sign"] (spInitNT CT)) (bI : Binds K fdI ["self", "sign"] []) :
    FnOk P w K mg base (L2N.CX P w) 9 f fd ["text"] (spReadN P1 P2 P3 CT C) := by
  refine okN F scRead (fun vs H Q E ⟨v, d, e, _⟩ => by rw [e]; rfl) (fun cdv A outer s H vs Q E hr h => ?_)
  obtain ⟨v, d, rfl, hR, hT, hT3, h⟩ := h
  obtain ⟨tn, hnv⟩ := N4.never
  obtain ⟨te, hev⟩ := N4.ever
  have nd := scRead.nd
  refine ⟨_, (pss_cons (ps_if (pt_not (pt_val (pe_callB call_isi (by rfl) T.isi (by decide +kernel) (pa_cons (pv 0) (pa_cons (pe_bltn (v := .ty "str") (by rfl) N4.str PyProof.Rows.boot_str rfl) pa_nil))))) (pss_one (L2N.ps_raise rfl (L2N.takes_of rfl rfl rfl rfl) (L2N.pmk_oex NX.ox iC tI GI (hr.mono (by decide)) bI pass0 (by rfl) NX.gT (pa_cons pe_non pa_nil)))) pss_nil)
      (pss_cons (ps_set (i := 1) nd rfl (.inl rfl) (pe_lst pa_nil))
      (pss_cons (ps_for (passes_of rfl) rfl (pi_enum (by rfl) N6.enum (pa_cons (pe_split (pv 0) pe_str) pa_nil)) (pg_tup rfl (pgs_cons (pg_name (i := 2) nd rfl (.inl rfl)) (pgs_cons (pg_name (i := 3) nd rfl (.inl rfl)) pgs_nil))) (pss_cons (ps_set (i := 4) nd rfl (.inl rfl) (pe_split (pv 3) pe_str))
      (pss_cons (ps_if (pt_not (pt_val (pe_cal (CF.mono (by decide)) hr (by rfl) (pa_cons (pv 4) pa_nil)))) (pss_one (L2N.ps_raise rfl (L2N.takes_of rfl rfl rfl rfl) (L2N.pmk_oex NX.ox iC tI GI (hr.mono (by decide)) bI pass0 (by rfl) NX.gT (pa_cons (pv 2) pa_nil)))) pss_nil)
      (pss_cons (ps_setLc (i := 5) (own := [("word", 6)]) (g := (gName 6)) (tt := tYes) rfl nd rfl rfl (sw_true rfl rfl rfl (by decide +kernel)) (pi_list (pe_slice sl_list (pv 4) po_none (po_some (pe_un un_neg pe_int)))) (blkOk_by (own := [("word", 6)]) (N := nRead) (sc := (defScope sRead)) (by decide +kernel)) (fun _ _ _ _ _ => (pg_name (i := 6) nd rfl (.inl rfl))) (fun _ _ _ _ _ => pts_nil) (fun _ _ _ _ _ => (pe_cal (CO.mono (by decide)) hr (by rfl) (pa_cons (pv 6) (pa_cons (pe_glob (v := .str "never") (by rfl) hnv ⟨_, rfl⟩) pa_nil)))))
      (pss_one (ps_expr (pe_bm PySem.F.plainAttrs_list PySem.F.slot_list_append PySem.F.type_list_append mt_append (pv 1) (pa_cons (pe_tup (pa_cons (pv 5) (pa_cons (pe_cal (CO.mono (by decide)) hr (by rfl) (pa_cons (pe_ix ix_list (pv 4) (pe_un un_neg pe_int) (fun _ _ => rfl)) (pa_cons (pe_glob (v := .str "ever") (by rfl) hev ⟨_, rfl⟩) pa_nil))) pa_nil))) pa_nil))))))))
      (pss_cons (ps_expr (pe_callS GC (hr.mono (by decide)) (by rfl) gC kC bC (fun σ => L2N.passAt (L2N.takes_of rfl rfl rfl rfl) σ) (pa_cons (pv 1) pa_nil)))
      (pss_one (ps_ret (pv 1))))))), ?_⟩
  rcases h with ⟨hs, qN⟩ | ⟨t, rfl, hF, qT, qP, q⟩
  · refine ⟨v, rfl, v, .ty "str", _, _, isStrB d, rfl, .ty _, hR.ty, kit_str d, isStrB d, rfl, ?_⟩
    rw [hs]
    refine iteT ⟨(by show 1 ≤ 1000; decide), fun ea na => ⟨ea, .non, rfl, upd_same, fun dx hd hn => ?_⟩⟩
    have hd : H dx = none := by rw [upd_ne hn] at hd; exact hd
    exact ⟨rfl, dx, _, upd_same, by rw [upd_ne hn]; exact upd_same, hd, qN dx _ (ex_raise (Ex.refl H) na hd) upd_same⟩
  cases hR
  refine ⟨.str t, rfl, .str t, .ty "str", _, _, true, rfl, .ty _, .base (.str t), kit_ty (by decide +kernel), true, rfl, iteF ?_⟩
  dsimp only [tNext]
  show tSeq _ _ _ [some (.str t), none, none, none, none, none, none] H
  refine ⟨Nat.zero_le _, fun D nD => ?_⟩
  have T1 : Told H (upd H D (.lst [])) D [] [] [] := ⟨nD, upd_same, rfl, rfl, fun i b t x h => by simp at h, fun b hb => (nomatch hb), fun b hb => (nomatch hb), List.nodup_nil, fun b hb => (nomatch hb)⟩
  have x1 : Ex H (upd H D (.lst [])) := Ex.of (same_upd nD)
  generalize upd H D (.lst []) = H1 at T1 x1 ⊢
  dsimp only [gName]
  show tSeq _ _ _ [some (.str t), some (.ref D), none, none, none, none, none] H1
  refine ⟨.str t, rfl, ⟨t, rfl⟩, t, ", ", rfl, rfl, rfl, Nat.le_trans (Nat.add_le_add_right hF.len 2) (by rw [sizeLine_eq]; decide), fun p np => ?_⟩
  have pD : p ≠ D := fun z => by rw [z, T1.e] at np; cases np
  have x2a : Ex H1 (upd H1 p (.lst ((Txt.split t ", ").map V.str))) := Ex.of (same_upd np)
  have ep : (upd H1 p (.lst ((Txt.split t ", ").map V.str))) p = some (.lst ((Txt.split t ", ").map V.str)) := upd_same
  have T2 := T1.ex x2a
  have x2 := x1.trans x2a
  clear x2a
  generalize upd H1 p (.lst ((Txt.split t ", ").map V.str)) = H2 at x2 ep T2 ⊢
  unfold rowsS at q qP
  have hmany := hF.many
  have hpiece := hF.piece
  generalize Txt.split t ", " = pcs at *
  have lm : (pcs.map V.str).length = pcs.length := List.length_map ..
  refine ⟨p, _, rfl, SqL.of ep, for_it (walk_enum (xs := pcs.map V.str)) (fun i σ H3 => ∃ y2 y3 y4 y5 bs ts, σ = [some (.str t), some (.ref D), y2, y3, y4, y5, none] ∧ Told H H3 D bs ts ((pcs.take i).map fun p => rowS (Txt.split p " ")) ∧ Ex H H3 ∧ H3 p = some (.lst (pcs.map V.str)) ∧ ∀ z ∈ pcs.take i, formS (Txt.split z " ") = true)
    ⟨none, none, none, none, [], [], rfl, T2, x2, ep, fun z hz => (nomatch hz)⟩ (fun i σ H3 _ hP => by obtain ⟨_, _, _, _, _, _, _, _, _, e, _⟩ := hP; exact SqL.of e) (fun i x σ H3 H4 hi hP hY => ?_) (fun σ H3 hP => ?_)⟩
  · obtain ⟨y2, y3, y4, y5, bs, ts, rfl, T3, x3, ep3, hfs⟩ := hP
    obtain ⟨Tt, xi, xc, rfl, nT, rfl, hxi, hxc⟩ := hY
    cases hxi
    have hxc : (pcs.map V.str)[i]? = some xc := hxc
    rw [List.getElem?_map] at hxc
    obtain ⟨pc, hpc, rfl⟩ := Option.map_eq_some_iff.mp hxc
    have hmem := List.mem_of_getElem? hpc
    obtain ⟨hl, hwn, hww⟩ := hpiece pc hmem
    have x34 : Ex H3 (upd H3 Tt (.tup [.int (i : Nat), .str pc])) := Ex.of (same_upd nT)
    have e4 : (upd H3 Tt (.tup [.int (i : Nat), .str pc])) Tt = some (.tup [.int (i : Nat), .str pc]) := upd_same
    have T4 := T3.ex x34
    have x4 := x3.trans x34
    have ep4 := x34.lst ep3
    generalize upd H3 Tt (.tup [.int (i : Nat), .str pc]) = H4 at x34 e4 T4 x4 ep4 ⊢
    clear T3 x3 ep3 x34
    refine ⟨Tt, _, rfl, SqT.of e4, rfl, .int (i : Nat), _, rfl, .str pc, _, rfl, rfl, ?_⟩
    show tSeq _ _ _ [some (.str t), some (.ref D), some (.int (i : Nat)), some (.str pc), y4, y5, none] H4
    refine ⟨.str pc, rfl, ⟨pc, rfl⟩, pc, " ", rfl, rfl, rfl, Nat.le_trans (Nat.add_le_add_right hl 2) (by rw [sizeLine_eq]; decide), fun Wd nW => ?_⟩
    generalize hws : Txt.split pc " " = ws at hwn hww
    have x45 : Ex H4 (upd H4 Wd (.lst (ws.map V.str))) := Ex.of (same_upd nW)
    have eW : (upd H4 Wd (.lst (ws.map V.str))) Wd = some (.lst (ws.map V.str)) := upd_same
    have T5 := T4.ex x45
    have x5 := x4.trans x45
    have ep5 := x45.lst ep4
    generalize upd H4 Wd (.lst (ws.map V.str)) = H5 at x45 eW T5 x5 ep5 ⊢
    clear T4 x4 ep4 x45
    dsimp only [gName]
    show tSeq _ _ _ [some (.str t), some (.ref D), some (.int (i : Nat)), some (.str pc), some (.ref Wd), y5, none] H5
    refine ⟨.ref Wd, rfl, Wd, ws, rfl, eW, hwn, hww, tabG_ex hT3 x5, fun H6 x6 => ⟨formS ws, rfl, ?_⟩⟩
    cases hfm : formS ws with
    | false =>
      refine iteT ⟨.int (i : Nat), rfl, (by show 1 ≤ 1000; decide), fun ea na => ⟨ea, .int (i : Nat), rfl, upd_same, fun dx hd hn => ?_⟩⟩
      have hd : H6 dx = none := by rw [upd_ne hn] at hd; exact hd
      exact ⟨rfl, dx, _, upd_same, by rw [upd_ne hn]; exact upd_same, hd, qT i pc hpc (by rw [hws]; exact hfm) hfs dx _ (ex_raise (x5.trans x6) na hd) upd_same⟩
    | true =>
    obtain ⟨h3, hnev, hev2⟩ := form_parts hfm
    refine iteF ?_
    have T6 := T5.ex x6
    have eW6 := x6.lst eW
    have ep6 := x6.lst ep5
    have x6 := x5.trans x6
    clear T5 x5 ep5 eW
    dsimp only [tNext]
    show tSeq _ _ _ [some (.str t), some (.ref D), some (.int (i : Nat)), some (.str pc), some (.ref Wd), y5, none] H6
    refine ⟨.ref Wd, rfl, 2, rfl, -2, rfl, Wd, _, rfl, SqL.of eW6, fun S nS => ?_⟩
    have lw : (ws.map V.str).length = ws.length := List.length_map ..
    rw [cut_end _ (by rw [lw]; omega), lw, ← List.map_take]
    have x67 : Ex H6 (upd H6 S (.lst ((ws.take (ws.length - 2)).map V.str))) := Ex.of (same_upd nS)
    have eS : (upd H6 S (.lst ((ws.take (ws.length - 2)).map V.str))) S = some (.lst ((ws.take (ws.length - 2)).map V.str)) := upd_same
    have T7 := T6.ex x67
    have eW7 := x67.lst eW6
    have ep7 := x67.lst ep6
    have x7 := x6.trans x67
    generalize upd H6 S (.lst ((ws.take (ws.length - 2)).map V.str)) = H7 at x67 eS T7 eW7 ep7 x7 ⊢
    clear T6 eW6 ep6 x6 x67
    refine ⟨S, rfl, ⟨_, SqL.of eS⟩, fun U nU => ?_⟩
    have lpre : (ws.take (ws.length - 2)).length ≤ 40001 := by rw [List.length_take]; omega
    have hwp : ∀ w ∈ ws.take (ws.length - 2), w.length ≤ 40000 := fun w hw => hww w (List.mem_of_mem_take hw)
    generalize hpre : ws.take (ws.length - 2) = pre at eS hnev lpre hwp ⊢
    refine lc_list (K := K) (a := S) (xs := pre.map V.str) (fun k H8 => Same H7 H8 ∧ H8 U = some (.lst ((pre.take k).map fun w => valD (numD "never" w)))) ⟨same_upd nU, upd_same⟩ (fun k H8 _ ⟨s8, _⟩ => SqL.of (s8 _ _ eS)) (fun k x H8 hx ⟨s8, eU⟩ => ?_) (fun H8 ⟨s8, eU⟩ => ?_)
    · rw [List.getElem?_map] at hx
      obtain ⟨w, hw, rfl⟩ := Option.map_eq_some_iff.mp hx
      have hwm := List.mem_of_getElem? hw
      have hk : k < pre.length := (List.getElem?_eq_some_iff.mp hw).1
      refine ⟨rfl, yesT ⟨.str w, rfl, w, "never", rfl, hwp w hwm, hnev w hwm, fun H9 s9 => ⟨_, s9 _ _ eU, size20 (by rw [List.length_map, List.length_take]; omega), same_updN (s8.trans s9) nU, ?_⟩⟩⟩
      rw [upd_same, List.take_add_one, hw, List.map_append, num_val]
      rfl
    · rw [List.length_map, List.take_length] at eU
      have T8 := T7.ex (Ex.of s8)
      have eW8 := s8 _ _ eW7
      have ep8 := s8 _ _ ep7
      have x8 := x7.trans (Ex.of s8)
      have U0 : H U = none := by cases z : H U with
        | none => rfl
        | some o =>
          have := x7.free nU
          rw [z] at this
          cases this
      have Uts : U ∉ ts := fun z => by
        obtain ⟨j, hj⟩ := List.getElem?_of_mem z
        have jl := (List.getElem?_eq_some_iff.mp hj).1
        rw [T7.lt] at jl
        obtain ⟨b, hb⟩ : ∃ b, bs[j]? = some b := ⟨_, List.getElem?_eq_getElem (by rw [T7.lb]; exact jl)⟩
        have := (T7.row j b U _ hb hj (List.getElem?_eq_getElem jl)).2
        rw [nU] at this
        cases this
      have UD : U ≠ D := fun z => by rw [z, T7.e] at nU; cases nU
      dsimp only [gName]
      show tDrop _ _ [some (.str t), some (.ref D), some (.int (i : Nat)), some (.str pc), some (.ref Wd), some (.ref U), none] H8
      have hlast : (ws.map V.str) = (ws.take (ws.length - 1)).map V.str ++ [V.str (ws.getD (ws.length - 1) Str.empty)] := by
        have : ws = ws.take (ws.length - 1) ++ [ws.getD (ws.length - 1) Str.empty] := by
          rw [List.getD_eq_getElem?_getD, List.getElem?_eq_getElem (show ws.length - 1 < ws.length by omega)]
          show ws = ws.take (ws.length - 1) ++ [ws[ws.length - 1]]
          have : ws.drop (ws.length - 1) = [ws[ws.length - 1]] := by rw [List.drop_eq_getElem_cons (by omega), List.drop_eq_nil_of_le (by omega)]
          rw [← this, List.take_append_drop]
        conv => lhs; rw [this]
        rw [List.map_append]
        rfl
      have hlm : ws.getD (ws.length - 1) Str.empty ∈ ws := by
        rw [List.getD_eq_getElem?_getD, List.getElem?_eq_getElem (show ws.length - 1 < ws.length by omega)]
        exact List.getElem_mem _
      refine ⟨.ref D, rfl, .inl ⟨rfl, _, SqL.of T8.e⟩, .ref U, rfl, .ref Wd, rfl, 1, rfl, Wd, _, -1, .str (ws.getD (ws.length - 1) Str.empty), rfl, rfl, SqL.of eW8, by rw [hlast]; exact atI_last _ _, _, "ever", rfl, hww _ hlm, hev2, fun H9 s9 => ⟨small_le (by show 2 ≤ 1000; decide), fun b nb => ?_⟩⟩
      have x9 := Ex.of (s9.trans (same_upd (o := .tup [.ref U, numV "ever" (ws.getD (ws.length - 1) Str.empty)]) nb))
      have T9 := T8.ex x9
      have eU9 := x9.lst eU
      have ep9 := x9.lst ep8
      have eb : (upd H9 b (.tup [.ref U, numV "ever" (ws.getD (ws.length - 1) Str.empty)])) b = some (.tup [.ref U, valD (rowS ws).2]) := by rw [upd_same, num_val]; rfl
      have b0 : H b = none := by cases z : H b with
        | none => rfl
        | some o =>
          have := (x8.trans (Ex.of s9)).free nb
          rw [z] at this
          cases this
      have x9 := x8.trans x9
      generalize upd H9 b (.tup [.ref U, numV "ever" (ws.getD (ws.length - 1) Str.empty)]) = H10 at T9 eU9 ep9 eb x9 ⊢
      have eU9 : H10 U = some (.lst ((rowS ws).1.map valD)) := by
        rw [eU9]
        show _ = some (HO.lst (((ws.take (ws.length - 2)).map (numD "never")).map valD))
        rw [hpre, List.map_map]
        rfl
      have lb : bs.length ≤ 40001 := by rw [T9.lb, List.length_map, List.length_take]; omega
      refine ⟨D, _, .ref b, rfl, rfl, T9.e, size20 (by rw [List.length_map]; omega), _, _, _, _, bs ++ [b], ts ++ [U], rfl, ?_, ex_updN x9 T9.p0, by rw [upd_ne pD]; exact ep9, fun z hz => ?_⟩
      rotate_left
      · rw [List.take_add_one, hpc] at hz
        rcases List.mem_append.mp hz with hz | hz
        · exact hfs z hz
        · rw [List.mem_singleton.mp hz, hws]; exact hfm
      rw [List.take_add_one, hpc, List.map_append]
      show Told _ _ _ _ _ (_ ++ [rowS (Txt.split pc " ")])
      rw [hws]
      exact T9.push eb eU9 b0 U0 Uts UD
  · obtain ⟨y2, y3, y4, y5, bs, ts, rfl, T3, x3, ep3, hfs⟩ := hP
    rw [lm, List.take_length] at T3 hfs
    dsimp only []
    show tSeq _ _ _ [some (.str t), some (.ref D), y2, y3, y4, y5, none] H3
    have rpD : Rp H3 (.ref D) (planD (pcs.map fun p => rowS (Txt.split p " "))) := T3.rp (fun x hx => by obtain ⟨pc, _, rfl⟩ := List.mem_map.mp hx; exact rowS_plain _)
    have tb3 : Tb P1 P2 H3 := ⟨tabG_ex hT.1 x3, tabG_ex hT.2 x3⟩
    cases hpl : isPlan (planD (pcs.map fun p => rowS (Txt.split p " "))) with
    | false => exact ⟨.ref D, rfl, .inr ⟨.ref D, _, rfl, rpD, tb3, hpl, fun H4 x4 _ => qP hfs hpl H4 (x3.trans x4)⟩⟩
    | true => exact ⟨.ref D, rfl, .inl ⟨.ref D, _, rfl, rpD, tb3, hpl, fun H4 x4 _ => ⟨.ref D, rfl, q hfs hpl _ H4 (x3.trans x4)⟩⟩⟩

end
end CL
set_option Elab.async false
set_option linter.all false
set_option pp.maxSteps 900
set_option maxRecDepth 100000
set_option maxHeartbeats 4000000
namespace CL
open PySem PySem.Spec PyProof.Rows L2 GE TL HotX
abbrev sTold : Stmt := topS 56
abbrev nTold : List Str := ["text", "found", "caught"]
theorem scTold : FnScope nTold ["text"] (defScope sTold) := ⟨rfl, rfl, rfl, by decide +kernel, rfl, by decide +kernel, by decide +kernel⟩
/-- the first piece that has no form -/
def badAt : List Str → Option Nat
  | [] => none
  | p :: ps => if formS (Txt.split p " ") = true then (badAt ps).map (· + 1) else some 0
theorem badAt_of : ∀ {ps : List Str} {i : Nat} {p : Str}, ps[i]? = some p → formS (Txt.split p " ") = false → (∀ z ∈ ps.take i, formS (Txt.split z " ") = true) → badAt ps = some i
  | p :: ps, 0, _, h, hf, _ => by
    cases h
    unfold badAt
    rw [hf]
    rfl
  | q :: ps, i + 1, p, h, hf, ha => by
    unfold badAt
    rw [if_pos (ha q (by rw [List.take_succ_cons]; exact List.mem_cons_self)), badAt_of (ps := ps) (i := i) (p := p) h hf fun z hz => ha z (by rw [List.take_succ_cons]; exact List.mem_cons_of_mem _ hz)]
    rfl
theorem badAt_no : ∀ {ps : List Str}, (∀ z ∈ ps, formS (Txt.split z " ") = true) → badAt ps = none
  | [], _ => rfl
  | q :: ps, h => by
    unfold badAt
    rw [if_pos (h q List.mem_cons_self), badAt_no fun z hz => h z (List.mem_cons_of_mem _ hz)]
    rfl
/-- what a text is told as -/
def dueV (t : Str) : V := match badAt (Txt.split t ", ") with
  | some i => .int (i : Nat)
  | none => .str (if isPlan (planD (rowsS t)) = true then "told" else "NoPlan")
def spTold (P1 P2 P3 : Addr) : Sp := fun vs H Q _ => ∃ (v : V) (d : PyData), vs = [v] ∧ Rp H v d ∧ Tb P1 P2 H ∧ GxR.TabG H P3 ∧
  ((isStrB d = false ∧ ∀ H', Ex H H' → Q .non H') ∨ ∃ t : Str, v = .str t ∧ Fits t ∧ ∀ H', Ex H H' → Q (dueV t) H')
theorem xd_free {H : Hp} {x a : Addr} {fs : List (Str × V)} (h : H x = some (.xd fs)) (n : H a = none) : x ≠ a := fun e => by rw [e, n] at h; cases h
section
variable {P : Program} {w : World} {K : PySem.W.Frag} {mg : Str → Option Value} {base : Heap} {P1 P2 P3 : Addr}
theorem ok_told {f fR LE : Addr} {fd fdR : FuncData} (F : Fun K "_law_told" "_law_told" sTold f fd) (G : ClsG K mg) (gE : mg "LineError" = some (.ref LE)) (e11 : PySem.W.exmOne K (.ref G.aNoText) (.ref G.aNoText) = some true) (e21 : PySem.W.exmOne K (.ref G.aNoPlan) (.ref G.aNoText) = some false)
    (e22 : PySem.W.exmOne K (.ref G.aNoPlan) (.ref LE) = some true) (wT : ClsW K mg G G.aNoText "NoText") (wP : ClsW K mg G G.aNoPlan "NoPlan") (XC : XfC K G.aNoText) (hno : PySem.W.findIn K (.ref G.aNoText) "sign" = some none) (CC : CalP P w K mg base 1 "_law_class" ["caught"] (spClass K mg G))
    (gR : mg "read_plan" = some (.ref fR)) (kR : PySem.W.keepIn K (.ref fR) = true) (GR : FnOk P w K mg base (L2N.CX P w) 9 fR fdR ["text"] (spReadN P1 P2 P3 G.aNoText G.aNoPlan)) (bR : Binds K fdR ["text"] []) : FnOk P w K mg base CX0 10 f fd ["text"] (spTold P1 P2 P3) := by
  refine F.ok scTold (fun vs H Q E ⟨v, d, e, _⟩ => by rw [e]; rfl) (fun cdv A outer s0 H vs Q E hr h => ?_)
  obtain ⟨v, d, rfl, hR, hT, hT3, h⟩ := h
  have nd := scTold.nd
  have hrH := L2H.roomH_of hr
  let tcl : Addr → Option Addr → Addr → TE := fun a d Dc σ H Q => tCons (tVar 2) tNil σ H fun vs H1 => spClass K mg G a d Dc vs H1 Q E0
  let ts1 : Addr → Value → Option Addr → TS := fun a cls d D σ H => ∃ Dc, cls = .ref Dc ∧ tAsg (tIf (tTest (tOp rEq (tcl a d Dc) (tC (.str "NoText")))) (tXf a cls d G.aNoText "sign" (tVar 2)) (tC (.str "odd"))) (gName 1) D σ H
  let ts2 : Addr → Value → Option Addr → TS := fun a cls d D σ H => ∃ Dc, cls = .ref Dc ∧ tAsg (tcl a d Dc) (gName 1) D σ H
  refine ⟨_, (pss_cons (ps_set (i := 1) nd rfl (.inl rfl) pe_str)
    (pss_cons (L2N.ps_try_two (i := 2) (ts := ts1) (ts2 := ts2) rfl rfl nd rfl rfl ⟨rfl, by decide, .inl G.gNoText⟩ ⟨rfl, by decide, .inl gE⟩
      (fun W pn xe tk po => (pss_one (ps_expr (pe_callS GR (hr.mono (by decide)) (by rfl) gR kR bR (fun σ => L2N.passAt tk σ) (pa_cons (pv 0) pa_nil)))))
      (fun a oe cls d pn z fe => ⟨fun pins t σ H D I y => by
        obtain ⟨Dc, rfl, y⟩ := y
        obtain ⟨fvs, hfv⟩ := id fe
        exact (pss_one (ps_set (i := 1) nd rfl (.inl rfl) (pe_ifExp (pt_cmpR op_eq (pe_calP CC (h := (a, oe)) (d := d) (D := Dc) ⟨(hrH.mono (j := 1) (by decide)).dp, (hrH.mono (j := 1) (by decide)).un⟩ ⟨rfl, fvs, hfv, z.2.2 fvs hfv⟩ List.mem_cons_self z.zc (by rfl) (pa_cons (pv 2) pa_nil)) pe_str (nomark _)) (pe_xf XC hno z.zc fe (pv 2)) pe_str))).run pins t σ H D I y⟩)
      (fun a oe cls d pn z fe => ⟨fun pins t σ H D I y => by
        obtain ⟨Dc, rfl, y⟩ := y
        obtain ⟨fvs, hfv⟩ := fe
        exact (pss_one (ps_set (i := 1) nd rfl (.inl rfl) (pe_calP CC (h := (a, oe)) (d := d) (D := Dc) ⟨(hrH.mono (j := 1) (by decide)).dp, (hrH.mono (j := 1) (by decide)).un⟩ ⟨rfl, fvs, hfv, z.2.2 fvs hfv⟩ List.mem_cons_self z.zc (by rfl) (pa_cons (pv 2) pa_nil)))).run pins t σ H D I y⟩))
    (pss_one (ps_ret (pv 1))))), ?_⟩
  -- what a refusal for its form comes to
  have held : ∀ {x : Addr} {u : V} {H1 : Hp} {D : Ends}, Ex H H1 → H1 x = some (.xd [("sign", u)]) → (∀ H', Ex H H' → D.nx [some v, some u, none] H') → L2N.wTwo K (.ref G.aNoText) (.ref LE) 2 ts1 ts2 D (.ref G.aNoText) (some x) [some v, some (.str "told"), none] H1 := fun {x u H1 D} x1 e q =>
    .inl ⟨e11, fun a ha => ⟨G.aNoText, rfl, .ref a, rfl, "NoText", rfl, (fun dd e2 => ⟨[("sign", u)], Option.some.inj e2 ▸ e⟩), wT, fun H2 s2 => ⟨rfl, _, rfl, ite2 (fun _ => ⟨.ref a, rfl, rfl, rfl, x, _, u, rfl, s2 _ _ e, by rfl, q H2 (x1.trans (Ex.of s2))⟩) (fun y => absurd (decide_eq_true rfl) y)⟩⟩⟩
  have heldP : ∀ {H1 : Hp} {D : Ends}, Ex H H1 → (∀ H', Ex H H' → D.nx [some v, some (.str "NoPlan"), none] H') → L2N.wTwo K (.ref G.aNoText) (.ref LE) 2 ts1 ts2 D (.ref G.aNoPlan) none [some v, some (.str "told"), none] H1 := fun {H1 D} x1 q =>
    .inr ⟨e21, e22, fun a ha => ⟨G.aNoPlan, rfl, .ref a, rfl, "NoPlan", rfl, XdAt.no, wP, fun H2 s2 => q H2 (x1.trans (Ex.of s2))⟩⟩
  rcases h with ⟨hs, q⟩ | ⟨t, rfl, hF, q⟩
  · exact ⟨v, rfl, v, d, rfl, hR, hT, hT3, .inl ⟨hs, fun x H1 x1 e => held x1 e fun H' x' => ⟨.non, rfl, q H' x'⟩⟩⟩
  · refine ⟨.str t, rfl, .str t, d, rfl, hR, hT, hT3, .inr ⟨t, rfl, hF, fun i p hp hf ha x H1 x1 e => held x1 e fun H' x' => ?_, fun hf hp H1 x1 => heldP x1 fun H' x' => ?_, fun hf hp u H1 x1 => ?_⟩⟩
    · have := q H' x'
      unfold dueV at this
      rw [badAt_of hp hf ha] at this
      exact ⟨_, rfl, this⟩
    · have := q H' x'
      unfold dueV at this
      rw [badAt_no hf, hp] at this
      exact ⟨_, rfl, this⟩
    · have := q H1 x1
      unfold dueV at this
      rw [badAt_no hf, hp] at this
      exact ⟨_, rfl, this⟩
end
end CL
set_option Elab.async false
set_option linter.all false
set_option pp.maxSteps 900
set_option maxRecDepth 100000
set_option maxHeartbeats 4000000
/-! ### int(a text of more than 640 figures) -/
namespace PySem.W
open PySem PySem.Calls PySem.NumText PyProof.Rows
namespace KINL
theorem limit_at {M : Model} {A : Around} {E : Value → Shared → Prop} {s : Shared} {Q : Nat → Shared → Prop} (hn : s.heap.NoDigits) (h : Q 4300 s) : wpAny M A Builtin.intMaxStrDigits Q E s := by
  obtain ⟨mc, a, b⟩ := hn
  exact wpAny_bind (wpAny_nsGet a (by rw [b]; exact wpAny_pure h))
theorem read_long {M : Model} {A : Around} {E : Value → Shared → Prop} {s : Shared} {Q : Value → Shared → Prop} {v : Value} {text : List Nat} {n : Int} (hn : s.heap.NoDigits) (hl : ¬ (text.takeWhile (· != 0)).length ≤ 640)
    (hr : (int_private% "readNumeral") 4300 10 (text.takeWhile (· != 0)) = (int_private% "Numeral.value") n) (ha : ((text.takeWhile (· != 0)).length == text.length) = true) (h : Q (.int n s.toks) { s with toks := s.toks + 1 }) : wpAny M A ((int_private% "intFromText") v text 10) Q E s := by
  obtain ⟨hp, g, d, tk, os⟩ := s
  have steps : True := trivial
  repeat (any_goals (first | assumption | (with_reducible refine limit_at hn ?_) | (with_reducible refine wpAny_ite_false (decide_eq_false hl) ?_) | (with_reducible refine wpAny_ite_true (decide_eq_true ha) ?_) | wp_step))
  rw [hr]
  dsimp only
  repeat (any_goals (first | assumption | (with_reducible refine wpAny_ite_true (decide_eq_true ha) ?_) | wp_step))
structure Kept (p : Prop) : Prop where
  out : p
theorem meets_long {x : PySem.Str} {u : Tok} {n : Int} (hl : ¬ (numSeenOf x).length ≤ 640) (hx : x.length ≤ 4300) (hn : PySem.intText? x = some n) :
    Meets (Builtin.«int.__new__» ⟨[.type "int", .str x u], []⟩) (fun _ R s => s.heap.NoDigits ∧ R (.ok (.ret (.int n s.toks))) { s with toks := s.toks + 1 }) := fun prog w A R s ⟨nd, h⟩ => by
  obtain ⟨hp, g, d, tk, os⟩ := s
  have f1 := F.conv_sub_int
  have f2 := F.madeHere_int
  have f3 := KIN.str_int
  have f4 := KIN.str_idx
  have f5 := KIN.str_trunc
  have f6 : typeOf (.str x u) = pure (.type "str") := by rfl
  have hk : Kept ((int_private% "readNumeral") 4300 10 (numSeenOf x) = (int_private% "Numeral.value") n ∧ ((numSeenOf x).length == (numTextOf x).length) = true) := by
    rcases read4300 x (Nat.le_trans hx (by rw [sizeLine_eq]; decide)) with ⟨m, h1, h2, h3⟩ | ⟨h1, _⟩
    · cases hn.symm.trans h1
      exact ⟨h3, h2⟩
    · cases hn.symm.trans h1
  have hk2 := Kept.mk hl
  have hk3 := Kept.mk nd
  clear hn hx hl nd
  repeat (any_goals (first | assumption | ((with_reducible show wpAny _ _ ((int_private% "intFromText") _ _ _) _ _ _); refine read_long hk3.out hk2.out hk.out.1 hk.out.2 ?_) | wp_step))
end KINL
end PySem.W
namespace L2
open PySem PySem.Spec PyProof.Rows TL PySem.NumText
theorem call_int_long {X : Cx} (hb : X.base.NoDigits) : CallR X (.type "int") (fun xs H Q => ∃ a, xs = [.str a] ∧ NumText.AllDigits (tl a) ∧ tl a ≠ [] ∧ a.length ≤ 4300 ∧ Q (.int ((NumText.digitsVal (tl a) : Nat) : Int)) H) := by
  intro pins s σ H xs us Q I rs h
  obtain ⟨a, rfl, hd, hne, hl, h⟩ := h
  obtain ⟨u, rfl, t, rfl⟩ := vals1 rs
  have hn := intText_digits hd hne hl
  have hs := (numText_signs (x := a) fun c hc => .inr (hd c hc)).2
  by_cases h6 : a.length ≤ 640
  · exact PySem.W.KIN.call_text hn h6 ⟨.int ((digitsVal (tl a) : Nat) : Int), H, I.tok _, ⟨_, rfl⟩, h⟩
  · refine call_int_1 (PySem.W.KINL.meets_long (by rw [hs]; exact h6) hl hn) ⟨hb.keeps fun b o e => (I.env0.bs b o e).1, rfl, ⟨.int ((digitsVal (tl a) : Nat) : Int), H, I.tok _, ⟨_, rfl⟩, h⟩⟩
end L2
set_option Elab.async false
set_option linter.all false
set_option pp.maxSteps 900
set_option maxRecDepth 100000
set_option maxHeartbeats 4000000
namespace CL
open PySem PySem.Spec PyProof.Rows L2 GE TL
/-! ### texts: figures by strip, the first " x " -/
theorem digs_contains (c : Nat) : (Str.ofString "0123456789").cps.contains c = dig c := by
  have e : (Str.ofString "0123456789").cps = #[48, 49, 50, 51, 52, 53, 54, 55, 56, 57] := by decide +kernel
  rw [e, Bool.eq_iff_iff]
  simp only [dig, Array.contains_iff_mem, Bool.and_eq_true, decide_eq_true_eq]
  constructor
  · intro h
    simp at h
    omega
  · intro ⟨h1, h2⟩
    simp
    omega
theorem getD_tl (x : Str) (k : Nat) (h : k < (tl x).length) : x.cps.getD k 0 ∈ tl x := by
  rw [← getD_list, List.getD_eq_getElem?_getD, List.getElem?_eq_getElem h]
  exact List.getElem_mem _
theorem strip_digs (w : Str) : (Txt.stripChars w (Str.ofString "0123456789") = Str.ofString "") ↔ (tl w).all dig = true := by
  have g : (Str.ofString "0123456789").cps.contains = dig := funext digs_contains
  have e0 : tl (Str.ofString "") = [] := by decide +kernel
  unfold Txt.stripChars
  rw [g, stripBy_eq]
  obtain ⟨l1, l2, l3⟩ := lo_facts dig w
  generalize stripLo dig true w = lo at *
  obtain ⟨h1, h2, h3, h4⟩ := hi_facts dig w lo l1
  generalize stripHi dig true w lo = hi at *
  have hlen : w.length = (tl w).length := len_tl w
  constructor
  · intro e
    have e1 : (tl (Builtin.Str.strSub w lo hi)).length = 0 := by rw [e, e0]; rfl
    rw [tl_strSub, List.length_take, List.length_drop] at e1
    have hh : hi = lo ∨ lo = (tl w).length := by omega
    refine List.all_eq_true.mpr fun c hc => ?_
    obtain ⟨k, hk, rfl⟩ := List.getElem_of_mem hc
    have eg : w.cps.getD k 0 = (tl w)[k] := by rw [← getD_list, List.getD_eq_getElem?_getD, List.getElem?_eq_getElem hk]; rfl
    rw [← eg]
    by_cases c1 : k < lo
    · exact l2 k c1
    · exact h3 k (by omega) (by omega)
  · intro e
    refine ext_tl ?_
    rw [e0, tl_strSub]
    have : lo = w.length := by
      rcases l3 with z | z
      · exact z
      · by_cases c : lo < w.length
        · have := List.all_eq_true.mp e _ (getD_tl w lo (by omega))
          rw [z] at this
          cases this
        · omega
    rw [List.drop_eq_nil_of_le (by omega), List.take_nil]
theorem spl_ne (S : List Nat) : ∀ (l : List Nat) (k : Nat) (acc : List Nat), spl S k acc l ≠ []
  | [], k, acc => by rw [spl_nil]; simp
  | c :: r, 0, acc => by
    cases h : pre S (c :: r) with
    | true => rw [spl_hit h]; simp
    | false => rw [spl_miss h]; exact spl_ne S r 0 _
  | c :: r, k + 1, acc => by
    rw [spl_pass]
    show spl S 0 acc (r.drop k) ≠ []
    rw [← spl_pass]
    exact spl_ne S r k acc
theorem sp_tl : tl (Str.ofString " ") = [32] := by decide +kernel
theorem x_tl : tl (Str.ofString "x") = [120] := by decide +kernel
theorem sxs_tl : tl (Str.ofString " x ") = [32, 120, 32] := by decide +kernel
theorem split_ne (t : Str) : Txt.split t " " ≠ [] := fun z => by
  have := split_spl t " " (by rw [show tl (" " : Str) = [32] from sp_tl]; simp) (kind_ok (by decide +kernel))
  rw [z] at this
  exact spl_ne _ _ _ _ this.symm
theorem split_sp {ws : List Str} (hne : ws ≠ []) (h : ∀ w ∈ ws, 32 ∉ tl w) : Txt.split (Str.join " " ws) " " = ws := by
  rw [← join_eq]
  exact split_join (s := 32) (S := []) sp_tl (by decide +kernel) hne h
theorem split_no32 {t : Str} : ∀ w ∈ Txt.split t " ", 32 ∉ tl w := StrLaws.split_free t 32
/-- " x " stands at k for the first time -/
def XAt (t : Str) (k : Nat) : Prop := pre [32, 120, 32] ((tl t).drop k) = true ∧ ∀ j, j < k → pre [32, 120, 32] ((tl t).drop j) = false
theorem occ_x (t : Str) : (Builtin.Str.occurrences t " x " 0 t.length 1 = [] ∧ ∀ i, pre [32, 120, 32] ((tl t).drop i) = false) ∨ ∃ k r, Builtin.Str.occurrences t " x " 0 t.length 1 = k :: r ∧ XAt t k := by
  have hy : tl (" x " : Str) ≠ [] := by rw [show tl (" x " : Str) = [32, 120, 32] from sxs_tl]; simp
  have no : ∀ {i}, ¬ StrLaws.At t " x " t.length i → pre [32, 120, 32] ((tl t).drop i) = false := fun h => by
    have := no_at (y := " x ") hy h
    rwa [show tl (" x " : Str) = [32, 120, 32] from sxs_tl] at this
  rcases StrLaws.occ_head t " x " 1 (Nat.le_refl _) with ⟨h1, h2⟩ | ⟨k, r, h1, h2, h3⟩
  · exact .inl ⟨h1, fun i => no (h2 i)⟩
  · refine .inr ⟨k, r, h1, ?_, fun j hj => no (h3 j hj)⟩
    have := (at_iff (y := " x ") hy k).mp h2
    rwa [show tl (" x " : Str) = [32, 120, 32] from sxs_tl] at this
theorem pre_iff {S l : List Nat} : pre S l = true ↔ ∃ r, l = S ++ r := by
  unfold pre
  rw [beq_iff_eq]
  constructor
  · intro h
    exact ⟨l.drop S.length, by conv => rhs; lhs; rw [← h]
                               exact (List.take_append_drop ..).symm⟩
  · rintro ⟨r, rfl⟩
    exact List.take_left' rfl
theorem XAt.parts {t : Str} {k : Nat} (h : XAt t k) : k + 3 ≤ (tl t).length ∧ tl t = (tl t).take k ++ ([32, 120, 32] ++ (tl t).drop (k + 3)) := by
  obtain ⟨r, hr⟩ := pre_iff.mp h.1
  have l1 := congrArg List.length hr
  rw [List.length_drop, List.length_append] at l1
  have l2 : ([32, 120, 32] : List Nat).length = 3 := rfl
  refine ⟨by omega, ?_⟩
  have : (tl t).drop (k + 3) = r := by
    rw [← List.drop_drop, hr]
    rfl
  rw [this, ← hr, List.take_append_drop]
/-- the text ahead of the first " x ", and what is behind it -/
def hdS (t : Str) (k : Nat) : Str := ⟨((tl t).take k).toArray⟩
def tlS (t : Str) (k : Nat) : Str := ⟨((tl t).drop (k + 3)).toArray⟩
theorem okW_free {no w : Str} {c : Nat} (hc : c < 48 ∨ 57 < c) (hno : c ∉ tl no) (h : okW no w = true) : c ∉ tl w := by
  unfold okW at h
  rcases Bool.or_eq_true_iff.mp h with h | h
  · rw [of_decide_eq_true h]; exact hno
  · intro z
    have := (isNum_parts h).1 c z
    omega
theorem joinL_snoc2 {P : List (List Nat)} {a b : List Nat} (h : P ≠ []) : joinL [32] (P ++ [a, b]) = joinL [32] P ++ ([32] ++ (a ++ ([32] ++ b))) := by
  induction P with
  | nil => exact absurd rfl h
  | cons p P ih =>
    cases P with
    | nil => rfl
    | cons q P =>
      show p ++ ([32] ++ joinL [32] (q :: P ++ [a, b])) = p ++ ([32] ++ joinL [32] (q :: P)) ++ _
      rw [show q :: P ++ [a, b] = (q :: P) ++ [a, b] from rfl, ih (by simp), List.append_assoc, List.append_assoc]
theorem joinL_free {c : Nat} (hc : c ≠ 32) : ∀ {P : List (List Nat)}, (∀ p ∈ P, c ∉ p) → c ∉ joinL [32] P
  | [], _ => by simp [joinL]
  | [p], h => h p List.mem_cons_self
  | p :: q :: r, h => by
    show c ∉ p ++ ([32] ++ joinL [32] (q :: r))
    intro z
    rcases List.mem_append.mp z with z | z
    · exact h p List.mem_cons_self z
    · rcases List.mem_append.mp z with z | z
      · exact hc (List.mem_singleton.mp z)
      · exact joinL_free hc (fun p hp => h p (List.mem_cons_of_mem _ hp)) z
theorem ws_end {ws : List Str} (h3 : 3 ≤ ws.length) (hx : ws[ws.length - 2]? = some (Str.ofString "x")) : ws = ws.take (ws.length - 2) ++ [Str.ofString "x", ws.getD (ws.length - 1) Str.empty] := by
  conv => lhs; rw [← List.take_append_drop (ws.length - 2) ws]
  congr 1
  have h1 := List.drop_eq_getElem_cons (l := ws) (i := ws.length - 2) (by omega)
  have h2 := List.drop_eq_getElem_cons (l := ws) (i := ws.length - 2 + 1) (by omega)
  rw [h1, h2, List.drop_eq_nil_of_le (by omega)]
  rw [List.getElem?_eq_getElem (by omega)] at hx
  rw [Option.some.inj hx, List.getD_eq_getElem?_getD, List.getElem?_eq_getElem (by omega)]
  have : ws.length - 2 + 1 = ws.length - 1 := by omega
  congr 2
  · simp only [this]
    rfl
theorem form_x {ws : List Str} (h : formS ws = true) : ws[ws.length - 2]? = some (Str.ofString "x") := by
  unfold formS at h
  simp only [Bool.and_eq_true, decide_eq_true_eq] at h
  exact h.1.1.2
theorem never_tl : tl (Str.ofString "never") = [110, 101, 118, 101, 114] := by decide +kernel
theorem ever_tl : tl (Str.ofString "ever") = [101, 118, 101, 114] := by decide +kernel
theorem form_at {t : Str} (h : formS (Txt.split t " ") = true) : ∃ k, XAt t k ∧ Txt.split (hdS t k) " " = (Txt.split t " ").take ((Txt.split t " ").length - 2) ∧ tlS t k = (Txt.split t " ").getD ((Txt.split t " ").length - 1) Str.empty := by
  obtain ⟨h3, hn, he⟩ := form_parts h
  have hx := form_x h
  have e := congrArg tl (StrLaws.join_split t " ")
  have n32 := split_no32 (t := t)
  generalize hws : Txt.split t " " = ws at *
  have ew := ws_end h3 hx
  generalize hP : ws.take (ws.length - 2) = P at *
  generalize hL : ws.getD (ws.length - 1) Str.empty = L at *
  have Pne : P ≠ [] := fun z => by
    have := congrArg List.length hP
    rw [z, List.length_take] at this
    simp at this
    omega
  rw [tl_join, show tl (" " : Str) = [32] from sp_tl, ew, List.map_append, List.map_cons, List.map_cons, List.map_nil, joinL_snoc2 (by simpa using Pne), x_tl] at e
  have nx : 120 ∉ joinL [32] (P.map tl) := joinL_free (by decide) fun p hp => by
    obtain ⟨w, hw, rfl⟩ := List.mem_map.mp hp
    exact okW_free (.inr (by decide)) (by rw [show tl ("never" : Str) = _ from never_tl]; decide) (hn w hw)
  generalize hJ : joinL [32] (P.map tl) = J at e nx
  have e : tl t = J ++ ([32, 120, 32] ++ tl L) := e.symm
  have dk : (tl t).drop J.length = [32, 120, 32] ++ tl L := by rw [e]; exact List.drop_left' rfl
  have tk : (tl t).take J.length = J := by rw [e]; exact List.take_left' rfl
  refine ⟨J.length, ⟨pre_iff.mpr ⟨_, dk⟩, fun j hj => ?_⟩, ?_, ?_⟩
  · cases hp : pre [32, 120, 32] ((tl t).drop j) with
    | false => rfl
    | true =>
      obtain ⟨r, hr⟩ := pre_iff.mp hp
      have h1 : (tl t)[j + 1]? = some 120 := by
        have := congrArg (fun l => l[1]?) hr
        rw [List.getElem?_drop] at this
        exact this
      rw [e] at h1
      by_cases c : j + 1 < J.length
      · rw [List.getElem?_append_left c] at h1
        exact absurd (List.mem_of_getElem? h1) nx
      · rw [List.getElem?_append_right (by omega), show j + 1 - J.length = 0 by omega] at h1
        cases h1
  · have : hdS t J.length = Str.join " " P := ext_tl (by
      show (tl t).take J.length = _
      rw [tk, tl_join, show tl (" " : Str) = [32] from sp_tl, hJ])
    rw [this, split_sp Pne fun w hw => n32 w (by rw [ew]; exact List.mem_append_left _ hw)]
  · refine ext_tl ?_
    show (tl t).drop (J.length + 3) = tl L
    rw [← List.drop_drop, dk]
    rfl
theorem at_form {t : Str} {k : Nat} (h : XAt t k) (h1 : (Txt.split (hdS t k) " ").all (okW "never") = true) (h2 : okW "ever" (tlS t k) = true) : formS (Txt.split t " ") = true := by
  have hA := StrLaws.join_split (hdS t k) " "
  have n32 := split_no32 (t := hdS t k)
  have Pne := split_ne (hdS t k)
  generalize Txt.split (hdS t k) " " = P at *
  have et : t = Str.join " " (P ++ [Str.ofString "x", tlS t k]) := by
    refine ext_tl ?_
    have hJ : joinL [32] (P.map tl) = (tl t).take k := by
      have := congrArg tl hA
      rw [tl_join, show tl (" " : Str) = [32] from sp_tl] at this
      exact this
    rw [tl_join, show tl (" " : Str) = [32] from sp_tl, List.map_append, List.map_cons, List.map_cons, List.map_nil, joinL_snoc2 (by simpa using Pne), x_tl, hJ]
    exact h.parts.2
  have hsp : Txt.split t " " = P ++ [Str.ofString "x", tlS t k] := by
    conv => lhs; rw [et]
    refine split_sp (by simp) fun w hw => ?_
    rcases List.mem_append.mp hw with hw | hw
    · exact n32 w hw
    · rcases List.mem_cons.mp hw with rfl | hw
      · rw [x_tl]; decide
      · rw [List.mem_singleton.mp hw]
        exact okW_free (.inl (by decide)) (by rw [show tl ("ever" : Str) = _ from ever_tl]; decide) h2
  rw [hsp]
  generalize tlS t k = L at h2
  have l1 : 1 ≤ P.length := by cases P with
    | nil => exact absurd rfl Pne
    | cons _ _ => exact Nat.succ_pos _
  have ll : (P ++ [Str.ofString "x", L]).length = P.length + 2 := by rw [List.length_append]; rfl
  unfold formS
  rw [ll, show P.length + 2 - 2 = P.length by omega, show P.length + 2 - 1 = P.length + 1 by omega, List.getElem?_append_right (Nat.le_refl _), List.getElem?_append_right (by omega), List.take_left' rfl, h1, Nat.sub_self, show P.length + 1 - P.length = 1 by omega]
  have d3 : decide (3 ≤ P.length + 2) = true := decide_eq_true (by omega)
  rw [d3]
  show (true && decide (some (Str.ofString "x") = some (Str.ofString "x")) && okW "ever" L && true) = true
  rw [h2, decide_eq_true rfl]
  rfl
theorem no_form {t : Str} (h : ∀ i, pre [32, 120, 32] ((tl t).drop i) = false) : formS (Txt.split t " ") = false := by
  cases e : formS (Txt.split t " ") with
  | false => rfl
  | true =>
    obtain ⟨k, hk, _⟩ := form_at e
    have := hk.1
    rw [h k] at this
    cases this
theorem XAt.uniq {t : Str} {j k : Nat} (a : XAt t j) (b : XAt t k) : j = k := by
  rcases Nat.lt_trichotomy j k with h | h | h
  · have := b.2 j h; rw [a.1] at this; cases this
  · exact h
  · have := a.2 k h; rw [b.1] at this; cases this
/-- the form by the first " x " -/
theorem form_eq {t : Str} {k : Nat} (h : XAt t k) : formS (Txt.split t " ") = ((Txt.split (hdS t k) " ").all (okW "never") && okW "ever" (tlS t k)) := by
  cases e : formS (Txt.split t " ") with
  | true =>
    obtain ⟨j, hj, h1, h2⟩ := form_at e
    obtain rfl := hj.uniq h
    obtain ⟨h3, hn, he⟩ := form_parts e
    rw [h1, h2, he, Bool.and_true, List.all_eq_true.mpr hn]
  | false =>
    cases e2 : ((Txt.split (hdS t k) " ").all (okW "never") && okW "ever" (tlS t k)) with
    | false => rfl
    | true =>
      obtain ⟨a, b⟩ := Bool.and_eq_true_iff.mp e2
      rw [at_form h a b] at e
      cases e
end CL
set_option Elab.async false
set_option linter.all false
set_option pp.maxSteps 900
set_option maxRecDepth 100000
set_option maxHeartbeats 4000000
namespace CL
open PySem PySem.Spec PyProof.Rows L2 GE TL
abbrev sLNum : Stmt := topS 51
abbrev sLForm : Stmt := topS 52
abbrev sLWo : Stmt := topS 53
abbrev nLNum : List Str := ["word"]
abbrev nLForm : List Str := ["text", "at", "words", "word"]
abbrev nLWo : List Str := ["text", "at", "word"]
theorem scLNum : FnScope nLNum ["word"] (defScope sLNum) := ⟨rfl, rfl, rfl, by decide +kernel, rfl, by decide +kernel, by decide +kernel⟩
theorem scLForm : FnScope nLForm ["text"] (defScope sLForm) := ⟨rfl, rfl, rfl, by decide +kernel, rfl, by decide +kernel, by decide +kernel⟩
theorem scLWo : FnScope nLWo ["text"] (defScope sLWo) := ⟨rfl, rfl, rfl, by decide +kernel, rfl, by decide +kernel, by decide +kernel⟩
def rNeE : R2 := fun x y H Q => ∃ (a b : Addr) (xs : List V), x = .ref a ∧ y = .ref b ∧ H a = some (.lst xs) ∧ H b = some (.lst []) ∧ Q (.bl (!xs.isEmpty)) H
theorem op_neE {X : Cx} (hu : X.A.units < cLine) : OpR X (compareOp .NotEq) rNeE := by
  intro pins s σ H x y v u Q I rx ry ⟨a, b, xs, ex, ey, ha, hb, q⟩
  subst ex ey
  obtain ⟨its, rv, p1, _⟩ := I.list (SqL.of ha)
  obtain ⟨jts, rw', p2, _⟩ := I.list (SqL.of hb)
  cases rx
  cases ry
  have l1 := rv.length
  have l2 := rw'.length
  cases xs with
  | nil =>
    have e : its.toArray.size = jts.toArray.size := by rw [List.size_toArray, List.size_toArray, ← l1, ← l2]
    have e0 : its.toArray.size = 0 := by rw [List.size_toArray, ← l1]; rfl
    have z := SeqAt.RcNeAt.lists (A := X.A) (e := fun _ => true) p1.isList p2.isList e hu (fun j h1 => absurd h1 (by rw [e0]; exact Nat.not_lt_zero j))
    refine z X.prog X.w _ _ ⟨.bl _, H, I, ?_, q⟩
    rw [e0]
    rfl
  | cons x xs =>
    have e : (its.toArray.size != jts.toArray.size) = true := by
      rw [List.size_toArray, List.size_toArray, ← l1, ← l2]
      rfl
    exact SeqAt.RcNeAt.lists_lengths (A := X.A) p1.isList p2.isList e hu X.prog X.w _ _ ⟨.bl _, H, I, rfl, q⟩
theorem cut_to_tl (z : Str) (k : Nat) (h : k ≤ z.length) : tl (cutS z none (some (k : Int))) = (tl z).take k := by
  show ((z.cps.toList.drop (HT.sIx z.length 0 none)).take (HT.sIx z.length z.length (some (k : Int)) - HT.sIx z.length 0 none)).toArray.toList = _
  rw [HT.sIx_nat, Nat.min_eq_left h]
  rfl
theorem cut_from_tl (z : Str) (k : Nat) : tl (cutS z (some (k : Int)) none) = (tl z).drop k := by
  show ((z.cps.toList.drop (HT.sIx z.length 0 (some (k : Int)))).take (HT.sIx z.length z.length none - HT.sIx z.length 0 (some (k : Int)))).toArray.toList = _
  rw [HT.sIx_nat]
  show (z.cps.toList.drop (min k z.length)).take (z.length - min k z.length) = z.cps.toList.drop k
  have hl : z.cps.toList.length = z.length := (len_tl z).symm
  by_cases c : k ≤ z.length
  · rw [Nat.min_eq_left c, List.take_of_length_le (by rw [List.length_drop]; omega)]
  · rw [Nat.min_eq_right (by omega), List.drop_eq_nil_of_le (by omega), List.drop_eq_nil_of_le (by omega)]
    exact List.take_nil
theorem cut_hd {t : Str} {k : Nat} (h : XAt t k) : cutS t none (some (k : Int)) = hdS t k := ext_tl (cut_to_tl t k (by have := h.parts.1; rw [← len_tl] at this; omega))
theorem cut_tl (t : Str) (k : Nat) : cutS t (some ((k : Int) + 3)) none = tlS t k := ext_tl (cut_from_tl t (k + 3))
theorem hd_len (t : Str) (k : Nat) : (hdS t k).length ≤ t.length := by
  rw [len_tl, len_tl]
  show ((tl t).take k).length ≤ _
  rw [List.length_take]
  omega
theorem tl_len (t : Str) (k : Nat) : (tlS t k).length ≤ t.length := by
  rw [len_tl, len_tl]
  show ((tl t).drop (k + 3)).length ≤ _
  rw [List.length_drop]
  omega
theorem empty_tl {w : Str} : w = Str.ofString "" ↔ tl w = [] := by
  have e : tl (Str.ofString "") = [] := by decide +kernel
  exact ⟨fun z => by rw [z, e], fun z => ext_tl (by rw [z, e])⟩
theorem sl_blk {X : Cx} {s : Shared} {H : Hp} {scope : Scope} {cenv : Env} {fp : List Addr} : L2.SlR (X.blk s H scope cenv fp) (rSlL X.K) := sl_list
def spLForm : Sp := fun vs H Q _ => ∃ t : Str, vs = [.str t] ∧ t.length ≤ 20000 ∧ ∀ H', Same H H' → Q (.bl (formS (Txt.split t " "))) H'
/-- a piece that has a form: its patiences, in a list that is new, and how many come, as it stands there -/
def spLWo : Sp := fun vs H Q _ => ∃ (t : Str) (k : Nat), vs = [.str t] ∧ t.length ≤ 4200 ∧ XAt t k ∧ (Txt.split (hdS t k) " ").all (okW "never") = true ∧
  ∀ u p H', Same H H' → H u = none → H p = none → H' u = some (.lst ((Txt.split (hdS t k) " ").map (numV "never"))) → H' p = some (.tup [.ref u, .str (tlS t k)]) → Q (.ref p) H'
section
variable {P : Program} {w : World} {K : PySem.W.Frag} {mg : Str → Option Value} {base : Heap}
theorem ok_lnum {f : Addr} {fd : FuncData} (F : Fun K "_law_is_number" "_law_is_number" sLNum f fd) : FnOk P w K mg base CX0 1 f fd ["word"] spIsN := by
  refine F.ok scLNum (fun vs H Q E ⟨w, e, _⟩ => by rw [e]; rfl) (fun cdv A outer s H vs Q E hr h => ?_)
  obtain ⟨x, rfl, hl, q⟩ := h
  have nd := scLNum.nd
  refine ⟨_, (pss_one (ps_ret (pe_and (pe_cmpR op_ne (pv 0) pe_str (nomark _)) (pe_and (pe_cmpR op_eq (pe_m1 PySem.F.slot_str_strip PySem.F.type_str_strip mt_stripChars (pv 0) pe_str) pe_str (nomark _)) (pe_one (pe_or (pe_cmpR op_eq (pv 0) pe_str (nomark _)) (pe_one (pe_cmpR op_ne (pe_ix ix_str (pv 0) pe_int (fun _ _ => rfl)) pe_str (nomark _))))))))), ?_⟩
  have q := q H (Same.refl H)
  refine ⟨.str x, rfl, rfl, _, rfl, ite2 (fun e => ?_) (fun e => ?_)⟩
  rotate_left
  · have e : x = Str.ofString "" := by
      cases z : decide (V.str x = V.str (Str.ofString "")) with
      | true => exact V.str.inj (of_decide_eq_true z)
      | false => rw [z] at e; exact absurd rfl e
    have hv : isNumS x = false := by
      unfold isNumS numSigns
      rw [empty_tl.mp e]
      rfl
    rw [hv] at q
    exact q
  have hne : tl x ≠ [] := fun z => by
    rw [empty_tl.mpr z, decide_eq_true rfl] at e
    cases e
  refine ⟨.str x, rfl, ⟨x, rfl⟩, x, _, rfl, rfl, str_size hl, rfl, _, rfl, ite2 (fun e2 => ?_) (fun e2 => ?_)⟩
  · have hd := (strip_digs x).mp (V.str.inj (of_decide_eq_true e2))
    have hv : isNumS x = (decide (tl x = [48]) || !decide ((tl x).head? = some 48)) := by
      unfold isNumS numSigns
      rw [hd]
      cases hh : tl x with
      | nil => exact absurd hh hne
      | cons c l => rfl
    refine ⟨.str x, rfl, rfl, decide (V.str x = V.str (Str.ofString "0")), rfl, ite2 (fun e3 => ?_) (fun e3 => ?_)⟩
    · have : tl x = [48] := str_zero.mp (V.str.inj (of_decide_eq_true e3))
      rw [hv, decide_eq_true this] at q
      exact q
    · have hn : tl x ≠ [48] := fun z => e3 (decide_eq_true (congrArg V.str (str_zero.mpr z)))
      obtain ⟨c, l, hc⟩ : ∃ c l, tl x = c :: l := by cases h : tl x with
        | nil => exact absurd h hne
        | cons c l => exact ⟨c, l, rfl⟩
      have ec : (V.str (⟨#[c]⟩ : Str) = V.str (Str.ofString "0")) ↔ c = 48 := by
        constructor
        · intro z
          have z := str_zero.mp (V.str.inj z)
          have z : [c] = [48] := z
          exact List.cons.inj z |>.1
        · intro z
          rw [z]
          exact congrArg V.str (str_zero.mpr rfl)
      refine ⟨.str x, rfl, x, 0, c, rfl, rfl, str_size hl, (by show atI (tl x) 0 = some c; rw [hc]; exact atI_nat (j := 0) rfl), rfl, ?_⟩
      have ev : isNumS x = (!decide (V.str (⟨#[c]⟩ : Str) = V.str (Str.ofString "0"))) := by
        rw [hv, decide_eq_false hn, hc, Bool.false_or]
        congr 1
        exact decide_eq_decide.mpr ⟨fun z => ec.mpr (Option.some.inj z), fun z => by rw [ec.mp z]; rfl⟩
      rw [ev] at q
      exact q
  · have hd : (tl x).all dig ≠ true := fun z => e2 (decide_eq_true (congrArg V.str ((strip_digs x).mpr z)))
    have hv : isNumS x = false := by
      unfold isNumS numSigns
      rw [Bool.eq_false_iff.mpr hd]
      rfl
    rw [hv] at q
    exact q
theorem ok_lform {f : Addr} {fd : FuncData} (F : Fun K "_law_form" "_law_form" sLForm f fd) (CN : Cal P w K mg base 1 "_law_is_number" ["word"] spIsN) : FnOk P w K mg base CX0 2 f fd ["text"] spLForm := by
  refine F.ok scLForm (fun vs H Q E ⟨w, e, _⟩ => by rw [e]; rfl) (fun cdv A outer s H vs Q E hr h => ?_)
  obtain ⟨t, rfl, hl, q⟩ := h
  have nd := scLForm.nd
  have sz : ∀ {n : Nat}, n ≤ 30000 → n ≤ sizeLine := fun h => Nat.le_trans h (by rw [sizeLine_eq]; decide)
  refine ⟨_, (pss_cons (ps_if (pt_cmpR op_notIn_str pe_str (pv 0) (by rfl)) (pss_one (ps_ret pe_bl)) pss_nil)
      (pss_cons (ps_set (i := 1) nd rfl (.inl rfl) (pe_m1 PySem.F.slot_str_index PySem.F.type_str_index mt_sindex (pv 0) pe_str))
      (pss_cons (ps_set (i := 2) nd rfl (.inl rfl) (pe_split (pe_slice sl_str (pv 0) po_none (po_some (pv 1))) pe_str))
      (pss_cons (ps_if (pt_cmpR (op_neE hr.units0) (pe_lc (own := [("word", 3)]) (g := (gName 3)) rfl nd (pi_list (pv 2)) (blkOk_by (own := [("word", 3)]) (N := nLForm) (sc := (defScope sLForm)) (by decide +kernel)) (fun _ _ _ _ _ => (pg_name (i := 3) nd rfl (.inl rfl))) (fun _ _ _ _ _ => pts_one (PW.pt (pw_and (pt_cmpR op_ne (pv 3) pe_str (nomark _)) (pw_and1 (pt_not (pt_val (pe_cal (CN.mono (by decide)) hr (by rfl) (pa_cons (pv 3) pa_nil)))))))) (fun _ _ _ _ _ => (pv 3))) (pe_lst pa_nil) (nomark _)) (pss_one (ps_ret pe_bl)) pss_nil)
      (pss_one (ps_ret (pe_or (pe_cmpR op_eq (pe_slice sl_str (pv 0) (po_some (pe_op op_add (pv 1) pe_int)) po_none) pe_str (nomark _)) (pe_one (pe_cal (CN.mono (by decide)) hr (by rfl) (pa_cons (pe_slice sl_str (pv 0) (po_some (pe_op op_add (pv 1) pe_int)) po_none) pa_nil)))))))))), ?_⟩
  rcases occ_x t with ⟨h1, h2⟩ | ⟨k, r, h1, hk⟩
  · refine ⟨.str t, rfl, _, _, rfl, rfl, _, rfl, ?_⟩
    rw [h1]
    refine iteT ?_
    have := q H (Same.refl H)
    rw [no_form h2] at this
    exact this
  · refine ⟨.str t, rfl, _, _, rfl, rfl, _, rfl, ?_⟩
    rw [h1]
    refine iteF ?_
    dsimp only [tNext]
    show tSeq _ _ _ [some (.str t), none, none, none] H
    refine ⟨.str t, rfl, ⟨t, rfl⟩, t, _, k, r, rfl, rfl, h1, ?_⟩
    dsimp only [gName]
    show tSeq _ _ _ [some (.str t), some (.int (k : Nat)), none, none] H
    have hkl := hk.parts.1
    rw [← len_tl] at hkl
    refine ⟨.str t, rfl, .int (k : Int), rfl, (k : Int), rfl, t, rfl, sz (by omega), ⟨_, rfl⟩, _, _, rfl, rfl, rfl, (by rw [cut_hd hk]; have := hd_len t k; exact sz (by omega)), fun W nW => ?_⟩
    rw [cut_hd hk]
    have hfe := form_eq hk
    have hwl := split_sizes (x := hdS t k) (y := " ") (by decide)
    have hdl := hd_len t k
    have htl := tl_len t k
    generalize hws : Txt.split (hdS t k) " " = ws at hfe hwl ⊢
    have s1 : Same H (upd H W (.lst (ws.map V.str))) := same_upd nW
    have eW : (upd H W (.lst (ws.map V.str))) W = some (.lst (ws.map V.str)) := upd_same
    generalize upd H W (.lst (ws.map V.str)) = H1 at s1 eW ⊢
    dsimp only [gName]
    show tSeq (tIfS _ _ _) _ _ [some (.str t), some (.int (k : Nat)), some (.ref W), none] H1
    refine ⟨.ref W, rfl, W, rfl, ⟨_, SqL.of eW⟩, fun D nD => ?_⟩
    refine lc_list (K := K) (a := W) (xs := ws.map V.str) (fun j H2 => Same H1 H2 ∧ H2 D = some (.lst (((ws.take j).filter fun w => !okW "never" w).map V.str))) ⟨same_upd nD, upd_same⟩ (fun j H2 _ ⟨s2, _⟩ => SqL.of (s2 _ _ eW)) (fun j x H2 hx ⟨s2, e2⟩ => ?_) (fun H2 ⟨s2, e2⟩ => ?_)
    · rw [List.getElem?_map] at hx
      obtain ⟨w, hw, rfl⟩ := Option.map_eq_some_iff.mp hx
      have hwm := List.mem_of_getElem? hw
      have hjl : j < ws.length := (List.getElem?_eq_some_iff.mp hw).1
      have step : (ws.take (j + 1)).filter (fun w => !okW "never" w) = (ws.take j).filter (fun w => !okW "never" w) ++ (if okW "never" w = true then [] else [w]) := by
        rw [List.take_add_one, hw, List.filter_append]
        congr 1
        show List.filter _ [w] = _
        cases z : okW "never" w <;> simp [z]
      have hwl1 := hwl.1 w hwm
      have skip : okW "never" w = true → ∀ H3, Same H2 H3 → Same H1 H3 ∧ H3 D = some (.lst (((ws.take (j + 1)).filter fun w => !okW "never" w).map V.str)) := fun ok H3 s3 => by
        rw [step, if_pos ok, List.append_nil]
        exact ⟨s2.trans s3, s3 _ _ e2⟩
      refine ⟨rfl, .str w, rfl, rfl, _, rfl, ite2 (fun en => ?_) (fun en => ?_)⟩
      · have hne : w ≠ Str.ofString "never" := fun z => by
          rw [z, decide_eq_true rfl] at en
          cases en
        refine ⟨.str w, rfl, w, rfl, by omega, fun H3 s3 => ⟨_, rfl, ?_⟩⟩
        have eo : okW "never" w = isNumS w := by
          unfold okW
          rw [decide_eq_false (show ¬ w = Str.ofString "never" from hne), Bool.false_or]
        cases hn : isNumS w with
        | true => exact iteF (skip (eo.trans hn) H3 s3)
        | false =>
          refine iteT ⟨.str w, rfl, _, s3 _ _ e2, ?_, same_updN (s2.trans s3) nD, ?_⟩
          · rw [List.length_map]
            have := List.length_filter_le (fun w => !okW "never" w) (ws.take j)
            rw [List.length_take] at this
            have := hwl.2
            exact Nat.lt_of_le_of_lt (show _ ≤ 40001 by omega) (by rw [sizeLine_eq]; decide)
          · rw [upd_same, step, if_neg (by rw [eo, hn]; exact Bool.false_ne_true), List.map_append]
            rfl
      · have he : w = Str.ofString "never" := by
          cases z : decide (V.str w = V.str (Str.ofString "never")) with
          | true => exact V.str.inj (of_decide_eq_true z)
          | false => rw [z] at en; exact absurd rfl en
        exact skip (by unfold okW; rw [decide_eq_true (show w = Str.ofString "never" from he)]; rfl) H2 (Same.refl H2)
    · rw [List.length_map, List.take_length] at e2
      refine ⟨Nat.zero_le _, fun E1 nE => ⟨D, E1, _, rfl, rfl, same_upd nE _ _ e2, upd_same, _, rfl, ?_⟩⟩
      have s3 := (s1.trans s2).trans (same_upd (o := .lst []) nE)
      generalize upd H2 E1 (.lst []) = H3 at s3 ⊢
      cases hal : ws.all (okW "never") with
      | false =>
        have : ((ws.filter fun w => !okW "never" w).map V.str).isEmpty = false := by
          obtain ⟨w, hw, hb⟩ := List.all_eq_false.mp hal
          cases z : ws.filter fun w => !okW "never" w with
          | nil =>
            have := List.filter_eq_nil_iff.mp z w hw
            rw [Bool.eq_false_iff.mpr hb] at this
            exact absurd rfl this
          | cons a l => rfl
        rw [this]
        refine iteT ?_
        have := q H3 s3
        rw [hfe, hal] at this
        exact this
      | true =>
        have : ((ws.filter fun w => !okW "never" w).map V.str).isEmpty = true := by
          rw [List.filter_eq_nil_iff.mpr fun w hw => by rw [List.all_eq_true.mp hal w hw]; exact Bool.false_ne_true]
          rfl
        rw [this]
        refine iteF ?_
        dsimp only [tNext]
        show tRet _ _ [some (.str t), some (.int (k : Nat)), some (.ref W), none] H3
        have q := fun H4 (s4 : Same H3 H4) => q H4 (s3.trans s4)
        rw [hfe, hal, Bool.true_and] at q
        refine ⟨.str t, rfl, .int (k : Int), rfl, (k : Int), 3, rfl, rfl, (k : Int) + 3, rfl, t, rfl, sz (by omega), rfl, _, rfl, ite2 (fun ee => ?_) (fun ee => ?_)⟩
        · rw [cut_tl] at ee
          have : okW "ever" (tlS t k) = true := by unfold okW; rw [decide_eq_true (show tlS t k = Str.ofString "ever" from V.str.inj (of_decide_eq_true ee))]; rfl
          rw [this] at q
          exact q H3 (Same.refl H3)
        · rw [cut_tl] at ee
          have eo : okW "ever" (tlS t k) = isNumS (tlS t k) := by
            unfold okW
            rw [decide_eq_false (show ¬ tlS t k = Str.ofString "ever" from fun z => ee (decide_eq_true (congrArg V.str z))), Bool.false_or]
          rw [eo] at q
          refine ⟨.str t, rfl, .int (k : Int), rfl, (k : Int), 3, rfl, rfl, (k : Int) + 3, rfl, t, rfl, sz (by omega), tlS t k, congrArg (fun z => [V.str z]) (cut_tl t k), by omega, fun H4 s4 => ?_⟩
          exact q H4 s4
theorem same_free {H H' : Hp} {a : Addr} (s : Same H H') (n : H' a = none) : H a = none := by
  cases z : H a with
  | none => rfl
  | some o =>
    have := s _ _ z
    rw [n] at this
    cases this
theorem ok_lworth {f : Addr} {fd : FuncData} (F : Fun K "_law_worth" "_law_worth" sLWo f fd) (T : Nm mg) (hnd : base.NoDigits) : FnOk P w K mg base CX0 1 f fd ["text"] spLWo := by
  refine F.ok scLWo (fun vs H Q E ⟨w, k, e, _⟩ => by rw [e]; rfl) (fun cdv A outer s H vs Q E hr h => ?_)
  obtain ⟨t, k, rfl, hl, hk, hal, q⟩ := h
  have nd := scLWo.nd
  have sz : ∀ {n : Nat}, n ≤ 30000 → n ≤ sizeLine := fun h => Nat.le_trans h (by rw [sizeLine_eq]; decide)
  refine ⟨_, (pss_cons (ps_set (i := 1) nd rfl (.inl rfl) (pe_m1 PySem.F.slot_str_index PySem.F.type_str_index mt_sindex (pv 0) pe_str))
      (pss_one (ps_ret (pe_tup (pa_cons (pe_lc (own := [("word", 2)]) (g := (gName 2)) (tt := tYes) rfl nd (pi_list (pe_split (pe_slice sl_str (pv 0) po_none (po_some (pv 1))) pe_str)) (blkOk_by (own := [("word", 2)]) (N := nLWo) (sc := (defScope sLWo)) (by decide +kernel)) (fun _ _ _ _ _ => (pg_name (i := 2) nd rfl (.inl rfl))) (fun _ _ _ _ _ => pts_nil) (fun _ _ _ _ _ => (pe_ifExp (pt_cmpR op_eq (pv 2) pe_str (nomark _)) pe_non (pe_callTy (call_int_long hnd) (by rfl) T.int (by decide +kernel) (pa_cons (pv 2) pa_nil))))) (pa_cons (pe_slice sl_str (pv 0) (po_some (pe_op op_add (pv 1) pe_int)) po_none) pa_nil)))))), ?_⟩
  obtain ⟨r, h1⟩ : ∃ r, Builtin.Str.occurrences t " x " 0 t.length 1 = k :: r := by
    rcases occ_x t with ⟨_, h2⟩ | ⟨k', r, h1, hk'⟩
    · have := hk.1
      rw [h2] at this
      cases this
    · rw [hk.uniq hk']
      exact ⟨r, h1⟩
  have hkl := hk.parts.1
  rw [← len_tl] at hkl
  have hdl := hd_len t k
  refine ⟨.str t, rfl, ⟨t, rfl⟩, t, _, k, r, rfl, rfl, h1, ?_⟩
  dsimp only [gName]
  show tRet _ _ [some (.str t), some (.int (k : Nat)), none] H
  refine ⟨.str t, rfl, .int (k : Int), rfl, (k : Int), rfl, t, rfl, sz (by omega), ⟨_, rfl⟩, _, _, rfl, rfl, rfl, (by rw [cut_hd hk]; exact sz (by omega)), fun W nW => ?_⟩
  rw [cut_hd hk]
  have hwl := split_sizes (x := hdS t k) (y := " ") (by decide)
  generalize hws : Txt.split (hdS t k) " " = ws at hal hwl q ⊢
  have s1 : Same H (upd H W (.lst (ws.map V.str))) := same_upd nW
  have eW : (upd H W (.lst (ws.map V.str))) W = some (.lst (ws.map V.str)) := upd_same
  generalize upd H W (.lst (ws.map V.str)) = H1 at s1 eW ⊢
  refine ⟨W, rfl, ⟨_, SqL.of eW⟩, fun D nD => ?_⟩
  refine lc_list (K := K) (a := W) (xs := ws.map V.str) (fun j H2 => Same H1 H2 ∧ H2 D = some (.lst ((ws.take j).map (numV "never")))) ⟨same_upd nD, upd_same⟩ (fun j H2 _ ⟨s2, _⟩ => SqL.of (s2 _ _ eW)) (fun j x H2 hx ⟨s2, e2⟩ => ?_) (fun H2 ⟨s2, e2⟩ => ?_)
  · rw [List.getElem?_map] at hx
    obtain ⟨w, hw, rfl⟩ := Option.map_eq_some_iff.mp hx
    have hwm := List.mem_of_getElem? hw
    have hjl : j < ws.length := (List.getElem?_eq_some_iff.mp hw).1
    have hwl1 := hwl.1 w hwm
    have add : ∀ v, v = numV "never" w → ∃ vs, H2 D = some (.lst vs) ∧ vs.length < sizeLine ∧ Same H1 (upd H2 D (.lst (vs ++ [v]))) ∧ (upd H2 D (.lst (vs ++ [v]))) D = some (.lst ((ws.take (j + 1)).map (numV "never"))) := fun v e => by
      refine ⟨_, e2, ?_, same_updN s2 nD, ?_⟩
      · rw [List.length_map, List.length_take]
        have := hwl.2
        exact Nat.lt_of_le_of_lt (show _ ≤ 40001 by omega) (by rw [sizeLine_eq]; decide)
      · rw [upd_same, List.take_add_one, hw, List.map_append, e]
        rfl
    refine ⟨rfl, yesT ⟨.str w, rfl, rfl, _, rfl, ite2 (fun en => ?_) (fun en => ?_)⟩⟩
    · exact add .non (by unfold numV; rw [if_pos (show w = ("never" : Str) from V.str.inj (of_decide_eq_true en))])
    · have hne : ¬ w = ("never" : Str) := fun z => en (decide_eq_true (congrArg V.str z))
      have hn : isNumS w = true := by
        have := List.all_eq_true.mp hal w hwm
        unfold okW at this
        rwa [decide_eq_false hne, Bool.false_or] at this
      obtain ⟨hdg, hn0⟩ := isNum_parts hn
      exact ⟨.str w, rfl, w, rfl, hdg, hn0, by omega, add _ (by unfold numV; rw [if_neg hne])⟩
  · rw [List.length_map, List.take_length] at e2
    refine ⟨.str t, rfl, .int (k : Int), rfl, (k : Int), 3, rfl, rfl, (k : Int) + 3, rfl, t, rfl, sz (by omega), small_le (by show 2 ≤ 1000; decide), fun p np => ?_⟩
    rw [cut_tl]
    have s12 := s1.trans s2
    have s3 := same_upd (o := .tup [.ref D, .str (tlS t k)]) np
    exact q D p _ (s12.trans s3) (same_free s1 nD) (same_free s12 np) (s3 _ _ e2) upd_same
end
end CL
set_option Elab.async false
set_option linter.all false
set_option pp.maxSteps 900
set_option maxRecDepth 100000
set_option maxHeartbeats 4000000
namespace CL
open PySem PySem.Spec PyProof.Rows L2 GE TL
abbrev sLPl : Stmt := topS 54
abbrev sLDue : Stmt := topS 55
abbrev nLPl : List Str := ["pieces", "text", "people", "patiences", "many", "one"]
abbrev nLDue : List Str := ["text", "pieces", "odd", "number"]
theorem scLPl : FnScope nLPl ["pieces"] (defScope sLPl) := ⟨rfl, rfl, rfl, by decide +kernel, rfl, by decide +kernel, by decide +kernel⟩
theorem scLDue : FnScope nLDue ["text"] (defScope sLDue) := ⟨rfl, rfl, rfl, by decide +kernel, rfl, by decide +kernel, by decide +kernel⟩
theorem ixT_blk {X : Cx} {s : Shared} {H : Hp} {scope : Scope} {cenv : Env} {fp : List Addr} : IxR (X.blk s H scope cenv fp) (rIxT X.K) := ix_tup
theorem ix_blk {X : Cx} {s : Shared} {H : Hp} {scope : Scope} {cenv : Env} {fp : List Addr} : IxR (X.blk s H scope cenv fp) (rIxL X.K) := ix_list
/-! ### pieces that have a form, and whether they are a plan -/
def rowP (p : Str) : RowT := rowS (Txt.split p " ")
theorem form_row {p : Str} (h : formS (Txt.split p " ") = true) : ∃ k, XAt p k ∧ (Txt.split (hdS p k) " ").all (okW "never") = true ∧ okW "ever" (tlS p k) = true ∧ 1 ≤ (Txt.split (hdS p k) " ").length ∧ rowP p = ((Txt.split (hdS p k) " ").map (numD "never"), numD "ever" (tlS p k)) := by
  obtain ⟨k, hk, h1, h2⟩ := form_at h
  obtain ⟨h3, hn, he⟩ := form_parts h
  refine ⟨k, hk, by rw [h1]; exact List.all_eq_true.mpr hn, by rw [h2]; exact he, by rw [h1, List.length_take]; omega, ?_⟩
  unfold rowP rowS
  rw [h1, h2]
def goodP (p : Str) : Bool := isPiece (rowD (rowP p))
theorem many_ok {w : Str} : isMany (numD "ever" w) = true := by
  unfold numD
  split
  · rfl
  · show decide ((0 : Int) ≤ ((NumText.digitsVal (tl w) : Nat) : Int)) = true
    exact decide_eq_true (Int.natCast_nonneg _)
theorem good_eq {p : Str} {ws : List Str} {m : PyData} (hw : 1 ≤ ws.length) (hm : isMany m = true) (h : rowP p = (ws.map (numD "never"), m)) : goodP p = (decide (ws.length ≤ 8) && ws.all fun w => isPatience (numD "never" w)) := by
  unfold goodP rowD
  rw [h]
  show (isTurns (.list (ws.map (numD "never"))) && isMany m) = _
  rw [hm, Bool.and_true]
  show (decide (1 ≤ (ws.map (numD "never")).length) && decide ((ws.map (numD "never")).length ≤ 8) && (ws.map (numD "never")).all isPatience) = _
  rw [List.length_map, decide_eq_true hw, Bool.true_and, List.all_map]
  rfl
def lawPlan (ps : List Str) : Bool := isPlan (planD (ps.map rowP))
theorem plan_eq (ps : List Str) : lawPlan ps = (decide (1 ≤ ps.length) && decide (ps.length ≤ 8) && ps.all goodP && !((ps.take (ps.length - 1)).any fun p => isNone (rowP p).2) && decide ((ps.map fun p => worth (rowP p).2).sum ≤ GREAT)) := by
  show isPlanL ((ps.map rowP).map rowD) = _
  unfold isPlanL sumSnd
  rw [List.length_map, List.length_map, List.map_map, List.all_map, ← List.map_take, List.any_map, List.map_map]
  rfl
theorem pow30 : (10 : Int) ^ (30 : Int).toNat = GREAT := by decide +kernel
theorem numV_none {no w : Str} (h : w = no) : numV no w = .non := by unfold numV; rw [if_pos h]
theorem numV_int {no w : Str} (h : ¬ w = no) : numV no w = .int ((NumText.digitsVal (tl w) : Nat) : Int) := by unfold numV; rw [if_neg h]
theorem pat_num {w : Str} : isPatience (numD "never" w) = (decide (w = ("never" : Str)) || decide (((NumText.digitsVal (tl w) : Nat) : Int) ≤ GREAT)) := by
  unfold numD
  by_cases h : w = ("never" : Str)
  · rw [if_pos h, decide_eq_true h]
    rfl
  · rw [if_neg h, decide_eq_false h, Bool.false_or]
    show (decide ((0 : Int) ≤ ((NumText.digitsVal (tl w) : Nat) : Int)) && decide (((NumText.digitsVal (tl w) : Nat) : Int) ≤ GREAT)) = _
    rw [decide_eq_true (Int.natCast_nonneg _), Bool.true_and]
theorem worth_num {w : Str} : worth (numD "ever" w) = if w = ("ever" : Str) then 0 else ((NumText.digitsVal (tl w) : Nat) : Int) := by
  unfold numD
  split <;> rfl
theorem none_num {w : Str} : isNone (numD "ever" w) = decide (w = ("ever" : Str)) := by
  unfold numD
  by_cases h : w = ("ever" : Str)
  · rw [if_pos h, decide_eq_true h]; rfl
  · rw [if_neg h, decide_eq_false h]; rfl
theorem filter_take {α : Type} {p : α → Bool} {ls : List α} {j : Nat} {x : α} (h : ls[j]? = some x) : (ls.take (j + 1)).filter p = (ls.take j).filter p ++ (if p x = true then [x] else []) := by
  rw [List.take_add_one, h, List.filter_append]
  congr 1
  show List.filter p [x] = _
  cases z : p x <;> simp [z]
theorem filter_small {α : Type} {p : α → Bool} {ls : List α} {j : Nat} {f : α → V} (h : ls.length ≤ 40001) : (((ls.take j).filter p).map f).length < sizeLine := by
  rw [List.length_map]
  have h1 := List.length_filter_le p (ls.take j)
  rw [List.length_take] at h1
  exact Nat.lt_of_le_of_lt (show _ ≤ 40001 by omega) (by rw [sizeLine_eq]; decide)
theorem filter_none {α : Type} {p : α → Bool} {ls : List α} {f : α → V} : ((ls.filter p).map f).isEmpty = !(ls.any p) := by
  cases h : ls.any p with
  | true =>
    obtain ⟨x, hx, hp⟩ := List.any_eq_true.mp h
    cases z : ls.filter p with
    | nil => exact absurd hp (List.filter_eq_nil_iff.mp z x hx)
    | cons a l => rfl
  | false =>
    rw [List.filter_eq_nil_iff.mpr fun x hx => (List.any_eq_false.mp h) x hx]
    rfl
theorem cut_but (xs : List V) (h : 1 ≤ xs.length) : cutV xs none (some (-1)) = xs.take (xs.length - 1) := by
  unfold cutV
  have e0 : HT.sIx xs.length 0 none = 0 := rfl
  have e1 : HT.sIx xs.length xs.length (some (-1)) = xs.length - 1 := by
    show (if (-1 : Int) < 0 then ((-1 : Int) + (xs.length : Int)).toNat else min (-1 : Int).toNat xs.length) = _
    rw [if_pos (by decide)]
    omega
  rw [e0, e1, List.drop_zero, Nat.sub_zero]
def spLPl : Sp := fun vs H Q _ => ∃ (a : Addr) (ps : List Str), vs = [.ref a] ∧ H a = some (.lst (ps.map V.str)) ∧ 1 ≤ ps.length ∧ ps.length ≤ 20001 ∧ (∀ p ∈ ps, p.length ≤ 4200 ∧ formS (Txt.split p " ") = true) ∧ ∀ H', Same H H' → Q (.bl (lawPlan ps)) H'
section
variable {P : Program} {w : World} {K : PySem.W.Frag} {mg : Str → Option Value} {base : Heap}
theorem ok_lplan {f : Addr} {fd : FuncData} (F : Fun K "_law_is_plan" "_law_is_plan" sLPl f fd) (T : Nm mg) (hnd : base.NoDigits) (CW : Cal P w K mg base 1 "_law_worth" ["text"] spLWo) : FnOk P w K mg base CX0 2 f fd ["pieces"] spLPl := by
  refine F.ok scLPl (fun vs H Q E ⟨a, ps, e, _⟩ => by rw [e]; rfl) (fun cdv A outer s H vs Q E hr h => ?_)
  obtain ⟨a, ps, rfl, ha, l1, l2, hps, q⟩ := h
  have nd := scLPl.nd
  refine ⟨_, (pss_cons (ps_if (PW.pt (pw_or (pt_cmpR op_gt (pe_callB call_len_seq (by rfl) T.len PySem.boot_len (pa_cons (pv 0) pa_nil)) pe_int (nomark _)) (pw_or1 (pt_cmpR (op_neE hr.units0) (pe_lc (own := [("text", 1)]) (g := (gName 1)) rfl nd (pi_list (pe_slice sl_list (pv 0) po_none (po_some (pe_un un_neg pe_int)))) (blkOk_by (own := [("text", 1)]) (N := nLPl) (sc := (defScope sLPl)) (by decide +kernel)) (fun _ _ _ _ _ => (pg_name (i := 1) nd rfl (.inl rfl))) (fun _ _ _ _ _ => pts_one (pt_cmpR op_eq (pe_ix ixT_blk (pe_cal (CW.mono (by decide)) hr (by rfl) (pa_cons (pv 1) pa_nil)) pe_int (fun _ _ => rfl)) pe_str (nomark _))) (fun _ _ _ _ _ => (pv 1))) (pe_lst pa_nil) (nomark _))))) (pss_one (ps_ret pe_bl)) pss_nil)
      (pss_cons (ps_set (i := 2) nd rfl (.inl rfl) pe_int)
      (pss_cons (ps_for PassesOwn.never rfl (pi_list (pv 0)) (pg_name (i := 1) nd rfl (.inl rfl)) (pss_cons (ps_asg (pe_cal (CW.mono (by decide)) hr (by rfl) (pa_cons (pv 1) pa_nil)) (pg_tup rfl (pgs_cons (pg_name (i := 3) nd rfl (.inl rfl)) (pgs_cons (pg_name (i := 4) nd rfl (.inl rfl)) pgs_nil))))
      (pss_cons (ps_if (PW.pt (pw_or (pt_cmpR op_gt (pe_callB call_len_seq (by rfl) T.len PySem.boot_len (pa_cons (pv 3) pa_nil)) pe_int (nomark _)) (pw_or1 (pt_cmpR (op_neE hr.units0) (pe_lc (own := [("one", 5)]) (g := (gName 5)) rfl nd (pi_list (pv 3)) (blkOk_by (own := [("one", 5)]) (N := nLPl) (sc := (defScope sLPl)) (by decide +kernel)) (fun _ _ _ _ _ => (pg_name (i := 5) nd rfl (.inl rfl))) (fun _ _ _ _ _ => pts_one (PW.pt (pw_and (pt_cmp (pc_notN (pv 5))) (pw_and1 (pt_cmpR op_gt (pv 5) (pe_op op_pow pe_int pe_int) (nomark _)))))) (fun _ _ _ _ _ => (pv 5))) (pe_lst pa_nil) (nomark _))))) (pss_one (ps_ret pe_bl)) pss_nil)
      (pss_one (ps_set (i := 2) nd rfl (.inl rfl) (pe_op op_add (pv 2) (pe_ifExp (pt_cmpR op_eq (pv 4) pe_str (nomark _)) pe_int (pe_callTy (call_int_long hnd) (by rfl) T.int (by decide +kernel) (pa_cons (pv 4) pa_nil)))))))))
      (pss_one (ps_ret (pe_cmpR op_le (pv 2) (pe_op op_pow pe_int pe_int) (nomark _))))))), ?_⟩
  have lm : (ps.map V.str).length = ps.length := List.length_map ..
  have no : ∀ {H'}, Same H H' → lawPlan ps = false → Q (.bl false) H' := fun s' e => by
    have := q _ s'
    rw [e] at this
    exact this
  refine ⟨.ref a, rfl, a, _, rfl, .inl (SqL.of ha), _, _, rfl, rfl, _, rfl, ite2 (fun e => ?_) (fun e => ?_)⟩
  · refine no (Same.refl H) ?_
    rw [plan_eq]
    have : ¬ ps.length ≤ 8 := by
      have := of_decide_eq_true e
      omega
    rw [decide_eq_false this, Bool.and_false]
    rfl
  have l8 : ps.length ≤ 8 := by
    have := of_decide_eq_false (Bool.eq_false_iff.mpr e)
    omega
  refine ⟨.ref a, rfl, 1, rfl, -1, rfl, a, _, rfl, SqL.of ha, fun S nS => ?_⟩
  rw [cut_but _ (by rw [lm]; exact l1), lm, ← List.map_take]
  generalize hqs : ps.take (ps.length - 1) = qs
  have hqp : ∀ p ∈ qs, p ∈ ps := fun p hp => List.mem_of_mem_take (by rw [hqs]; exact hp)
  have lq : qs.length ≤ 8 := by rw [← hqs, List.length_take]; omega
  have s1 : Same H (upd H S (.lst (qs.map V.str))) := same_upd nS
  have eS : (upd H S (.lst (qs.map V.str))) S = some (.lst (qs.map V.str)) := upd_same
  generalize upd H S (.lst (qs.map V.str)) = H1 at s1 eS ⊢
  refine ⟨S, rfl, ⟨_, SqL.of eS⟩, fun D nD => ?_⟩
  refine lc_list (K := K) (a := S) (xs := qs.map V.str) (fun j H2 => Same H1 H2 ∧ H2 D = some (.lst (((qs.take j).filter fun p => isNone (rowP p).2).map V.str))) ⟨same_upd nD, upd_same⟩ (fun j H2 _ ⟨s2, _⟩ => SqL.of (s2 _ _ eS)) (fun j x H2 hx ⟨s2, e2⟩ => ?_) (fun H2 ⟨s2, e2⟩ => ?_)
  · rw [List.getElem?_map] at hx
    obtain ⟨p, hp, rfl⟩ := Option.map_eq_some_iff.mp hx
    obtain ⟨hpl, hpf⟩ := hps p (hqp p (List.mem_of_getElem? hp))
    obtain ⟨k, hk, hal, hev, hw1, hrow⟩ := form_row hpf
    refine ⟨rfl, .str p, rfl, p, k, rfl, hpl, hk, hal, fun u b H3 s3 nu nb eu eb => ⟨b, _, 1, _, rfl, rfl, SqT.of eb, rfl, rfl, _, rfl, ?_⟩⟩
    have hno : isNone (rowP p).2 = decide (V.str (tlS p k) = V.str (Str.ofString "ever")) := by
      rw [hrow]
      show isNone (numD "ever" (tlS p k)) = _
      rw [none_num]
      exact decide_eq_decide.mpr ⟨fun z => congrArg V.str z, fun z => V.str.inj z⟩
    rw [← hno]
    cases hn : isNone (rowP p).2 with
    | true =>
      refine iteT ⟨.str p, rfl, _, s3 _ _ e2, filter_small (by omega), same_updN (s2.trans s3) nD, ?_⟩
      rw [upd_same, filter_take hp, if_pos hn, List.map_append]
      rfl
    | false =>
      refine iteF ⟨s2.trans s3, ?_⟩
      rw [filter_take hp, if_neg (by rw [hn]; exact Bool.false_ne_true), List.append_nil]
      exact s3 _ _ e2
  rw [List.length_map, List.take_length] at e2
  refine ⟨Nat.zero_le _, fun E1 nE => ⟨D, E1, _, rfl, rfl, same_upd nE _ _ e2, upd_same, _, rfl, ?_⟩⟩
  have s3 := (s1.trans s2).trans (same_upd (o := .lst []) nE)
  generalize upd H2 E1 (.lst []) = H3 at s3 ⊢
  rw [filter_none, Bool.not_not]
  cases hany : qs.any fun p => isNone (rowP p).2 with
  | true =>
    refine iteT (no s3 ?_)
    rw [plan_eq, hqs, hany]
    simp
  | false =>
  refine iteF ?_
  dsimp only [tNext]
  show tSeq _ _ _ [some (.ref a), none, none, none, none, none] H3
  show tSeq _ _ _ [some (.ref a), none, some (.int 0), none, none, none] H3
  refine ⟨.ref a, rfl, a, rfl, ⟨_, SqL.of (s3 _ _ ha)⟩, for_list (xs := ps.map V.str) (fun i σ H4 => ∃ y1 y3 y4, σ = [some (.ref a), y1, some (.int ((ps.take i).map fun p => worth (rowP p).2).sum), y3, y4, none] ∧ Same H3 H4 ∧ ∀ p ∈ ps.take i, goodP p = true)
    ⟨none, none, none, rfl, Same.refl H3, fun p hp => nomatch hp⟩ (fun i σ H4 _ hP => by obtain ⟨_, _, _, _, s4, _⟩ := hP; exact SqL.of (s4 _ _ (s3 _ _ ha))) (fun i x σ H4 hx hP => ?_) (fun σ H4 hP => ?_)⟩
  · obtain ⟨y1, y3, y4, rfl, s4, hg⟩ := hP
    rw [List.getElem?_map] at hx
    obtain ⟨p, hp, rfl⟩ := Option.map_eq_some_iff.mp hx
    have hpm := List.mem_of_getElem? hp
    obtain ⟨hpl, hpf⟩ := hps p hpm
    obtain ⟨k, hk, hal, hev, hw1, hrow⟩ := form_row hpf
    have hge := good_eq hw1 many_ok hrow
    have hdl := hd_len p k
    have htl := tl_len p k
    dsimp only [gName]
    show tSeq _ _ _ [some (.ref a), some (.str p), some (.int ((ps.take i).map fun p => worth (rowP p).2).sum), y3, y4, none] H4
    refine ⟨.str p, rfl, p, k, rfl, hpl, hk, hal, fun u b H5 s45 nu nb eu eb => ⟨b, _, rfl, SqT.of eb, rfl, .ref u, _, rfl, .str (tlS p k), _, rfl, rfl, ?_⟩⟩
    have hwl := split_sizes (x := hdS p k) (y := " ") (by decide)
    generalize hws : Txt.split (hdS p k) " " = ws at hal hw1 hrow hge hwl eu
    have s5 := (s3.trans s4).trans s45
    dsimp only []
    show tSeq (tIfS _ _ _) _ _ [some (.ref a), some (.str p), some (.int ((ps.take i).map fun p => worth (rowP p).2).sum), some (.ref u), some (.str (tlS p k)), none] H5
    have bad : goodP p = false → ∀ H6, Same H H6 → Q (.bl false) H6 := fun hb H6 s6 => no s6 (by
      rw [plan_eq]
      have : ps.all goodP = false := List.all_eq_false.mpr ⟨p, hpm, by rw [hb]; exact Bool.false_ne_true⟩
      rw [this, Bool.and_false, Bool.false_and, Bool.false_and])
    have lw : (ws.map (numV "never")).length = ws.length := List.length_map ..
    refine ⟨.ref u, rfl, u, _, rfl, .inl (SqL.of eu), _, _, rfl, rfl, _, rfl, ite2 (fun e => ?_) (fun e => ?_)⟩
    · refine bad ?_ H5 s5
      rw [hge]
      have : ¬ ws.length ≤ 8 := by
        have := of_decide_eq_true e
        omega
      rw [decide_eq_false this]
      rfl
    have hw8 : ws.length ≤ 8 := by
      have := of_decide_eq_false (Bool.eq_false_iff.mpr e)
      omega
    rw [decide_eq_true hw8, Bool.true_and] at hge
    refine ⟨.ref u, rfl, u, rfl, ⟨_, SqL.of eu⟩, fun D5 nD5 => ?_⟩
    refine lc_list (K := K) (a := u) (xs := ws.map (numV "never")) (fun j H6 => Same H5 H6 ∧ H6 D5 = some (.lst (((ws.take j).filter fun w => !isPatience (numD "never" w)).map (numV "never")))) ⟨same_upd nD5, upd_same⟩ (fun j H6 _ ⟨s6, _⟩ => SqL.of (s6 _ _ eu)) (fun j x H6 hx ⟨s6, e6⟩ => ?_) (fun H6 ⟨s6, e6⟩ => ?_)
    · rw [List.getElem?_map] at hx
      obtain ⟨w, hw, rfl⟩ := Option.map_eq_some_iff.mp hx
      have skip : isPatience (numD "never" w) = true → Same H5 H6 ∧ H6 D5 = some (.lst (((ws.take (j + 1)).filter fun w => !isPatience (numD "never" w)).map (numV "never"))) := fun hpt => by
        refine ⟨s6, ?_⟩
        rw [filter_take hw, if_neg (by rw [hpt]; exact Bool.false_ne_true), List.append_nil]
        exact e6
      have hpn := pat_num (w := w)
      by_cases hn : w = ("never" : Str)
      · rw [decide_eq_true hn, Bool.true_or] at hpn
        rw [numV_none hn]
        exact ⟨rfl, .non, rfl, _, rfl, ite2 (fun y => absurd y (by simp)) (fun _ => iteF (skip hpn))⟩
      · rw [decide_eq_false hn, Bool.false_or] at hpn
        rw [numV_int hn]
        refine ⟨rfl, .int _, rfl, _, rfl, ite2 (fun _ => ?_) (fun y => absurd (by simp) y)⟩
        refine ⟨.int _, rfl, 10, 30, rfl, rfl, ⟨by decide, by decide, by decide⟩, _, _, rfl, rfl, _, rfl, ?_⟩
        rw [pow30]
        cases hpt : isPatience (numD "never" w) with
        | true =>
          rw [hpt] at hpn
          have : decide (GREAT < ((NumText.digitsVal (tl w) : Nat) : Int)) = false := decide_eq_false (by have := of_decide_eq_true hpn.symm; omega)
          rw [this]
          exact iteF (skip hpt)
        | false =>
          rw [hpt] at hpn
          have : decide (GREAT < ((NumText.digitsVal (tl w) : Nat) : Int)) = true := decide_eq_true (by have := of_decide_eq_false hpn.symm; omega)
          rw [this]
          refine iteT ⟨.int _, rfl, _, e6, filter_small (by omega), same_updN s6 nD5, ?_⟩
          rw [upd_same, filter_take hw, if_pos (by rw [hpt]; rfl), List.map_append]
          show _ = some (HO.lst (_ ++ [numV "never" w]))
          rw [numV_int hn]
    · rw [List.length_map, List.take_length] at e6
      refine ⟨Nat.zero_le _, fun E2 nE2 => ⟨D5, E2, _, rfl, rfl, same_upd nE2 _ _ e6, upd_same, _, rfl, ?_⟩⟩
      have s7 := (s5.trans s6).trans (same_upd (o := .lst []) nE2)
      have s37 : Same H3 (upd H6 E2 (.lst [])) := ((s4.trans s45).trans s6).trans (same_upd nE2)
      generalize upd H6 E2 (.lst []) = H7 at s7 s37 ⊢
      rw [filter_none, Bool.not_not]
      cases hall : ws.all fun w => isPatience (numD "never" w) with
      | false =>
        have : (ws.any fun w => !isPatience (numD "never" w)) = true := by
          rw [← Bool.not_false, ← hall, List.not_all_eq_any_not]
        rw [this]
        exact iteT (bad (hge.trans hall) H7 s7)
      | true =>
        have : (ws.any fun w => !isPatience (numD "never" w)) = false := by
          rw [← Bool.not_true, ← hall, List.not_all_eq_any_not]
        rw [this]
        refine iteF ?_
        dsimp only [tNext]
        show tAsg _ _ _ [some (.ref a), some (.str p), some (.int ((ps.take i).map fun p => worth (rowP p).2).sum), some (.ref u), some (.str (tlS p k)), none] H7
        have gp : ∀ z ∈ ps.take (i + 1), goodP z = true := fun z hz => by
          rw [List.take_add_one, hp] at hz
          rcases List.mem_append.mp hz with hz | hz
          · exact hg z hz
          · rw [List.mem_singleton.mp hz]; exact hge.trans hall
        have sum1 : ((ps.take (i + 1)).map fun p => worth (rowP p).2).sum = ((ps.take i).map fun p => worth (rowP p).2).sum + worth (rowP p).2 := by
          rw [List.take_add_one, hp, List.map_append, List.sum_append]
          show _ + (worth (rowP p).2 + 0) = _
          omega
        have hwo : worth (rowP p).2 = if tlS p k = ("ever" : Str) then 0 else ((NumText.digitsVal (tl (tlS p k)) : Nat) : Int) := by rw [hrow]; exact worth_num
        refine ⟨_, rfl, .str (tlS p k), rfl, rfl, _, rfl, ite2 (fun ee => ?_) (fun ee => ?_)⟩
        · have ee : tlS p k = ("ever" : Str) := V.str.inj (of_decide_eq_true ee)
          rw [if_pos ee] at hwo
          exact ⟨_, 0, rfl, rfl, _, _, _, by rw [sum1, hwo]; rfl, s37, gp⟩
        · have ee : ¬ tlS p k = ("ever" : Str) := fun z => ee (decide_eq_true (congrArg V.str z))
          rw [if_neg ee] at hwo
          have hn : isNumS (tlS p k) = true := by
            unfold okW at hev
            rwa [decide_eq_false ee, Bool.false_or] at hev
          obtain ⟨hdg, hn0⟩ := isNum_parts hn
          exact ⟨.str (tlS p k), rfl, tlS p k, rfl, hdg, hn0, by omega, _, _, rfl, rfl, _, _, _, by rw [sum1, hwo]; rfl, s37, gp⟩
  · obtain ⟨y1, y3, y4, rfl, s4, hg⟩ := hP
    rw [lm, List.take_length] at hg ⊢
    dsimp only []
    show tRet _ _ [some (.ref a), y1, some (.int (ps.map fun p => worth (rowP p).2).sum), y3, y4, none] H4
    refine ⟨.int _, rfl, 10, 30, rfl, rfl, ⟨by decide, by decide, by decide⟩, _, _, rfl, rfl, ?_⟩
    rw [pow30]
    have := q H4 (s3.trans s4)
    rw [plan_eq, hqs, hany, decide_eq_true l1, decide_eq_true l8, List.all_eq_true.mpr hg] at this
    exact this
end
end CL
set_option Elab.async false
set_option linter.all false
set_option pp.maxSteps 900
set_option maxRecDepth 100000
set_option maxHeartbeats 4000000
namespace CL
open PySem PySem.Spec PyProof.Rows L2 GE TL
/-! ### what is due of a text -/
def oddB (ps : List Str) (i : Nat) : Bool := !formS (Txt.split (ps.getD i Str.empty) " ")
theorem odd_head : ∀ ps : List Str, ((List.range ps.length).filter (oddB ps)).head? = badAt ps
  | [] => rfl
  | p :: ps => by
    have e : ((List.range ps.length).map Nat.succ).filter (oddB (p :: ps)) = ((List.range ps.length).filter (oddB ps)).map Nat.succ := by
      rw [List.filter_map]
      rfl
    rw [List.length_cons, List.range_succ_eq_map, List.filter_cons, e]
    unfold badAt
    cases h : formS (Txt.split p " ") with
    | true =>
      have : oddB (p :: ps) 0 = false := by show (!formS (Txt.split p " ")) = false; rw [h]; rfl
      rw [this, if_neg Bool.false_ne_true, List.head?_map, odd_head ps, if_pos rfl]
    | false =>
      have : oddB (p :: ps) 0 = true := by show (!formS (Txt.split p " ")) = true; rw [h]; rfl
      rw [this, if_pos rfl]
      rfl
theorem badAt_all : ∀ {ps : List Str}, badAt ps = none → ∀ p ∈ ps, formS (Txt.split p " ") = true
  | q :: ps, h, p, hp => by
    unfold badAt at h
    cases e : formS (Txt.split q " ") with
    | false => rw [e] at h; cases h
    | true =>
      rw [e, if_pos rfl] at h
      rcases List.mem_cons.mp hp with rfl | hp
      · exact e
      · exact badAt_all (Option.map_eq_none_iff.mp h) p hp
theorem cs_tl : tl (Str.ofString ", ") = [44, 32] := by decide +kernel
theorem split_ne2 (t : Str) : Txt.split t ", " ≠ [] := fun z => by
  have := split_spl t ", " (by rw [show tl (", " : Str) = [44, 32] from cs_tl]; simp) (kind_ok (by decide +kernel))
  rw [z] at this
  exact spl_ne _ _ _ _ this.symm
def spLDue : Sp := fun vs H Q _ => ∃ t : Str, vs = [.str t] ∧ t.length ≤ 4200 ∧ ∀ H', Same H H' → Q (dueV t) H'
section
variable {P : Program} {w : World} {K : PySem.W.Frag} {mg : Str → Option Value} {base : Heap}
theorem ok_due {f : Addr} {fd : FuncData} (F : Fun K "_law_due" "_law_due" sLDue f fd) (T : Nm mg) (N5 : Nm5 mg) (CF : Cal P w K mg base 2 "_law_form" ["text"] spLForm) (CP : Cal P w K mg base 2 "_law_is_plan" ["pieces"] spLPl) : FnOk P w K mg base CX0 3 f fd ["text"] spLDue := by
  refine F.ok scLDue (fun vs H Q E ⟨t, e, _⟩ => by rw [e]; rfl) (fun cdv A outer s H vs Q E hr h => ?_)
  obtain ⟨t, rfl, hl, q⟩ := h
  have nd := scLDue.nd
  have sz : ∀ {n : Nat}, n ≤ 30000 → n ≤ sizeLine := fun h => Nat.le_trans h (by rw [sizeLine_eq]; decide)
  refine ⟨_, (pss_cons (ps_set (i := 1) nd rfl (.inr rfl) (pe_split (pv 0) pe_str))
      (pss_cons (ps_setLc (i := 2) (own := [("number", 3)]) (g := (gName 3)) rfl nd rfl rfl (sw_true rfl rfl rfl (by decide +kernel)) (pi_range1 (by rfl) N5.range (pa_cons (pe_callB call_len_seq (by rfl) T.len PySem.boot_len (pa_cons (pv 1) pa_nil)) pa_nil)) (blkOk_by (own := [("number", 3)]) (N := nLDue) (sc := (defScope sLDue)) (by decide +kernel)) (fun _ _ _ _ _ => (pg_name (i := 3) nd rfl (.inl rfl))) (fun _ _ _ _ _ => pts_one (pt_not (pt_val (pe_cal (CF.mono (by decide)) hr (by rfl) (pa_cons (pe_ix ix_blk (pv 1) (pv 3) (fun _ _ => rfl)) pa_nil))))) (fun _ _ _ _ _ => (pv 3)))
      (pss_cons (ps_if (pt_cmpR (op_neE hr.units0) (pv 2) (pe_lst pa_nil) (nomark _)) (pss_one (ps_ret (pe_ix ix_list (pv 2) pe_int (fun _ _ => rfl)))) pss_nil)
      (pss_one (ps_ret (pe_ifExp (pt_val (pe_cal (CP.mono (by decide)) hr (by rfl) (pa_cons (pv 1) pa_nil))) pe_str pe_str)))))), ?_⟩
  refine ⟨.str t, rfl, ⟨t, rfl⟩, t, _, rfl, rfl, rfl, sz (by omega), fun p np => ?_⟩
  have hwl := split_sizes (x := t) (y := ", ") (by decide)
  have hne := split_ne2 t
  unfold dueV rowsS at q
  generalize Txt.split t ", " = ps at q hwl hne ⊢
  have l1 : 1 ≤ ps.length := by cases ps with
    | nil => exact absurd rfl hne
    | cons _ _ => exact Nat.succ_pos _
  have s1 : Same H (upd H p (.lst (ps.map V.str))) := same_upd np
  have ep : (upd H p (.lst (ps.map V.str))) p = some (.lst (ps.map V.str)) := upd_same
  generalize upd H p (.lst (ps.map V.str)) = H1 at s1 ep ⊢
  have lm : (ps.map V.str).length = ps.length := List.length_map ..
  dsimp only [gName]
  show tSeq _ _ _ [some (.str t), some (.ref p), none, none] H1
  refine ⟨.ref p, rfl, p, _, rfl, .inl (SqL.of ep), _, rfl, by omega, by rw [lm]; omega, fun D nD => ?_⟩
  rw [lm]
  refine lc_range (lo := 0) (n := ((ps.length : Nat) : Int).toNat) (fun j H2 => Same H1 H2 ∧ H2 D = some (.lst (((List.range j).filter (oddB ps)).map fun i => V.int (0 + ((i : Nat) : Int))))) ⟨same_upd nD, upd_same⟩ (fun j H2 hj ⟨s2, e2⟩ => ?_) (fun H2 ⟨s2, e2⟩ => ?_)
  · have hj : j < ps.length := by omega
    have hx : ps[j]? = some ps[j] := List.getElem?_eq_getElem hj
    have hg : ps.getD j Str.empty = ps[j] := by rw [List.getD_eq_getElem?_getD, hx]; rfl
    have step : (List.range (j + 1)).filter (oddB ps) = (List.range j).filter (oddB ps) ++ (if oddB ps j = true then [j] else []) := by
      rw [List.range_succ, List.filter_append]
      congr 1
      cases z : oddB ps j <;> simp [z]
    have hpl := hwl.1 ps[j] (List.getElem_mem _)
    refine ⟨rfl, .ref p, rfl, .int (0 + (j : Int)), rfl, p, _, _, .str ps[j], rfl, rfl, SqL.of (s2 _ _ ep), (by rw [Int.zero_add]; exact atI_nat (by rw [List.getElem?_map, hx]; rfl)), ps[j], rfl, by omega, fun H3 s3 => ⟨_, rfl, ?_⟩⟩
    have hb : oddB ps j = !formS (Txt.split ps[j] " ") := by unfold oddB; rw [hg]
    cases hf : formS (Txt.split ps[j] " ") with
    | true =>
      have hb : oddB ps j = false := by rw [hb, hf]; rfl
      refine iteF ⟨s2.trans s3, ?_⟩
      rw [step, if_neg (by rw [hb]; exact Bool.false_ne_true), List.append_nil]
      exact s3 _ _ e2
    | false =>
      have hb : oddB ps j = true := by rw [hb, hf]; rfl
      refine iteT ⟨.int (0 + (j : Int)), rfl, _, s3 _ _ e2, ?_, same_updN (s2.trans s3) nD, ?_⟩
      · rw [List.length_map]
        have := List.length_filter_le (oddB ps) (List.range j)
        rw [List.length_range] at this
        have := hwl.2
        exact Nat.lt_of_le_of_lt (show _ ≤ 40001 by omega) (by rw [sizeLine_eq]; decide)
      · rw [upd_same, step, if_pos hb, List.map_append]
        rfl
  have hn : ((ps.length : Nat) : Int).toNat = ps.length := by omega
  rw [hn] at e2
  have hodd := odd_head ps
  generalize (List.range ps.length).filter (oddB ps) = L at e2 hodd
  dsimp only [gName]
  show tSeq (tIfS _ _ _) _ _ [some (.str t), some (.ref p), some (.ref D), none] H2
  refine ⟨.ref D, rfl, Nat.zero_le _, fun E1 nE => ⟨D, E1, _, rfl, rfl, same_upd nE _ _ e2, upd_same, _, rfl, ?_⟩⟩
  have s23 := same_upd (o := .lst []) nE
  have e3 := s23 _ _ e2
  have ep3 := s23 _ _ (s2 _ _ ep)
  have s3 := (s1.trans s2).trans s23
  generalize upd H2 E1 (.lst []) = H3 at s3 e3 ep3 ⊢
  cases L with
  | cons i L =>
    refine iteT ?_
    have := q H3 s3
    rw [← hodd] at this
    refine ⟨.ref D, rfl, D, _, 0, .int (0 + ((i : Nat) : Int)), rfl, rfl, SqL.of e3, atI_nat (j := 0) rfl, ?_⟩
    rw [Int.zero_add]
    exact this
  | nil =>
    refine iteF ?_
    have hall := badAt_all hodd.symm
    have q := fun H4 (s4 : Same H3 H4) => q H4 (s3.trans s4)
    rw [← hodd] at q
    dsimp only [tNext]
    show tRet _ _ [some (.str t), some (.ref p), some (.ref D), none] H3
    refine ⟨.ref p, rfl, p, ps, rfl, ep3, l1, by omega, fun z hz => ⟨by have := hwl.1 z hz; omega, hall z hz⟩, fun H4 s4 => ⟨_, rfl, ite2 (fun e => ?_) (fun e => ?_)⟩⟩
    · have := q H4 s4
      rw [if_pos (show isPlan (planD (ps.map fun p => rowS (Txt.split p " "))) = true from e)] at this
      exact this
    · have := q H4 s4
      rw [if_neg (show ¬ isPlan (planD (ps.map fun p => rowS (Txt.split p " "))) = true from e)] at this
      exact this
end
end CL
set_option Elab.async false
set_option linter.all false
set_option pp.maxSteps 700
set_option maxRecDepth 100000
set_option maxHeartbeats 4000000
namespace CL
open PySem PySem.Spec PyProof.Rows L2 GE TL
abbrev sTxt : Stmt := topS 49
abbrev nTxt : List Str := ["plan", "found", "patiences", "many", "words", "one"]
theorem scTxt : FnScope nTxt ["plan"] (defScope sTxt) := ⟨rfl, rfl, rfl, by decide +kernel, rfl, by decide +kernel, by decide +kernel⟩
/-- words, and two more behind -/
theorem join_two : ∀ (ws : List Str) (a b : Str), ws ≠ [] → Txt.join " " (ws ++ [a, b]) = Txt.join " " ws ++ (" " ++ a ++ (" " ++ b))
  | ws, a, b, h => by
    refine ext_tl ?_
    rw [join_eq, join_eq, tl_join, tl_append, tl_join, tl_append, tl_append, tl_append]
    have e : ∀ (ps : List (List Nat)) (x y : List Nat), ps ≠ [] → joinL (tl (Str.ofString " ")) (ps ++ [x, y]) = joinL (tl (Str.ofString " ")) ps ++ (tl (Str.ofString " ") ++ x ++ (tl (Str.ofString " ") ++ y)) := by
      intro ps
      induction ps with
      | nil => intro x y h; exact absurd rfl h
      | cons p ps ih =>
        intro x y _
        cases ps with
        | nil => show p ++ (_ ++ (x ++ (_ ++ y))) = p ++ (_ ++ x ++ (_ ++ y)); rw [List.append_assoc]
        | cons q r =>
          show p ++ (_ ++ joinL _ ((q :: r) ++ [x, y])) = (p ++ (_ ++ joinL _ (q :: r))) ++ _
          rw [ih x y (by simp)]
          simp [List.append_assoc]
    rw [List.map_append]
    exact e (ws.map tl) (tl a) (tl b) fun z => h (List.map_eq_nil_iff.mp z)
def spTxt : Sp := fun vs H Q _ => ∃ (v : V) (d : PyData), vs = [v] ∧ Rp H v d ∧ isPlan d = true ∧ ∀ H', Same H H' → Q (.str (planS d)) H'
variable {P : Program} {w : World} {K : PySem.W.Frag} {mg : Str → Option Value} {base : Heap}
theorem ok_txt {f : Addr} {fd : FuncData} (F : Fun K "_law_plan_text" "_law_plan_text" sTxt f fd) (N4 : Nm4 mg) : FnOk P w K mg base CX0 1 f fd ["plan"] spTxt := by
  refine F.ok scTxt (fun vs H Q E ⟨v, d, e, _⟩ => by rw [e]; rfl) (fun cdv A outer s H vs Q E hr h => ?_)
  obtain ⟨v, d, rfl, hR, hp, q⟩ := h
  have nd := scTxt.nd
  refine ⟨_, (pss_cons (ps_set (i := 1) nd rfl (.inl rfl) (pe_lst pa_nil))
      (pss_cons (ps_for PassesOwn.never rfl (pi_seqW (pv 0)) (pg_seq rfl (pgs_cons (pg_name (i := 2) nd rfl (.inl rfl)) (pgs_cons (pg_name (i := 3) nd rfl (.inl rfl)) pgs_nil))) (pss_cons (ps_setLc (i := 4) (own := [("one", 5)]) (g := (gName 5)) (tt := tYes) rfl nd rfl rfl (sw_true rfl rfl rfl (by decide +kernel)) (pi_seqW (pv 2)) (blkOk_by (own := [("one", 5)]) (N := nTxt) (sc := (defScope sTxt)) (by decide +kernel)) (fun _ _ _ _ _ => (pg_name (i := 5) nd rfl (.inl rfl))) (fun _ _ _ _ _ => pts_nil) (fun _ _ _ _ _ => (pe_ifExp (pt_cmp (pc_isN (pv 5))) pe_str (pe_callTy call_str_int (by rfl) N4.str (by decide +kernel) (pa_cons (pv 5) pa_nil)))))
      (pss_one (ps_expr (pe_bm PySem.F.plainAttrs_list PySem.F.slot_list_append PySem.F.type_list_append mt_append (pv 1) (pa_cons (pe_op op_add_str (pe_op op_add_str (pe_join pe_str (pv 4)) pe_str) (pe_ifExp (pt_cmp (pc_isN (pv 3))) pe_str (pe_callTy call_str_int (by rfl) N4.str (by decide +kernel) (pa_cons (pv 3) pa_nil)))) pa_nil))))))
      (pss_one (ps_ret (pe_join pe_str (pv 1)))))), ?_⟩
  obtain ⟨ds, hd, h1, h8, hpc, hnm, hsm⟩ := plan_parts hp
  obtain ⟨a, xs, rfl, hA, hso⟩ := hR.rows hd
  have lx : xs.length = ds.length := hA.length
  refine ⟨Nat.zero_le _, fun D nD => ?_⟩
  have s1 := same_upd (o := .lst []) nD
  have eD : (upd H D (.lst [])) D = some (.lst []) := upd_same
  generalize upd H D (.lst []) = H1 at s1 eD ⊢
  dsimp only [gName]
  show tSeq _ _ _ [some (.ref a), some (.ref D), none, none, none, none] H1
  refine ⟨.ref a, rfl, a, xs, rfl, StSeq.ex ⟨hso⟩ (Ex.of s1), fun J hJ => ?_⟩
  refine for_seq (K := K) (a := a) (xs := xs) (fun i σ H2 => ∃ y2 y3 y4, σ = [some (.ref a), some (.ref D), y2, y3, y4, none] ∧ Same H H2 ∧ H2 D = some (.lst (((ds.take i).map pieceT).map V.str))) ⟨none, none, none, rfl, s1, eD⟩ (fun i σ H2 hP => ?_) (fun i x σ H2 hx hP => ?_) (fun σ H2 hP => ?_)
  · obtain ⟨_, _, _, _, s2, _⟩ := hP
    refine hJ _ fun o e => ?_
    rcases hso with h | h <;> (have z := s1 _ _ h; rw [e] at z; cases z; exact s2 _ _ h)
  · obtain ⟨y2, y3, y4, rfl, s2, eD2⟩ := hP
    obtain ⟨dx, hdx, hRd⟩ := hA.get hx
    have hi : i < xs.length := (List.getElem?_eq_some_iff.mp hx).1
    have hin := List.mem_of_getElem? hdx
    obtain ⟨b, vt, vm, t, m, rfl, hS, hRt, hRm, hrow, ht, hm⟩ := piece_at2 (hpc dx hin) (Rp.sm s2 hRd)
    obtain ⟨ts, hts, t1, t8, tp⟩ := turns_parts ht
    obtain ⟨c, ys, rfl, hAt, hso2⟩ := hRt.rows hts
    have hsnd : sndD dx = m := by unfold sndD; rw [hrow]
    have htur : turnsD dx = ts := by unfold turnsD; rw [hrow]; show (rowsD t).getD [] = ts; rw [hts]; rfl
    have hmn : NumD m := by rw [← hsnd]; exact hnm dx hin
    have hpt : pieceT dx = pieceS ts m := by unfold pieceT; rw [hsnd, htur]
    have hN : ∀ d ∈ ts, NumD d := fun d hd => NumD.of (tp d hd)
    refine ⟨b, _, rfl, hS, rfl, .ref c, _, rfl, vm, _, rfl, rfl, ?_⟩
    show tSeq _ _ _ [some (.ref a), some (.ref D), some (.ref c), some vm, y4, none] H2
    have ly : ys.length = ts.length := hAt.length
    refine ⟨.ref c, rfl, c, ys, rfl, ⟨hso2⟩, fun J2 hJ2 U nU => ?_⟩
    refine lc_seqW (K := K) (a := c) (xs := ys) (fun k H3 => Same H2 H3 ∧ H3 U = some (.lst (((ts.take k).map (wordD "never")).map V.str))) ⟨same_upd nU, upd_same⟩ (fun k H3 ⟨s3, _⟩ => hJ2 _ fun o e => s3 _ _ e) (fun k x H3 hxk ⟨s3, eU⟩ => ?_) (fun H3 ⟨s3, eU⟩ => ?_)
    · obtain ⟨d, hd, hRd2⟩ := hAt.get hxk
      have hk : k < ys.length := (List.getElem?_eq_some_iff.mp hxk).1
      have fin : ∃ acc, H3 U = some (.lst acc) ∧ acc.length < sizeLine ∧ Same H2 (upd H3 U (.lst (acc ++ [V.str (wordD "never" d)]))) ∧ (upd H3 U (.lst (acc ++ [V.str (wordD "never" d)]))) U = some (.lst (((ts.take (k + 1)).map (wordD "never")).map V.str)) :=
        ⟨_, eU, small1000 (by rw [List.length_map, List.length_map, List.length_take]; omega), same_updN s3 nU, by rw [upd_same, List.take_add_one, hd, List.map_append, List.map_append]; rfl⟩
      rcases hN d (List.mem_of_getElem? hd) with rfl | ⟨j, rfl, h0, h1'⟩
      · cases hRd2
        exact ⟨rfl, yesT ⟨.non, rfl, true, rfl, iteT fin⟩⟩
      · cases hRd2
        exact ⟨rfl, yesT ⟨.int j, rfl, false, rfl, iteF ⟨.int j, rfl, j, rfl, Nat.lt_trans (PySem.Flt.log2_lt_of (by decide) (great140 h0 h1')) (by decide), fin⟩⟩⟩
    · rw [ly, List.take_length] at eU
      have hx3 := s3 _ _ eD2
      dsimp only [gName]
      show tDrop _ _ [some (.ref a), some (.ref D), some (.ref c), some vm, some (.ref U), none] H3
      have hsum : ∀ es : List PyData, (∀ d ∈ es, NumD d) → ((es.map (wordD "never")).map (·.length)).sum ≤ es.length * 200 := by
        intro es
        induction es with
        | nil => intro _; exact Nat.le_refl _
        | cons e es ih =>
          intro h
          have h1 := word_len (no := "never") (h e List.mem_cons_self) (by decide)
          have h2 := ih fun d hd => h d (List.mem_cons_of_mem _ hd)
          simp only [List.map_cons, List.sum_cons, List.length_cons]
          omega
      have hs1 := hsum ts hN
      have hwl := word_len (no := "ever") hmn (by decide)
      have lb : (Str.ofString " ").length = 1 := rfl
      have lx3 : (Str.ofString " x ").length = 3 := rfl
      have hj := StrLaws.join_length_le " " (ts.map (wordD "never"))
      rw [← StrLaws.glued_eq_join, lb, List.length_map] at hj
      have hj : (Txt.join " " (ts.map (wordD "never"))).length ≤ 2000 := Nat.le_trans hj (by omega)
      have htext : Txt.join " " (ts.map (wordD "never")) ++ Str.ofString " x " ++ wordD "ever" m = pieceT dx := by
        rw [hpt]
        show _ = Txt.join " " (ts.map (wordD "never") ++ [Str.ofString "x", wordD "ever" m])
        rw [join_two _ _ _ (by intro z; have := congrArg List.length z; rw [List.length_map] at this; simp at this; rw [this] at t1; simp at t1)]
        have : Str.ofString " x " = Str.ofString " " ++ Str.ofString "x" ++ Str.ofString " " := by decide +kernel
        refine ext_tl ?_
        rw [this]
        simp only [tl_append, List.append_assoc]
      have fin : ∀ H4, Same H3 H4 → ∃ l acc y, V.ref D = .ref l ∧ [V.str (Txt.join " " (ts.map (wordD "never")) ++ Str.ofString " x " ++ wordD "ever" m)] = [y] ∧ H4 l = some (.lst acc) ∧ acc.length < sizeLine ∧
          ∃ y2 y3 y4, [some (V.ref a), some (V.ref D), some (V.ref c), some vm, some (V.ref U), none] = [some (V.ref a), some (V.ref D), y2, y3, y4, none] ∧ Same H (upd H4 l (.lst (acc ++ [y]))) ∧ (upd H4 l (.lst (acc ++ [y]))) D = some (.lst (((ds.take (i + 1)).map pieceT).map V.str)) := fun H4 s4 =>
        ⟨D, _, _, rfl, rfl, s4 _ _ hx3, small1000 (by rw [List.length_map, List.length_map, List.length_take]; omega), _, _, _, rfl, same_updN (s2.trans (s3.trans s4)) nD, by rw [upd_same, List.take_add_one, hdx, List.map_append, List.map_append, htext]; rfl⟩
      refine ⟨.ref D, rfl, .inl ⟨rfl, _, SqL.of hx3⟩, ⟨_, rfl⟩, .ref U, rfl, _, U, _, rfl, rfl, .inl (SqL.of eU), by rw [lb, List.length_map]; omega, _, _, rfl, rfl, str_size (by rw [lx3]; omega), ?_⟩
      rcases hmn with rfl | ⟨j, rfl, h0, h1'⟩
      · cases hRm
        exact ⟨.non, rfl, true, rfl, iteT ⟨_, _, rfl, rfl, str_size (by rw [show ∀ x y : Str, (x ++ y).length = x.length + y.length from fun x y => by rw [len_tl, len_tl, len_tl, tl_append, List.length_append], lx3]; show _ + 3 + 4 ≤ _; omega), fin H3 (Same.refl _)⟩⟩
      · cases hRm
        exact ⟨.int j, rfl, false, rfl, iteF ⟨.int j, rfl, j, rfl, Nat.lt_trans (PySem.Flt.log2_lt_of (by decide) (great140 h0 h1')) (by decide), _, _, rfl, rfl, str_size (by rw [show ∀ x y : Str, (x ++ y).length = x.length + y.length from fun x y => by rw [len_tl, len_tl, len_tl, tl_append, List.length_append], lx3]; have hwl : (Str.ofString (toString j)).length ≤ 200 := hwl; omega), fin H3 (Same.refl _)⟩⟩
  · obtain ⟨y2, y3, y4, rfl, s2, eD2⟩ := hP
    rw [lx, List.take_length] at eD2
    dsimp only []
    refine ⟨⟨_, rfl⟩, .ref D, rfl, _, D, _, rfl, rfl, .inl (SqL.of eD2), ?_, ?_⟩
    · have hsum : ∀ es : List PyData, (∀ x ∈ es, isPiece x = true) → (∀ x ∈ es, NumD (sndD x)) → ((es.map pieceT).map (·.length)).sum ≤ es.length * 2000 := by
        intro es
        induction es with
        | nil => intro _ _; exact Nat.le_refl _
        | cons e es ih =>
          intro h h'
          obtain ⟨t, m, hrow, ht, hm⟩ := piece_parts (h e List.mem_cons_self)
          obtain ⟨ts, hts, t1, t8, tp⟩ := turns_parts ht
          have htur : turnsD e = ts := by unfold turnsD; rw [hrow]; show (rowsD t).getD [] = ts; rw [hts]; rfl
          have h1 : (pieceT e).length ≤ 2000 := by
            unfold pieceT
            rw [htur]
            exact piece_len t8 (fun z hz => NumD.of (tp z hz)) (h' e List.mem_cons_self)
          have h2 := ih (fun d hd => h d (List.mem_cons_of_mem _ hd)) (fun d hd => h' d (List.mem_cons_of_mem _ hd))
          simp only [List.map_cons, List.sum_cons, List.length_cons]
          omega
      have h2 := hsum ds hpc hnm
      have h3 : (Str.ofString ", ").length = 2 := rfl
      rw [List.length_map, h3]
      omega
    · have hpl : planS d = Txt.join ", " (ds.map pieceT) := by unfold planS; rw [hd]; rfl
      rw [← hpl]
      exact q _ s2
end CL
set_option Elab.async false
set_option linter.all false
set_option pp.maxSteps 900
set_option maxRecDepth 100000
set_option maxHeartbeats 4000000
namespace CL
open PySem PySem.Spec PyProof.Rows L2 GE TL
theorem row_piece {x : RowT} (h : RowF x) (hm : isMany x.2 = true) : isPiece (rowD x) = true := by
  show isPiece (.tuple [.list x.1, x.2]) = true
  have : isTurns (.list x.1) = true := by
    show (decide (1 ≤ x.1.length) && decide (x.1.length ≤ 8) && x.1.all isPatience) = true
    rw [Bool.and_eq_true, Bool.and_eq_true, decide_eq_true_eq, decide_eq_true_eq, List.all_eq_true]
    exact ⟨⟨h.l1, h.l8⟩, h.pt⟩
  show (isTurns (.list x.1) && isMany x.2) = true
  rw [this, hm]
  rfl
theorem DrM.many {d : PyData} (h : DrM d) : isMany d = true ∧ 0 ≤ worth d ∧ worth d ≤ 100000000000000000000000000000 := by
  obtain ⟨m, rfl, h0, h1⟩ := h
  exact ⟨by simp [isMany]; omega, h0, by show m ≤ _; omega⟩
theorem sum_le {b : Int} : ∀ ds : List PyData, (∀ d ∈ ds, worth (sndD d) ≤ b) → sumSnd ds ≤ ds.length * b
  | [], _ => by simp [sumSnd]
  | d :: ds, h => by
    have e : sumSnd (d :: ds) = worth (sndD d) + sumSnd ds := rfl
    have h1 := h d List.mem_cons_self
    have h2 := sum_le ds fun x hx => h x (List.mem_cons_of_mem _ hx)
    rw [e, List.length_cons]
    have : ((ds.length + 1 : Nat) : Int) * b = (ds.length : Int) * b + b := by push_cast; rw [Int.add_mul, Int.one_mul]
    omega
theorem planL_plan {L : List RowT} (h : PlanL L) : isPlan (planD L) = true := by
  have hmany : ∀ x ∈ L, isMany x.2 = true ∧ 0 ≤ worth x.2 ∧ worth x.2 ≤ 100000000000000000000000000000 := fun x hx => by
    obtain ⟨i, hi⟩ := List.getElem?_of_mem hx
    rcases h.many i x hi with z | ⟨_, z⟩
    · exact z.many
    · rw [z]; exact ⟨rfl, by decide, by decide⟩
  show isPlanL (L.map rowD) = true
  have hl : (L.map rowD).length = L.length := List.length_map ..
  have hs : sumSnd (L.map rowD) ≤ GREAT := by
    have := sum_le (b := 100000000000000000000000000000) (L.map rowD) fun d hd => by
      obtain ⟨x, hx, rfl⟩ := List.mem_map.mp hd
      exact (hmany x hx).2.2
    rw [hl] at this
    have l8 := h.l8
    have hG : GREAT = 1000000000000000000000000000000 := rfl
    omega
  have hn : (((L.map rowD).take ((L.map rowD).length - 1)).any fun d => isNone (sndD d)) = false := by
    cases e : (((L.map rowD).take ((L.map rowD).length - 1)).any fun d => isNone (sndD d)) with
    | false => rfl
    | true =>
      obtain ⟨d, hd, hN⟩ := List.any_eq_true.mp e
      obtain ⟨i, hi⟩ := List.getElem?_of_mem hd
      rw [List.getElem?_take] at hi
      split at hi
      case isFalse => cases hi
      case isTrue hlt =>
        rw [List.getElem?_map] at hi
        obtain ⟨x, hx, rfl⟩ := Option.map_eq_some_iff.mp hi
        rcases h.many i x hx with ⟨m, z, _⟩ | ⟨z, _⟩
        · have : isNone x.2 = true := hN
          rw [z] at this
          cases this
        · omega
  unfold isPlanL
  rw [hn, hl]
  have h1 := h.l1
  have h8 := h.l8
  simp only [Bool.and_eq_true, decide_eq_true_eq, List.all_eq_true, Bool.not_false]
  refine ⟨⟨⟨⟨h1, h8⟩, fun d hd => ?_⟩, trivial⟩, hs⟩
  obtain ⟨x, hx, rfl⟩ := List.mem_map.mp hd
  exact row_piece (h.rows x hx) (hmany x hx).1

theorem call_reprA {X : Cx} {k : Nat} (hg : X.A.guards = some []) (hr : Room k X.A) (hsys : ∃ o, X.base.get? sysModules = some o) :
    CallR X (.builtin "repr") (fun xs H Q => ∃ v d, xs = [v] ∧ Rp H v d ∧ B 100 1000 d ∧ Q (.str d.shown) H) := by
  intro pins s σ H xs us Q I r h
  obtain ⟨v, d, rfl, hR, hB, q⟩ := h
  have rest : ∀ a, v = .ref a → wpAny (model X.prog X.w) X.A (call (.builtin "repr") us) (EP X pins σ Q) X.xe s := fun a e =>
    call_reprD hg hr hsys pins s σ H [v] us Q I r ⟨v, d, a, rfl, e, hR, hB.mono (by decide) (by decide), q⟩
  obtain ⟨u, rfl, rx⟩ := vals1 r
  cases hR with
  | non => cases rx; exact PySem.P.repr_of_none ⟨.str _, H, I.tok _, ⟨_, rfl⟩, q⟩
  | bl b => cases rx; exact PySem.P.repr_of_bool ⟨.str _, H, I.tok _, ⟨_, rfl⟩, q⟩
  | int i =>
    obtain ⟨t, rfl⟩ := (show ∃ t, u = Value.int i t from rx)
    exact PySem.P.repr_of_int (by have := hB.sh; simpa [PyData.showable] using this) ⟨.str _, H, I.tok _, ⟨_, rfl⟩, q⟩
  | str x =>
    obtain ⟨t, rfl⟩ := (show ∃ t, u = Value.str x t from rx)
    exact PySem.P.repr_of_str ⟨.str _, H, I.tok _, ⟨_, rfl⟩, q⟩ (by have h1 : (reprText x).length ≤ 1000 := hB.wt; rw [sizeLine_eq]; omega)
  | lst h1 h2 => exact rest _ rfl
  | tup h1 h2 => exact rest _ rfl
  | dct h1 => exact rest _ rfl


/-! ### texts that are drawn -/
theorem app_len (x y : Str) : (x ++ y).length = x.length + y.length := by rw [len_tl, len_tl, len_tl, tl_append, List.length_append]
theorem cut_len (z : Str) (lo hi : Option Int) : (cutS z lo hi).length ≤ z.length := by
  rw [len_tl, len_tl]
  show (((tl z).drop _).take _).length ≤ _
  rw [List.length_take, List.length_drop]
  omega
def repS (a : Str) (n : Nat) : Str := ⟨(List.replicate n a.cps).foldl (· ++ ·) #[]⟩
theorem rep_size (a : Array Nat) : ∀ (k : Nat) (acc : Array Nat), ((List.replicate k a).foldl (· ++ ·) acc).size = acc.size + k * a.size
  | 0, acc => by simp
  | k + 1, acc => by
    rw [List.replicate_succ, List.foldl_cons, rep_size a k, Array.size_append, Nat.add_mul, Nat.one_mul]
    omega
theorem rep_len (a : Str) (n : Nat) : (repS a n).length = n * a.length := by
  show ((List.replicate n a.cps).foldl (· ++ ·) #[]).size = n * a.cps.size
  rw [rep_size]
  exact Nat.zero_add _
def rAddS : R2 := fun x y H Q => ∃ i j, x = .str i ∧ y = .str j ∧ i.length + j.length ≤ sizeLine ∧ Q (.str (i ++ j)) H
theorem op_addS {X : Cx} : OpR X (binaryOp .Add) rAddS := op_add_str
def rRepG : R2 := fun x y H Q => ∃ (a : Str) (n : Nat), x = .str a ∧ y = .int (n : Int) ∧ 1 ≤ a.length ∧ a.length ≤ 10 ∧ n ≤ 5000 ∧ Q (.str (repS a n)) H
theorem op_repG {X : Cx} : OpR X (binaryOp .Mult) rRepG := by
  intro pins s σ H x y v u Q I rx ry h
  obtain ⟨a, n, rfl, rfl, a1, a2, hn, q⟩ := h
  obtain ⟨t, rfl⟩ := rx
  obtain ⟨t', rfl⟩ := ry
  have sz : 50000 ≤ sizeLine := by rw [sizeLine_eq]; decide
  have p63 : (2 : Int) ^ 63 = 9223372036854775808 := by decide
  have e2 : ((n : Int)).toNat = n := Int.toNat_natCast n
  have hm : a.length * n ≤ 10 * 5000 := Nat.mul_le_mul a2 hn
  refine P.mul_str (by rw [p63, decide_eq_false (by omega), decide_eq_false (by omega)]; rfl) (fun h1 h2 => ?_) (fun h1 h2 => decide_eq_false (by rw [e2]; omega)) ?_
  · have h3 : (a.length : Int) ≤ (2 ^ 63 - 1) / (n : Int) := by
      rw [Int.le_ediv_iff_mul_le (by omega), p63]
      have : ((a.length * n : Nat) : Int) ≤ 50000 := by omega
      rw [Int.natCast_mul] at this
      omega
    omega
  · by_cases h0 : (n : Int) < 1
    · rw [if_pos h0]
      obtain rfl : n = 0 := by omega
      exact ⟨Nat.zero_le _, .str (repS a 0), H, I.tok _, ⟨_, rfl⟩, q⟩
    · rw [if_neg h0]
      by_cases h1 : n = 1
      · subst h1
        rw [if_pos (by rfl)]
        have e : repS a 1 = a := by
          show (⟨#[] ++ a.cps⟩ : Str) = a
          rw [Array.empty_append]
        rw [e] at q
        exact ⟨.str a, H, I, ⟨_, rfl⟩, q⟩
      · rw [if_neg (by simp; omega), e2]
        refine ⟨?_, .str (repS a n), H, I.tok _, ⟨_, rfl⟩, q⟩
        have := rep_len a n
        show (repS a n).length ≤ sizeLine
        rw [this, Nat.mul_comm]
        omega
def Sm (N : Nat) (d : PyData) : Prop := ∃ t : Str, d = .str t ∧ t.length ≤ N
section
variable {c c1 c2 c3 : Nat} {r : Bg} {W : Addr → Prop} {G : Gam} {σ : L2.St}
theorem evs_v {i N : Nat} {t : Str} (h : σ[i]? = some (some (.str t))) (hl : t.length ≤ N) : Ev 0 r W G σ (tVar i) (Sm N) := fun n H Q l s q => ⟨.str t, h, q _ _ H s.re (Mv.refl r H) (.str t) ⟨t, rfl, hl⟩⟩
theorem evs_add {ta tb : TE} {m n : Nat} (a : Ev c1 r W G σ ta (Sm m)) (b : Ev c2 r W G σ tb (Sm n)) (hN : m + n ≤ 1000000) : Ev (c1 + c2) r W G σ (tOp rAddS ta tb) (Sm (m + n)) := fun k H Q l s q =>
  a k H _ (by omega) s fun v d H1 re1 m1 rp1 ⟨t, e1, l1⟩ => b (k + c1) H1 _ (by omega) (s.mv re1 m1) fun v2 d2 H2 re2 m2 rp2 ⟨t2, e2, l2⟩ => by
    subst e1 e2
    cases rp1
    cases rp2
    exact ⟨t, t2, rfl, rfl, Nat.le_trans (show _ ≤ 1000000 by omega) (by rw [sizeLine_eq]; decide), q _ _ H2 re2.to (m1.trans m2) (.str _) ⟨t ++ t2, rfl, by rw [app_len]; omega⟩⟩
theorem evs_up {te : TE} {m N : Nat} (a : Ev c r W G σ te (Sm m)) (h : m ≤ N) : Ev c r W G σ te (Sm N) := a.imp fun d ⟨t, e, l⟩ => ⟨t, e, Nat.le_trans l h⟩
theorem evs_rep {ti : TE} {a : Str} {M : Nat} (b : Ev c r W G σ ti (fun d => ∃ k : Nat, d = .int (k : Int) ∧ k ≤ M)) (h1 : 1 ≤ a.length) (h2 : a.length ≤ 10) (hM : M ≤ 5000) : Ev c r W G σ (tOp rRepG (tC (.str a)) ti) (Sm (M * a.length)) := fun n H Q l s q =>
  b n H _ l s fun v d H1 re1 m1 rp1 ⟨k, e, hk⟩ => by
    subst e
    cases rp1
    exact ⟨a, k, rfl, rfl, h1, h2, by omega, q _ _ H1 re1 m1 (.str _) ⟨_, rfl, by rw [rep_len]; exact Nat.mul_le_mul_right _ hk⟩⟩
theorem evs_sl {i N : Nat} {t : Str} {tl th : TO} {PL PH : Option Int → Prop} (h : σ[i]? = some (some (.str t))) (hN : t.length ≤ N) (hl : ∀ n H Q, n + c2 ≤ M60 → Se n r W G H → (∀ l H', BagAt (n + c2) H' r → Mv r H H' → PL l → Q l H') → tl σ H Q)
    (hh : ∀ n H Q, n + c3 ≤ M60 → Se n r W G H → (∀ l H', BagAt (n + c3) H' r → Mv r H H' → PH l → Q l H') → th σ H Q) (hs : N ≤ 1000000) : Ev (c2 + c3) r W G σ (tSl rSlS (tVar i) tl th) (Sm N) := fun n H Q l s q =>
  ⟨.str t, h, hl n H _ (by omega) s fun lo H2 re2 m2 _ => hh (n + c2) H2 _ (by omega) (s.mv re2 m2) fun u H3 re3 m3 _ => ⟨t, rfl, Nat.le_trans (show _ ≤ 1000000 by omega) (by rw [sizeLine_eq]; decide), q _ _ H3 re3.to (m2.trans m3) (.str _) ⟨_, rfl, Nat.le_trans (cut_len t lo u) hN⟩⟩⟩
theorem ea_set {ta : TA} {m i n : Nat} {P : PyData → Prop} {D : Ends} {H : Hp} (e : EvA c r W G σ ta m P) (l : n + c ≤ M60) (s : Se n r W G H) (hm : m ≤ 1000)
    (h : ∀ D1 vs ds H', BagAt (n + c) H' r → Mv r H H' → RpAll (Hw W H') vs ds → ds.length = m → (∀ x ∈ ds, P x) → H' D1 = none → D.nx (σ.set i (some (.ref D1))) (upd H' D1 (.lst vs))) : tAsg (tLst ta) (gName i) D σ H :=
  e n H _ l s fun vs ds H' b mv rp ld p => ⟨small_le (by rw [rp.length, ld]; exact hm), fun D1 n1 => h D1 vs ds H' b mv rp ld p n1⟩
theorem evi_lenS {i : Nat} {t : Str} (h : σ[i]? = some (some (.str t))) (hs : t.length ≤ 1000000) : EvI 0 r W G σ (tCB (fun xs H Q => ∃ a, xs = [V.str a] ∧ a.length ≤ sizeLine ∧ Q (.int (a.length : Nat)) H) (tCons (tVar i) tNil)) (· = ((t.length : Nat) : Int)) := fun n H Q l s q =>
  ⟨.str t, h, t, rfl, Nat.le_trans hs (by rw [sizeLine_eq]; decide), q _ H s.re (Mv.refl r H) rfl⟩
end
theorem mv_free {n : Nat} {r : Bg} {H H' : Hp} {D : Addr} (m : Mv r H H') (b : BagAt n H' r) (h : H' D = none) : H D = none := by
  cases e : H D with
  | none => rfl
  | some o =>
    by_cases c : D = r.a
    · rw [c] at h
      exact absurd h b.some
    · have := m.keep D o c e
      rw [h] at this
      cases this
abbrev sBent : Stmt := topS 57
abbrev nBent : List Str := ["bag", "text", "at", "far", "some", "sign", "wide", "found"]
theorem scBent : FnScope nBent ["bag", "text"] (defScope sBent) := ⟨rfl, rfl, rfl, by decide +kernel, rfl, by decide +kernel, by decide +kernel⟩
def spBent (r : Bg) : Sp := fun vs H Q _ => ∃ (t : Str) (n : Nat), vs = [.ref r.a, .str t] ∧ BagAt n H r ∧ n + 5 ≤ M60 ∧ t.length ≤ 100000 ∧ ∀ t' H', BagAt (n + 5) H' r → Mv r H H' → t'.length ≤ 2 * t.length + 400 → Q (.str t') H'
section
variable {P : Program} {w : World} {K : PySem.W.Frag} {mg : Str → Option Value} {base : Heap}
theorem ok_bent {f : Addr} {r : Bg} {fd : FuncData} (F : Fun K "_law_bent" "_law_bent" sBent f fd) (T : Nm mg) (CD : Cal P w K mg base 2 "_law_draw" ["bag", "many"] (spDraw r)) : FnOk P w K mg base CX0 3 f fd ["bag", "text"] (spBent r) := by
  refine F.ok scBent (fun vs H Q E ⟨t, n, e, _⟩ => by rw [e]; rfl) (fun cdv A outer s H vs Q E hr h => ?_)
  obtain ⟨t, n, rfl, hb, hn, hl, q⟩ := h
  have nd := scBent.nd
  have t140 : (2 : Int) ^ 140 = 1393796574908163946345982392040522594123776 := by decide +kernel
  refine ⟨_, (pss_cons (ps_set (i := 2) nd rfl (.inl rfl) (pe_cal (CD.mono (by decide)) hr (by rfl) (pa_cons (pv 0) (pa_cons (pe_op op_add (pe_callB call_len_str (by rfl) T.len PySem.boot_len (pa_cons (pv 1) pa_nil)) pe_int) pa_nil))))
      (pss_cons (ps_set (i := 3) nd rfl (.inl rfl) (pe_op op_addS pe_str (pe_op op_repG pe_str (pe_ix ix_list (pe_lst (pa_cons pe_int (pa_cons pe_int (pa_cons pe_int (pa_cons pe_int pa_nil))))) (pe_cal (CD.mono (by decide)) hr (by rfl) (pa_cons (pv 0) (pa_cons pe_int pa_nil))) (fun _ _ => rfl)))))
      (pss_cons (ps_set (i := 4) nd rfl (.inl rfl) (pe_lst (pa_cons pe_str (pa_cons pe_str (pa_cons pe_str (pa_cons pe_str (pa_cons pe_str (pa_cons pe_str (pa_cons pe_str (pa_cons pe_str (pa_cons pe_str (pa_cons pe_str (pa_cons pe_str (pa_cons pe_str (pa_cons pe_str (pa_cons (pv 3) (pa_cons pe_str (pa_cons pe_str pa_nil))))))))))))))))))
      (pss_cons (ps_expr (pe_bm PySem.F.plainAttrs_list PySem.F.slot_list_append PySem.F.type_list_append mt_append (pv 4) (pa_cons (pe_op op_repG pe_str pe_int) pa_nil)))
      (pss_cons (ps_set (i := 4) nd rfl (.inl rfl) (pe_op op_cat (pv 4) (pe_lst (pa_cons pe_str (pa_cons (pe_op op_addS pe_str (pv 3)) (pa_cons pe_str (pa_cons pe_str (pa_cons (pe_op op_repG pe_str pe_int) pa_nil))))))))
      (pss_cons (ps_set (i := 5) nd rfl (.inl rfl) (pe_ix ix_list (pv 4) (pe_cal (CD.mono (by decide)) hr (by rfl) (pa_cons (pv 0) (pa_cons (pe_callB call_len_seq (by rfl) T.len PySem.boot_len (pa_cons (pv 4) pa_nil)) pa_nil))) (fun _ _ => rfl)))
      (pss_cons (ps_set (i := 6) nd rfl (.inl rfl) (pe_cal (CD.mono (by decide)) hr (by rfl) (pa_cons (pv 0) (pa_cons pe_int pa_nil))))
      (pss_cons (ps_set (i := 7) nd rfl (.inl rfl) (pe_lst (pa_cons (pe_op op_addS (pe_op op_addS (pe_slice sl_str (pv 1) po_none (po_some (pv 2))) (pv 5)) (pe_slice sl_str (pv 1) (po_some (pv 2)) po_none)) (pa_cons (pe_op op_addS (pe_op op_addS (pe_slice sl_str (pv 1) po_none (po_some (pv 2))) (pv 5)) (pe_slice sl_str (pv 1) (po_some (pe_op op_add (pv 2) pe_int)) po_none)) (pa_cons (pe_op op_addS (pe_slice sl_str (pv 1) po_none (po_some (pv 2))) (pe_slice sl_str (pv 1) (po_some (pe_op op_add (pe_op op_add (pv 2) pe_int) (pv 6))) po_none)) pa_nil)))))
      (pss_cons (ps_set (i := 7) nd rfl (.inl rfl) (pe_op op_cat (pv 7) (pe_lst (pa_cons (pe_op op_addS (pv 1) (pv 5)) (pa_cons (pe_op op_addS (pv 5) (pv 1)) (pa_cons (pe_op op_addS (pe_op op_addS (pv 1) pe_str) (pv 1)) (pa_cons (pe_op op_addS (pe_op op_addS (pe_slice sl_str (pv 1) (po_some (pv 2)) po_none) (pv 5)) (pe_slice sl_str (pv 1) po_none (po_some (pv 2)))) pa_nil)))))))
      (pss_one (ps_ret (pe_ix ix_list (pv 7) (pe_cal (CD.mono (by decide)) hr (by rfl) (pa_cons (pv 0) (pa_cons (pe_callB call_len_seq (by rfl) T.len PySem.boot_len (pa_cons (pv 7) pa_nil)) pa_nil))) (fun _ _ => rfl))))))))))))), ?_⟩
  have S0 : Se n r (fun b => b = r.a) [] H := ⟨hb, ⟨rfl, fun b hb' => by rw [hb']; exact hb.some⟩, fun p hp => nomatch hp⟩
  generalize hL : t.length = L at hl q
  have hL : t.length ≤ L := by omega
  have tlen : ((t.length : Nat) : Int) + 1 < 2 ^ 140 := by rw [t140]; omega
  refine evi_set (i := 2) (ev_draw (evi_add (evi_lenS (i := 1) (t := t) rfl (by omega)) (ev_int (i := 1))) rfl (by omega) tlen) (by omega) S0 fun x H1 S1 m1 hx => ?_
  show tSeq _ _ _ [some (.ref r.a), some (.str t), some (.int x), none, none, none, none, none] H1
  have i4 : ∀ {σ : L2.St} {W : Addr → Prop} {G : Gam} {M : Nat} (z : Nat), z ≤ M → Ev 0 r W G σ (tC (.int (z : Int))) (fun d => ∃ k : Nat, d = .int (k : Int) ∧ k ≤ M) := fun z hz => (ev_int (i := (z : Int))).ev fun i e => ⟨z, by rw [e], hz⟩
  refine ev_set (i := 3) (evs_up (N := 301) (evs_add (ev_str (x := "1") (P := Sm 1) ⟨_, rfl, by decide⟩) (evs_rep (a := "0") (M := 300) (ev_ix (ev_lst (eva_cons (i4 29 (by decide)) (eva_cons (i4 30 (by decide)) (eva_cons (i4 31 (by decide)) (eva_cons (i4 300 (by decide)) eva_nil))))) (ev_draw (ev_int (i := 4)) rfl (by decide) (by decide))) (by decide) (by decide) (by decide)) (by decide)) (by decide)) (by omega) S1 fun v3 d3 H3 S3 m3 h3 => ?_
  obtain ⟨tf, rfl, lf⟩ := h3
  obtain rfl : v3 = .str tf := by
    have := S3.ok (v3, .str tf) List.mem_cons_self
    cases this
    rfl
  have S3 : Se _ r (fun b => b = r.a) [] H3 := ⟨S3.re, S3.wk, fun p hp => nomatch hp⟩
  dsimp only []
  show tSeq _ _ _ [some (.ref r.a), some (.str t), some (.int x), some (.str tf), none, none, none, none] H3
  have cs : ∀ {σ : L2.St} {W : Addr → Prop} {G : Gam} (z : Str), z.length ≤ 310 → Ev 0 r W G σ (tC (.str z)) (Sm 310) := fun z hz => ev_str ⟨z, rfl, hz⟩
  have ea : EvA _ r (fun b => b = r.a) [] [some (.ref r.a), some (.str t), some (.int x), some (.str tf), none, none, none, none] (tCons (tC (.str ", ")) (tCons (tC (.str " x ")) (tCons (tC (.str " ")) (tCons (tC (.str ",")) (tCons (tC (.str "x")) (tCons (tC (.str "\n")) (tCons (tC (.str "0")) (tCons (tC (.str "-")) (tCons (tC (.str "+")) (tCons (tC (.str "1")) (tCons (tC (.str "never")) (tCons (tC (.str "ever")) (tCons (tC (.str "a")) (tCons (tVar 3) (tCons (tC (.str "3 x 4")) (tCons (tC (.str ", 1 x 2")) tNil)))))))))))))))) 16 (Sm 310) :=
    eva_cons (cs ", " (by decide)) (eva_cons (cs " x " (by decide)) (eva_cons (cs " " (by decide)) (eva_cons (cs "," (by decide)) (eva_cons (cs "x" (by decide)) (eva_cons (cs "\n" (by decide)) (eva_cons (cs "0" (by decide)) (eva_cons (cs "-" (by decide)) (eva_cons (cs "+" (by decide)) (eva_cons (cs "1" (by decide)) (eva_cons (cs "never" (by decide)) (eva_cons (cs "ever" (by decide)) (eva_cons (cs "a" (by decide)) (eva_cons (evs_v rfl (by omega)) (eva_cons (cs "3 x 4" (by decide)) (eva_cons (cs ", 1 x 2" (by decide)) eva_nil)))))))))))))))
  refine ea_set (i := 4) ea (by omega) S3 (by decide) fun D vs ds H4 b4 m4 rp4 l4 p4 nD => ?_
  have D4 := DS.mk' (S3.mv b4 m4) nD rp4
  have m5 := (m1.trans m3).trans (m4.trans (Mv.of (same_upd (o := .lst vs) nD)))
  generalize upd H4 D (.lst vs) = H5 at D4 m5 ⊢
  dsimp only []
  show tSeq _ _ _ [some (.ref r.a), some (.str t), some (.int x), some (.str tf), some (.ref D), none, none, none] H5
  obtain ⟨fv, hfv, lfv, D5⟩ := D4.app D4.se.re (Mv.refl r H5) (v := .str (repS " 0" 8)) (d := .str (repS " 0" 8)) (.str _)
  refine ⟨.ref D, rfl, .inl ⟨rfl, _, SqL.of hfv⟩, " 0", 8, rfl, rfl, by decide, by decide, by decide, D, fv, .str (repS " 0" 8), rfl, rfl, hfv, small1000 (by rw [lfv, l4]; decide), ?_⟩
  have hDd : Ls 17 17 (Sm 310) (.list (ds ++ [.str (repS " 0" 8)])) := ⟨_, rfl, by rw [List.length_append, l4]; decide, by rw [List.length_append, l4]; decide, fun z hz => by
    rcases List.mem_append.mp hz with hz | hz
    · exact p4 z hz
    · rw [List.mem_singleton.mp hz]
      exact ⟨_, rfl, by rw [rep_len]; decide⟩⟩
  have nD0 : H D = none := mv_free ((m1.trans m3).trans m4) b4 nD
  have m6 := m5.upd (o := .lst (fv ++ [.str (repS " 0" 8)])) nD0
  generalize upd H5 D (.lst (fv ++ [.str (repS " 0" 8)])) = H6 at D5 m6 ⊢
  have S6 := D5.back
  generalize hds : ds ++ [.str (repS " 0" 8)] = es at S6 hDd
  clear D5 D4 hfv lfv rp4 p4 l4
  try dsimp only []
  show tSeq _ _ _ [some (.ref r.a), some (.str t), some (.int x), some (.str tf), some (.ref D), none, none, none] H6
  refine ev_set (i := 4) (ev_cat (ev_var (i := 4) rfl List.mem_cons_self hDd) (ev_lst (eva_cons (cs ", 5 x ever" (by decide)) (eva_cons (evs_up (evs_add (ev_str (x := ", 1 x ") (P := Sm 6) ⟨_, rfl, by decide⟩) (evs_v (i := 3) rfl lf) (by decide)) (by decide)) (eva_cons (cs ", never x 0" (by decide)) (eva_cons (cs " never" (by decide)) (eva_cons (evs_up (evs_rep (a := ", 0 x 1") (M := 8) (i4 8 (by decide)) (by decide) (by decide) (by decide)) (by decide)) eva_nil))))))) (by omega) S6 fun v7 d7 H7 S7 m7 h7 => ?_
  obtain ⟨es7, rfl, a7, b7, p7⟩ := id h7
  have l7 : es7.length = 22 := Nat.le_antisymm b7 a7
  have S7 : Se _ r (fun b => b = r.a) [(v7, .list es7)] H7 := ⟨S7.re, S7.wk, fun p hp => S7.ok p (by rw [List.mem_singleton.mp hp]; exact List.mem_cons_self)⟩
  dsimp only []
  show tSeq _ _ _ [some (.ref r.a), some (.str t), some (.int x), some (.str tf), some v7, none, none, none] H7
  refine ev_set (i := 5) (ev_ix (K := K) (ev_var (i := 4) rfl List.mem_cons_self h7) ((ev_draw (ev_len (K := K) (i := 4) (v := v7) (ds := es7) rfl List.mem_cons_self) rfl (by rw [l7]; decide) (by rw [l7]; decide)).imp fun i hi => ⟨hi.1, by rw [l7] at hi; exact hi.2⟩)) (by omega) S7 fun v8 d8 H8 S8 m8 h8 => ?_
  obtain ⟨sg, rfl, lsg⟩ := h8
  obtain rfl : v8 = .str sg := by
    have := S8.ok (v8, .str sg) List.mem_cons_self
    cases this
    rfl
  have S8 : Se _ r (fun b => b = r.a) [] H8 := ⟨S8.re, S8.wk, fun p hp => nomatch hp⟩
  dsimp only []
  show tSeq _ _ _ [some (.ref r.a), some (.str t), some (.int x), some (.str tf), some v7, some (.str sg), none, none] H8
  refine evi_set (i := 6) (ev_draw (ev_int (i := 4)) rfl (by decide) (by decide)) (by omega) S8 fun y H9 S9 m9 hy => ?_
  dsimp only []
  show tSeq _ _ _ [some (.ref r.a), some (.str t), some (.int x), some (.str tf), some v7, some (.str sg), some (.int y), none] H9
  have E1 : ∀ {σ : L2.St} {W : Addr → Prop} {G : Gam}, σ[1]? = some (some (.str t)) → σ[2]? = some (some (.int x)) → Ev _ r W G σ (tSl rSlS (tVar 1) tNoPart (tPart (tVar 2))) (Sm L) := fun h1 h2 => evs_sl h1 hL part_none (part_some (ev_varI h2)) (by omega)
  have E2 : ∀ {σ : L2.St} {W : Addr → Prop} {G : Gam}, σ[1]? = some (some (.str t)) → σ[2]? = some (some (.int x)) → Ev _ r W G σ (tSl rSlS (tVar 1) (tPart (tVar 2)) tNoPart) (Sm L) := fun h1 h2 => evs_sl h1 hL (part_some (ev_varI h2)) part_none (by omega)
  have ES : ∀ {σ : L2.St} {W : Addr → Prop} {G : Gam}, σ[5]? = some (some (.str sg)) → Ev _ r W G σ (tVar 5) (Sm 310) := fun h => evs_v h lsg
  refine ev_set (i := 7) (ev_lst (P := Sm (2 * L + 400)) (eva_cons (evs_up (evs_add (evs_add (E1 rfl rfl) (ES rfl) (by omega)) (E2 rfl rfl) (by omega)) (by omega)) (eva_cons (evs_up (evs_add (evs_add (E1 rfl rfl) (ES rfl) (by omega)) (evs_sl (N := L) (i := 1) (t := t) rfl hL (part_some (evi_add (ev_varI (i := 2) (x := x) rfl) (ev_int (i := 1)))) part_none (by omega)) (by omega)) (by omega)) (eva_cons (evs_up (evs_add (E1 rfl rfl) (evs_sl (N := L) (i := 1) (t := t) rfl hL (part_some (evi_add (evi_add (ev_varI (i := 2) (x := x) rfl) (ev_int (i := 1))) (ev_varI (i := 6) (x := y) rfl))) part_none (by omega)) (by omega)) (by omega)) eva_nil)))) (by omega) S9 fun v10 d10 H10 S10 m10 h10 => ?_
  dsimp only []
  show tSeq _ _ _ [some (.ref r.a), some (.str t), some (.int x), some (.str tf), some v7, some (.str sg), some (.int y), some v10] H10
  refine ev_set (i := 7) (ev_cat (ev_var (i := 7) rfl List.mem_cons_self h10) (ev_lst (eva_cons (evs_up (evs_add (evs_v (i := 1) (t := t) (N := L) rfl hL) (ES rfl) (by omega)) (by omega)) (eva_cons (evs_up (evs_add (ES rfl) (evs_v (i := 1) (t := t) (N := L) rfl hL) (by omega)) (by omega)) (eva_cons (evs_up (evs_add (evs_add (evs_v (i := 1) (t := t) (N := L) rfl hL) (ev_str (x := ", ") (P := Sm 2) ⟨_, rfl, by decide⟩) (by omega)) (evs_v (i := 1) (t := t) (N := L) rfl hL) (by omega)) (by omega)) (eva_cons (evs_up (evs_add (evs_add (E2 rfl rfl) (ES rfl) (by omega)) (E1 rfl rfl) (by omega)) (by omega)) eva_nil)))))) (by omega) S10 fun v11 d11 H11 S11 m11 h11 => ?_
  obtain ⟨es11, rfl, a11, b11, p11⟩ := id h11
  have l11 : es11.length = 7 := Nat.le_antisymm b11 a11
  dsimp only []
  show tRet _ _ [some (.ref r.a), some (.str t), some (.int x), some (.str tf), some v7, some (.str sg), some (.int y), some v11] H11
  refine (ev_ix (K := K) (ev_var (i := 7) rfl List.mem_cons_self h11) ((ev_draw (ev_len (K := K) (i := 7) (v := v11) (ds := es11) rfl List.mem_cons_self) rfl (by rw [l11]; decide) (by rw [l11]; decide)).imp fun i hi => ⟨hi.1, by rw [l11] at hi; exact hi.2⟩)) _ H11 _ (by omega) S11 fun v12 d12 H12 b12 m12 rp12 h12 => ?_
  obtain ⟨t', rfl, lt'⟩ := h12
  cases rp12
  exact q t' H12 b12.to (m6.trans (m7.trans (m8.trans (m9.trans (m10.trans (m11.trans m12)))))) (by omega)
end
end CL
set_option Elab.async false
set_option linter.all false
set_option pp.maxSteps 900
set_option maxRecDepth 100000
set_option maxHeartbeats 4000000
namespace CL
open PySem PySem.Spec PyProof.Rows L2 GE TL
structure CalG (P : Program) (w : World) (K : PySem.W.Frag) (mg : Str → Option Value) (base : Heap) (k : Nat) (x : Str) (ps : List Str) (sp : Sp) : Prop where
  ex : ∃ f fd, mg x = some (.ref f) ∧ PySem.W.keepIn K (.ref f) = true ∧ Binds K fd ps [] ∧ FnG P w K mg base k f fd ps sp
theorem pe_calG {X : Cx} {k : Nat} {x : Str} {ps : List Str} {sp : Sp} {p pos : Pos} {e : Expr} {es : List Expr} {t : TA} (C : CalG X.prog X.w X.K X.mg X.base k x ps sp) (hgd : X.A.guards = some []) (len : ∀ vs H Q E, sp vs H Q E → vs.length = ps.length) (hr : Room k X.A) (hg : Gl X x) (ha : PA X (e :: es) t) (hdb : (x == ("__debug__" : Str)) = false := by decide)
    (he : starEach (e :: es) X.env = (false, eval e X.env) :: starEach es X.env := by rfl) (hpl : (backTo pos (starEach es X.env)).any (·.1) = false := by rfl) : PE X (.Call (.Name x p) (e :: es) [] pos) (tCall sp [] E0 t) := by
  obtain ⟨f, fd, h1, h2, h3, h4⟩ := C.ex
  refine ⟨fun pins s σ H Q I h => wpAny_Call_Name_kw (ld_glob I hg h1 ?_ hdb)⟩
  have run := ha.run pos pins s σ H _ I h
  refine PySem.W.callWith_K (h₀ := X.base) I.ok.mod.kin h2 (thn run fun us s1 ⟨vs, H1, I1, r, q⟩ => ⟨I1.kIn, ?_⟩) he hpl
  have q : sp (vs ++ []) H1 Q E0 := q
  rw [List.append_nil] at q
  have b := h3 s1 us I1.kIn (by rw [List.append_nil, ← r.length]; exact len _ _ _ _ q)
  rw [List.append_nil] at b
  exact wpAny_call (codeAny_mono (h4.run X.A X.stack s1 H1 ⟨us, []⟩ us vs Q E0 hgd hr I1.env0 b r q) fun z s' hz => match z, hz with
    | .ok (.ret _), hz => I1.after hz
    | .error e, hz => pass0 pins σ H1 s1 e s' I1 hz)


theorem cut_to_le (t : Str) (k : Nat) : (cutS t none (some (k : Int))).length ≤ k := by
  rw [len_tl]
  show ((t.cps.toList.drop (HT.sIx t.length 0 none)).take (HT.sIx t.length t.length (some (k : Int)) - HT.sIx t.length 0 none)).length ≤ _
  rw [HT.sIx_nat, List.length_take]
  show min (min k t.length - 0) _ ≤ _
  omega
theorem cut_from_le (t : Str) (k : Nat) : (cutS t (some (k : Int)) none).length ≤ t.length - k := by
  rw [len_tl, cut_from_tl, List.length_drop, ← len_tl]
  omega
section
variable {c c1 c2 c3 : Nat} {r : Bg} {W : Addr → Prop} {G : Gam} {σ : L2.St}
theorem evi_addG {ta tb : TE} {x : Int} {P : Int → Prop} (a : EvI c1 r W G σ ta (· = x)) (b : EvI c2 r W G σ tb P) : EvI (c1 + c2) r W G σ (tOp (rI0 fun i j => .int (i + j)) ta tb) (fun z => ∃ j, z = x + j ∧ P j) := fun n H Q l s q =>
  a n H _ (by omega) s fun i H1 re1 m1 e1 => b (n + c1) H1 _ (by omega) (s.mv re1 m1) fun j H2 re2 m2 e2 => ⟨i, j, rfl, rfl, q _ H2 re2.to (m1.trans m2) ⟨j, by rw [e1], e2⟩⟩
theorem evs_to {i k : Nat} {t : Str} {ti : TE} (h : σ[i]? = some (some (.str t))) (b : EvI c r W G σ ti (· = (k : Int))) (hs : t.length ≤ 1000000) : Ev c r W G σ (tSl rSlS (tVar i) tNoPart (tPart ti)) (Sm k) := fun n H Q l s q =>
  ⟨.str t, h, part_some b n H (fun u H3 => rSlS (.str t) none u H3 Q) l s fun lo H2 re2 m2 ⟨j, e, ej⟩ => ⟨t, rfl, Nat.le_trans hs (by rw [sizeLine_eq]; decide), q _ _ H2 re2 m2 (.str _) ⟨_, rfl, by rw [e, ej]; exact cut_to_le t k⟩⟩⟩
theorem evs_from {i k : Nat} {t : Str} {ti : TE} (h : σ[i]? = some (some (.str t))) (b : EvI c r W G σ ti (· = (k : Int))) (hs : t.length ≤ 1000000) : Ev c r W G σ (tSl rSlS (tVar i) (tPart ti) tNoPart) (Sm (t.length - k)) := fun n H Q l s q =>
  ⟨.str t, h, part_some b n H (fun lo H2 => tNoPart σ H2 fun u H3 => rSlS (.str t) lo u H3 Q) l s fun lo H2 re2 m2 ⟨j, e, ej⟩ => ⟨t, rfl, Nat.le_trans hs (by rw [sizeLine_eq]; decide), q _ _ H2 re2 m2 (.str _) ⟨_, rfl, by rw [e, ej]; exact cut_from_le t k⟩⟩⟩
end
/-- what is told and due, as data -/
def dueD (t : Str) : PyData := match badAt (Txt.split t ", ") with
  | some i => .int (i : Nat)
  | none => .str (if isPlan (planD (rowsS t)) = true then "told" else "NoPlan")
theorem due_rp {H : Hp} (t : Str) : Rp H (dueV t) (dueD t) := by
  unfold dueV dueD
  cases badAt (Txt.split t ", ") with
  | some i => exact .int _
  | none => exact .str _
theorem badAt_lt : ∀ {ps : List Str} {i : Nat}, badAt ps = some i → i < ps.length
  | p :: ps, i, h => by
    unfold badAt at h
    split at h
    · obtain ⟨j, hj, rfl⟩ := Option.map_eq_some_iff.mp h
      exact Nat.succ_lt_succ (badAt_lt hj)
    · cases h
      exact Nat.succ_pos _
theorem b_str {x : Str} {k : Nat} (h : (reprText x).length ≤ 200) : B k 200 (.str x) := ⟨Nat.zero_le _, h, rfl⟩
theorem due_b {t : Str} (h : t.length ≤ 4200) : B 100 1000 (dueD t) := by
  unfold dueD
  cases e : badAt (Txt.split t ", ") with
  | some i =>
    have h1 := badAt_lt e
    have h2 := (split_sizes (x := t) (y := ", ") (by decide)).2
    exact (b_int (by
      have : ((i : Nat) : Int).natAbs = i := by omega
      rw [this]
      exact Nat.lt_of_lt_of_le (show i < 10000 by omega) (by decide +kernel))).mono (Nat.le_refl _) (by decide)
  | none =>
    refine (b_str ?_).mono (Nat.le_refl _) (by decide)
    split <;> decide +kernel
abbrev sLong : Stmt := topS 58
abbrev nLong : List Str := ["bag", "text", "at", "bent", "other"]
theorem scLong : FnScope nLong ["bag"] (defScope sLong) := ⟨rfl, rfl, rfl, by decide +kernel, rfl, by decide +kernel, by decide +kernel⟩
/-- all but the bag and tables stays -/
def Ky (r : Bg) (H H' : Hp) : Prop := ∀ b o, b ≠ r.a → H b = some o → (∀ ps, o ≠ .tbl ps) → H' b = some o
theorem Ky.mv {r : Bg} {H H' : Hp} (m : Mv r H H') : Ky r H H' := fun b o n e _ => m.keep b o n e
theorem Ky.ex {r : Bg} {H H' : Hp} (x : Ex H H') : Ky r H H' := fun b o _ e n => x.keep e n
theorem Ky.same {r : Bg} {H H' : Hp} (s : Same H H') : Ky r H H' := fun b o _ e _ => s b o e
theorem Ky.trans {r : Bg} {H H1 H2 : Hp} (a : Ky r H H1) (b : Ky r H1 H2) : Ky r H H2 := fun c o n e t => b c o n (a c o n e t) t
theorem Ky.seq {r : Bg} {K : PySem.W.Frag} {H H' : Hp} {a : Addr} {xs : List V} (k : Ky r H H') (n : a ≠ r.a) (h : SqL K H a xs) : SqL K H' a xs := by
  rcases h with (e | ⟨o, e⟩) | h
  · exact .inl (.inl (k a _ n e fun _ => nofun))
  · exact .inl (.inr ⟨o, k a _ n e fun _ => nofun⟩)
  · exact .inr h
def spLong (P1 P2 P3 : Addr) (r : Bg) : Sp := fun vs H Q _ => ∃ n : Nat, vs = [.ref r.a] ∧ BagAt n H r ∧ n + 8 ≤ M60 ∧ Tb P1 P2 H ∧ GxR.TabG H P3 ∧ ∀ H', BagAt (n + 8) H' r → Tb P1 P2 H' → GxR.TabG H' P3 → Ky r H H' → Q (.bl true) H'
theorem tb_ex {P1 P2 : Addr} {H H' : Hp} (h : Tb P1 P2 H) (x : Ex H H') : Tb P1 P2 H' := ⟨tabG_ex h.1 x, tabG_ex h.2 x⟩
theorem tb_mv {n : Nat} {P1 P2 : Addr} {r : Bg} {H H' : Hp} (h : Tb P1 P2 H) (b : BagAt n H r) (m : Mv r H H') : Tb P1 P2 H' := ⟨tabG_mv h.1 b m, tabG_mv h.2 b m⟩
section
variable {P : Program} {w : World} {K : PySem.W.Frag} {mg : Str → Option Value} {base : Heap}
theorem ok_long {f P1 P2 P3 : Addr} {r : Bg} {fd : FuncData} (F : Fun K "_law_long_right" "_law_long_right" sLong f fd) (T : Nm mg) (N5 : Nm5 mg) (hsys : ∃ o, base.get? sysModules = some o) (CD : Cal P w K mg base 2 "_law_draw" ["bag", "many"] (spDraw r))
    (CT : Cal P w K mg base 10 "_law_told" ["text"] (spTold P1 P2 P3)) (CU : Cal P w K mg base 3 "_law_due" ["text"] spLDue) : FnG P w K mg base 11 f fd ["bag"] (spLong P1 P2 P3 r) := by
  refine fng_of F scLong (fun vs H Q E ⟨n, e, _⟩ => by rw [e]; rfl) (fun cdv A outer s H vs Q E hgd hr h => ?_)
  obtain ⟨n, rfl, hb, hn, hT, hT3, q⟩ := h
  have nd := scLong.nd
  have t140 : (2 : Int) ^ 140 = 1393796574908163946345982392040522594123776 := by decide +kernel
  refine ⟨_, (pss_cons (ps_set (i := 1) nd rfl (.inl rfl) (pe_op op_addS pe_str (pe_op op_repG pe_str (pe_op op_add pe_int (pe_cal (CD.mono (by decide)) hr (by rfl) (pa_cons (pv 0) (pa_cons pe_int pa_nil)))))))
      (pss_cons (ps_if (pt_cmpR op_eq (pe_cal (CD.mono (by decide)) hr (by rfl) (pa_cons (pv 0) (pa_cons pe_int pa_nil))) pe_int (nomark _)) (pss_one (ps_set (i := 1) nd rfl (.inl rfl) (pe_op op_addS (pe_op op_addS pe_str (pe_op op_repG pe_str (pe_op op_add pe_int (pe_cal (CD.mono (by decide)) hr (by rfl) (pa_cons (pv 0) (pa_cons pe_int pa_nil)))))) pe_str))) pss_nil)
      (pss_cons (ps_set (i := 2) nd rfl (.inl rfl) (pe_cal (CD.mono (by decide)) hr (by rfl) (pa_cons (pv 0) (pa_cons (pe_op op_add (pe_callB call_len_str (by rfl) T.len PySem.boot_len (pa_cons (pv 1) pa_nil)) pe_int) pa_nil))))
      (pss_cons (ps_set (i := 3) nd rfl (.inl rfl) (pe_op op_addS (pe_op op_addS (pe_slice sl_str (pv 1) po_none (po_some (pv 2))) (pe_ix ix_list (pe_lst (pa_cons pe_str (pa_cons pe_str (pa_cons pe_str pa_nil)))) (pe_cal (CD.mono (by decide)) hr (by rfl) (pa_cons (pv 0) (pa_cons pe_int pa_nil))) (fun _ _ => rfl))) (pe_slice sl_str (pv 1) (po_some (pv 2)) po_none)))
      (pss_cons (ps_for PassesOwn.never rfl (pi_list (pe_lst (pa_cons (pv 1) (pa_cons (pv 3) (pa_cons (pe_op op_addS (pv 1) pe_str) pa_nil))))) (pg_name (i := 4) nd rfl (.inl rfl)) (pss_one (ps_if (pt_cmpR op_ne (pe_callB (call_reprA hgd hr hsys) (by rfl) N5.repr (by decide +kernel) (pa_cons (pe_cal (CT.mono (by decide)) hr (by rfl) (pa_cons (pv 4) pa_nil)) pa_nil)) (pe_callB (call_reprA hgd hr hsys) (by rfl) N5.repr (by decide +kernel) (pa_cons (pe_cal (CU.mono (by decide)) hr (by rfl) (pa_cons (pv 4) pa_nil)) pa_nil)) (nomark _)) (pss_one (ps_ret pe_bl)) pss_nil)))
      (pss_one (ps_ret pe_bl))))))), ?_⟩
  have S0 : Se n r (fun b => b = r.a) [] H := ⟨hb, ⟨rfl, fun b hb' => by rw [hb']; exact hb.some⟩, fun p hp => nomatch hp⟩
  have rng : ∀ {a b M : Nat}, a + b ≤ M + 1 → ∀ z : Int, (∃ j, z = ((a : Nat) : Int) + j ∧ (0 ≤ j ∧ j < ((b : Nat) : Int))) → (fun d => ∃ k : Nat, d = PyData.int (k : Int) ∧ k ≤ M) (.int z) := fun {a b M} h z ⟨j, e, j0, j1⟩ => ⟨(a + j.toNat), by rw [e]; congr 1; omega, by omega⟩
  refine ev_set (i := 1) (evs_add (ev_str (x := "0 x 0") (P := Sm 5) ⟨_, rfl, by decide⟩) (evs_rep (a := ", 0 x 1") (M := 499) ((evi_addG (ev_int (i := ((60 : Nat) : Int))) (ev_draw (ev_int (i := ((440 : Nat) : Int))) rfl (by decide) (by decide))).ev (rng (by decide))) (by decide) (by decide) (by decide)) (by decide)) (by omega) S0 fun v1 d1 H1 S1 m1 h1 => ?_
  obtain ⟨t, rfl, lt0⟩ := h1
  obtain rfl : v1 = .str t := by
    have := S1.ok (v1, .str t) List.mem_cons_self
    cases this
    rfl
  replace S1 : Se _ r (fun b => b = r.a) [] H1 := ⟨S1.re, S1.wk, fun p hp => nomatch hp⟩
  have lt : t.length ≤ 3700 := Nat.le_trans lt0 (by decide)
  clear lt0
  dsimp only []
  show tSeq _ _ _ [some (.ref r.a), some (.str t), none, none, none] H1
  refine seqP (fun σ' H' => ∃ t, σ' = [some (.ref r.a), some (.str t), none, none, none] ∧ Se (n + 5) r (fun b => b = r.a) [] H' ∧ Mv r H H' ∧ t.length ≤ 3700) (fun σ' H' hR => ?_) (fun nx hnx => ?_)
  rotate_left
  · refine ev_draw (ev_int (i := 2)) rfl (by decide) (by decide) _ H1 _ (by omega) S1 fun x H2 b2 m2 hx => ⟨rfl, _, rfl, ite2 (fun c => ?_) (fun c => ?_)⟩
    · refine ev_set (i := 1) (evs_add (evs_add (ev_str (x := "1") (P := Sm 1) ⟨_, rfl, by decide⟩) (evs_rep (a := " 0") (M := 1839) ((evi_addG (ev_int (i := ((40 : Nat) : Int))) (ev_draw (ev_int (i := ((1800 : Nat) : Int))) rfl (by decide) (by decide))).ev (rng (by decide))) (by decide) (by decide) (by decide)) (by decide)) (ev_str (x := " x 2") (P := Sm 4) ⟨_, rfl, by decide⟩) (by decide)) (by omega) (S1.mv b2 m2) fun v3 d3 H3 S3 m3 h3 => ?_
      obtain ⟨t3, rfl, lt3⟩ := h3
      obtain rfl : v3 = .str t3 := by
        have := S3.ok (v3, .str t3) List.mem_cons_self
        cases this
        rfl
      exact hnx _ _ ⟨t3, rfl, ⟨S3.re.to, S3.wk, fun p hp => nomatch hp⟩, m1.trans (m2.trans m3), Nat.le_trans lt3 (by decide)⟩
    · exact hnx _ _ ⟨t, rfl, (S1.mv b2 m2).to, m1.trans m2, lt⟩
  clear S1 lt m1 S0
  obtain ⟨t, rfl, S2, m2, lt⟩ := hR
  have tlen : ((t.length : Nat) : Int) + 1 < 2 ^ 140 := by rw [t140]; omega
  refine evi_set (i := 2) (ev_draw (evi_add (evi_lenS (i := 1) (t := t) rfl (by omega)) (ev_int (i := 1))) rfl (by omega) tlen) (by omega) S2 fun x H3 S3 m3 hx => ?_
  obtain ⟨k, rfl⟩ : ∃ k : Nat, x = (k : Int) := ⟨x.toNat, by omega⟩
  have hk : k ≤ t.length := by omega
  dsimp only []
  show tSeq _ _ _ [some (.ref r.a), some (.str t), some (.int (k : Int)), none, none] H3
  refine ev_set (i := 3) (evs_add (evs_add (evs_to (i := 1) (k := k) (t := t) rfl (ev_varI (i := 2) rfl) (by omega)) (ev_ix (K := K) (ev_lst (P := Sm 2) (eva_cons (ev_str ⟨_, rfl, by decide⟩) (eva_cons (ev_str ⟨_, rfl, by decide⟩) (eva_cons (ev_str ⟨_, rfl, by decide⟩) eva_nil)))) (ev_draw (ev_int (i := 3)) rfl (by decide) (by decide))) (by omega)) (evs_from (i := 1) (k := k) (t := t) rfl (ev_varI (i := 2) rfl) (by omega)) (by omega)) (by omega) S3 fun v4 d4 H4 S4 m4 h4 => ?_
  obtain ⟨t4, rfl, lt4⟩ := h4
  obtain rfl : v4 = .str t4 := by
    have := S4.ok (v4, .str t4) List.mem_cons_self
    cases this
    rfl
  have b4 := S4.re.to (b := n + 8)
  have m04 := m2.trans (m3.trans m4)
  have tb4 := tb_mv hT hb m04
  have tc4 := tabG_mv hT3 hb m04
  have lt4 : t4.length ≤ 3702 := by omega
  have k4 := Ky.mv m04
  clear S4 S3 S2 m2 m3 m4 m04 hb
  dsimp only []
  show tSeq _ _ _ [some (.ref r.a), some (.str t), some (.int (k : Int)), some (.str t4), none] H4
  have la : (Str.ofString ", a").length = 3 := rfl
  refine ⟨.str t, rfl, .str t4, rfl, .str t, rfl, t, _, rfl, rfl, Nat.le_trans (show t.length + (Str.ofString ", a").length ≤ 1000000 by omega) (by rw [sizeLine_eq]; decide), small_le (by show 3 ≤ 1000; decide), fun p np => ?_⟩
  have lt5 : (t ++ Str.ofString ", a").length ≤ 3703 := by rw [app_len]; omega
  generalize t ++ Str.ofString ", a" = t5 at lt5 ⊢
  have s5 := same_upd (o := .lst [.str t, .str t4, .str t5]) np
  have ep : (upd H4 p (.lst [.str t, .str t4, .str t5])) p = some (.lst [.str t, .str t4, .str t5]) := upd_same
  have b5 := b4.same s5
  have tb5 := tb4.same s5
  have tc5 := tabG_same s5 tc4
  have k5 := k4.trans (.same s5)
  generalize upd H4 p (.lst [.str t, .str t4, .str t5]) = H5 at ep b5 tb5 tc5 k5 ⊢
  have all : ∀ v ∈ [V.str t, V.str t4, V.str t5], ∃ z : Str, v = .str z ∧ z.length ≤ 4200 := fun v hv => by
    simp only [List.mem_cons, List.not_mem_nil, or_false] at hv
    rcases hv with rfl | rfl | rfl
    · exact ⟨_, rfl, by omega⟩
    · exact ⟨_, rfl, by omega⟩
    · exact ⟨_, rfl, by omega⟩
  generalize [V.str t, V.str t4, V.str t5] = xs at ep all
  refine ⟨p, rfl, ⟨_, SqL.of ep⟩, for_list (xs := xs) (fun i σ H6 => ∃ y4, σ = [some (.ref r.a), some (.str t), some (.int (k : Int)), some (.str t4), y4] ∧ BagAt (n + 8) H6 r ∧ Tb P1 P2 H6 ∧ GxR.TabG H6 P3 ∧ H6 p = some (.lst xs) ∧ Ky r H H6) ⟨none, rfl, b5, tb5, tc5, ep, k5⟩
    (fun i σ H6 _ hP => by obtain ⟨_, _, _, _, _, e, _⟩ := hP; exact SqL.of e) (fun i x σ H6 hx hP => ?_) (fun σ H6 hP => ?_)⟩
  · obtain ⟨y4, rfl, b6, tb6, tc6, e6, k6⟩ := hP
    obtain ⟨z, rfl, hz⟩ := all x (List.mem_of_getElem? hx)
    dsimp only [gName]
    show tIfS _ _ _ _ [some (.ref r.a), some (.str t), some (.int (k : Int)), some (.str t4), some (.str z)] H6
    refine ⟨.str z, rfl, .str z, .str z, rfl, .str z, tb6, tc6, .inr ⟨z, rfl, fits_of (by omega), fun H7 x7 => ⟨dueV z, dueD z, rfl, due_rp z, due_b hz, .str z, rfl, z, rfl, hz, fun H8 s8 => ⟨dueV z, dueD z, rfl, due_rp z, due_b hz, rfl, _, rfl, ite2 (fun c => absurd c (by simp)) (fun _ => ?_)⟩⟩⟩⟩
    exact ⟨_, rfl, (b6.kx x7).same s8, (tb_ex tb6 x7).same s8, tabG_same s8 (tabG_ex tc6 x7), s8 _ _ (x7.lst e6), (k6.trans (.ex x7)).trans (.same s8)⟩
  · obtain ⟨y4, rfl, b6, tb6, tc6, e6, k6⟩ := hP
    exact q H6 b6 tb6 tc6 k6
end
end CL
set_option Elab.async false
set_option linter.all false
set_option pp.maxSteps 900
set_option maxRecDepth 100000
set_option maxHeartbeats 4000000
namespace L2
open PySem PySem.Spec PyProof.Rows
/-! ### C(e).f, an exception that is made and looked at, not raised -/
def tMkF (C : Addr) (f : Str) (sp : Sp) (ta : TA) : TE := fun σ H Q => tMkO C sp [] ta σ H fun cls d H' => cls = .ref C ∧ ∃ (dd : Addr) (fs : List (Str × V)) (v : V), d = some dd ∧ H' dd = some (.xd fs) ∧ fs.lookup f = some v ∧ Q v H'
theorem pe_mkf {X : Cx} {e : Expr} {es : List Expr} {ta : TA} {p pos pos2 : Pos} {CX : CXT} {x f : Str} {C fI : Addr} {k : Nat} {fd : FuncData} {ps : List Str} {sp : Sp} (T : OexC X.K C) (XF : XfC X.K C) (hno : PySem.W.findIn X.K (.ref C) f = some none) (iC : PySem.W.findIn X.K (.ref C) "__init__" = some (some (.ref fI)))
    (tI : PySem.W.typeIn X.K (.ref fI) = some (.type "function")) (F1 : FnOk X.prog X.w X.K X.mg X.base CX k fI fd ps sp) (hr : Room (k + 1) X.A) (hb : Binds X.K fd ps []) (hx : Passes CX X (fun _ _ _ => False)) (hg : Gl X x) (hm : X.mg x = some (.ref C)) (ha : PA X (e :: es) ta)
    (hdb : (x == ("__debug__" : Str)) = false := by decide) (he : starEach (e :: es) X.env = (false, eval e X.env) :: starEach es X.env := by rfl) (hpl : (backTo pos (starEach es X.env)).any (·.1) = false := by rfl)
    (hat : attributeBase (.Call (.Name x p) (e :: es) [] pos) f X.env (eval (.Call (.Name x p) (e :: es) [] pos) X.env) = eval (.Call (.Name x p) (e :: es) [] pos) X.env := by rfl) :
    PE X (.Attribute (.Call (.Name x p) (e :: es) [] pos) f pos2) (tMkF C f sp ta) := by
  refine ⟨fun pins s σ H Q I h => ?_⟩
  refine attr_of hat (thn (L2N.pmk_oex T iC tI F1 hr hb hx hg hm ha hdb he hpl pins s σ H _ I h) fun u s1 hh => ?_)
  obtain ⟨a, oe, vs, sI, H', cls, d, rfl, J, k0, hne, hea, hz, hd, h1, na, os, ag, _, ec, dd, fs, v, ed, ea, l, q⟩ := hh
  subst ec ed
  have J1 : Inv X pins σ H' s1 := J.landed (B := PySem.W.hideAll sI.heap (frs X.stack)) (fun b o z hb2 => PySem.W.hideAll_get _ z hb2) (fun b o z => k0 b o (PySem.W.of_hideAll _ z)) (Heap.UpToSlots.of_keeps k0) os ag
  obtain ⟨mA, hns, hr2⟩ := (show ObjOk X.prog X.w H' s1.heap dd (.xd fs) from J1.hok dd _ ea)
  obtain ⟨od, ho, hl⟩ := lookIn_ns hns
  obtain ⟨u, hu, ru⟩ := RelO.some_of (v := v) (o := mA f) (by rw [← l]; exact hr2 f)
  have IA : PySem.W.InstAt s1.heap a oe C (some od) := ⟨hea, hz.1, by unfold PySem.W.notCls; rw [hd] <;> rfl, by rw [hz.2.1]; exact ho⟩
  exact HandSPX.exc_get J1.kIn IA XF.ga XF.gg XF.exC (PySem.W.findObj_own XF.hdC hno rfl (by rw [hl, hu])) (handed_of ru) ⟨v, H', J1.tok _, ru, q⟩
end L2
namespace CL
open PySem PySem.Spec PyProof.Rows L2 GE TL
abbrev sLaw : Stmt := topS 59
abbrev nLaw : List Str := ["script", "bag", "turn", "text", "again", "other", "thing", "some"]
theorem scLaw : FnScope nLaw ["script"] (defScope sLaw) := ⟨rfl, rfl, rfl, by decide +kernel, rfl, by decide +kernel, by decide +kernel⟩
theorem fnGE {P : Program} {w : World} {K : PySem.W.Frag} {mg : Str → Option Value} {base : Heap} {k : Nat} {f : Addr} {fd : FuncData} {ps : List Str} {sp : Bg → Sp} (h : ∀ r, FnG P w K mg base k f fd ps (sp r)) : FnG P w K mg base k f fd ps (spE sp) :=
  ⟨fun A outer s H args us vs Q E hg hr he hb hv ⟨r, h'⟩ => (h r).run A outer s H args us vs Q E hg hr he hb hv h'⟩
theorem seq_keep {r : Bg} {K : PySem.W.Frag} {H H1 H2 : Hp} {a : Addr} {xs : List V} (h : SqL K H a xs) (nr : H r.a = none) (s : Same H H1) (k : Ky r H1 H2) : SqL K H2 a xs := by
  have go : ∀ {o : HO}, H a = some o → (∀ ps, o ≠ .tbl ps) → H2 a = some o := fun {o} e n => k a o (fun z => by rw [z, nr] at e; cases e) (s _ _ e) n
  rcases h with (e | ⟨o, e⟩) | h
  · exact .inl (.inl (go e fun _ => nofun))
  · exact .inl (.inr ⟨o, go e fun _ => nofun⟩)
  · exact .inr h
theorem se_of {n : Nat} {r : Bg} {H : Hp} (b : BagAt n H r) : Se n r (fun b => b = r.a) [] H := ⟨b, ⟨rfl, fun c hc => by rw [hc]; exact b.some⟩, fun p hp => nomatch hp⟩
theorem se_item {n : Nat} {r : Bg} {W : Addr → Prop} {G : Gam} {H : Hp} (s : Se n r W G H) {D : Addr} {ds : List PyData} {xs : List V} {j : Nat} {x : V} (m : (V.ref D, PyData.list ds) ∈ G) (h : H D = some (.lst xs)) (hx : xs[j]? = some x) : ∃ dx, ds[j]? = some dx ∧ Rp (Hw W H) x dx := by
  obtain ⟨D', ys, e, h2, h3⟩ := rp_list (s.ok _ m)
  cases e
  have h2' := Hw.sub _ H _ _ h2
  rw [h] at h2'
  cases h2'
  exact h3.get hx
/-- a for over a display, what it walks known as data -/
theorem ea_for {c m n : Nat} {r : Bg} {W : Addr → Prop} {G : Gam} {σ : L2.St} {K : PySem.W.Frag} {ta : TA} {P : PyData → Prop} {D : Ends} {H : Hp} {g : TG} {tb : TS} (e : EvA c r W G σ ta m P) (l : n + c ≤ M60) (s : Se n r W G H) (hm : m ≤ 1000)
    (h0 : ∀ p vs ds H1, Se (n + c) r W ((.ref p, .list ds) :: G) H1 → Mv r H H1 → H1 p = some (.lst vs) → p ≠ r.a → ds.length = m → (∀ x ∈ ds, P x) → ∃ Pv : Nat → L2.St → Hp → Prop, Pv 0 σ H1 ∧ (∀ i σ H, i ≤ vs.length → Pv i σ H → SqL K H p vs) ∧
      (∀ i x σ H, vs[i]? = some x → Pv i σ H → g x σ H fun σ2 H2 => tb { D with nx := Pv (i + 1), ct := Pv (i + 1), bk := D.nx } σ2 H2) ∧ ∀ σ H, Pv vs.length σ H → D.nx σ H) : tFor (iList K (tLst ta)) g tb D σ H :=
  e n H _ l s fun vs ds H' b mv rp ld hp => ⟨small_le (by rw [rp.length, ld]; exact hm), fun p np => by
    have s2 := same_upd (o := .lst vs) np
    have S2 := (s.mv b mv).same s2
    have nW := (s.mv b mv).wk.out np
    obtain ⟨Pv, a1, a2, a3, a4⟩ := h0 p vs ds _ ⟨S2.re, S2.wk, S2.ok.cons (.lst (by rw [Hw.at nW]; exact upd_same) (RpAll.sm (Same.hw s2) rp))⟩ (mv.trans (Mv.of s2)) upd_same (fun z => nW (by rw [z]; exact s.wk.bag)) ld hp
    exact ⟨p, rfl, ⟨vs, SqL.of upd_same⟩, for_list Pv a1 a2 a3 a4⟩⟩
theorem ev_drawE {c : Nat} {r : Bg} {W : Addr → Prop} {G : Gam} {σ : L2.St} {k : Nat} {tm : TE} {m : Int} (e : EvI c r W G σ tm (· = m)) (h0 : σ[k]? = some (some (.ref r.a))) (h1 : 1 ≤ m) (h2 : m < 2 ^ 140) : EvI (c + 1) r W G σ (tCall (spE spDraw) [] E0 (tCons (tVar k) (tCons tm tNil))) (fun x => 0 ≤ x ∧ x < m) := fun n H Q l s q =>
  ⟨.ref r.a, h0, e n H _ (by omega) s fun i H1 re1 m1 e1 => ⟨r, m, n + c, by rw [e1]; rfl, re1, by omega, h1, h2, fun x H' re' m' x0 x1 => q x H' re'.to (m1.trans m') ⟨x0, x1⟩⟩⟩
theorem pieces_len (ds : List PyData) (h : ∀ x ∈ ds, isPiece x = true) (hn : ∀ x ∈ ds, NumD (sndD x)) : ((ds.map pieceT).map (·.length)).sum ≤ ds.length * 2000 := by
  induction ds with
  | nil => exact Nat.le_refl _
  | cons d ds ih =>
    have h1 := ih (fun x hx => h x (List.mem_cons_of_mem _ hx)) fun x hx => hn x (List.mem_cons_of_mem _ hx)
    have h2 : (pieceT d).length ≤ 2000 := by
      have hp := h d List.mem_cons_self
      unfold isPiece at hp
      split at hp
      · rename_i t m e
        obtain ⟨ht, _⟩ := Bool.and_eq_true_iff.mp hp
        obtain ⟨ts, hts, t1, t8, tp⟩ := turns_parts ht
        have hsnd : sndD d = m := by unfold sndD; rw [e]
        have htur : turnsD d = ts := by unfold turnsD; rw [e]; show (rowsD t).getD [] = ts; rw [hts]; rfl
        unfold pieceT
        rw [hsnd, htur]
        exact piece_len t8 (fun d hd => NumD.of (tp d hd)) (by rw [← hsnd]; exact hn d List.mem_cons_self)
      · cases hp
    simp only [List.map_cons, List.sum_cons, List.length_cons] at h1 ⊢
    omega
theorem plan_len {d : PyData} (h : isPlan d = true) : (planS d).length ≤ 16100 := by
  obtain ⟨ds, hd, h1, h8, hpc, hnm, hsm⟩ := plan_parts h
  have e : planS d = Txt.join ", " (ds.map pieceT) := by unfold planS; rw [hd]; rfl
  have := StrLaws.join_length_le ", " (ds.map pieceT)
  rw [← StrLaws.glued_eq_join, List.length_map] at this
  have h3 : (Str.ofString ", ").length = 2 := rfl
  have h4 := pieces_len ds hpc hnm
  rw [h3] at this
  rw [e]
  refine Nat.le_trans this ?_
  omega
/-- things that are no text -/
def NoS (d : PyData) : Prop := isStrB d = false
def someS : List Str := ["", "0 x 0, ", "0 x 0,0 x 0", "1 x ever, 1 x 2", "never x ever", "0 x 0\n", "1 x ever, 1 x 2, a x 1"]
def dueL : List V := [.int 0, .int 1, .int 0, .str "NoPlan", .str "told", .int 0, .int 2]
def dueDL : List PyData := [.int 0, .int 1, .int 0, .str "NoPlan", .str "told", .int 0, .int 2]
theorem some_due : someS.map dueV = dueL := by decide +kernel
theorem some_len : ∀ t ∈ someS, t.length ≤ 4200 := by
  have h : someS.all (fun t => decide (t.length ≤ 4200)) = true := by decide +kernel
  exact fun t ht => of_decide_eq_true (List.all_eq_true.mp h t ht)
theorem due_dp {K : PySem.W.Frag} {H : Hp} : DpAll K H dueL dueDL := .cons (.int _) (.cons (.int _) (.cons (.int _) (.cons (.str _) (.cons (.str _) (.cons (.int _) (.cons (.int _) .nil))))))
theorem due_eqv : PyData.eqv (.list dueDL) (.list dueDL) = true := by decide +kernel
theorem Tb.upd {P1 P2 p : Addr} {H : Hp} {o : HO} (h : Tb P1 P2 H) (n : ∀ ps, H p ≠ some (.tbl ps)) : Tb P1 P2 (upd H p o) := ⟨tabG_upd h.1 n, tabG_upd h.2 n⟩
def spLaw (K : PySem.W.Frag) (P1 P2 P3 : Addr) : Sp := fun vs H Q _ => ∃ (a : Addr) (ns : List Int), vs = [.ref a] ∧ SqL K H a (ns.map V.int) ∧ ns.length ≤ 63 ∧ GxR.TabG H P1 ∧ GxR.TabG H P2 ∧ GxR.TabG H P3 ∧ ∀ H', Q (.bl true) H'
section
variable {P : Program} {w : World} {K : PySem.W.Frag} {mg : Str → Option Value} {base : Heap}
theorem ok_law {f fI P1 P2 P3 LE CT0 : Addr} {fd fdI : FuncData} (F : Fun K "law" "law" sLaw f fd) (T : Nm mg) (N5 : Nm5 mg) (hsys : ∃ o, base.get? sysModules = some o) (NX : NTx K mg LE CT0) (XC : XfC K CT0) (iC : PySem.W.findIn K (.ref CT0) "__init__" = some (some (.ref fI))) (tI : PySem.W.typeIn K (.ref fI) = some (.type "function"))
    (GI : FnOk P w K mg base CX0 1 fI fdI ["self", "sign"] (spInitNT CT0)) (bI : Binds K fdI ["self", "sign"] [])
    (CB : Cal P w K mg base 1 "_law_bag" ["script"] (spBag K)) (CD : Cal P w K mg base 2 "_law_draw" ["bag", "many"] (spE spDraw)) (CPn : Cal P w K mg base 4 "_law_plan" ["bag", "most", "wide"] (spE spPlanB)) (CTx : Cal P w K mg base 1 "_law_plan_text" ["plan"] spTxt)
    (CBe : Cal P w K mg base 3 "_law_bent" ["bag", "text"] (spE spBent)) (CT : Cal P w K mg base 10 "_law_told" ["text"] (spTold P1 P2 P3)) (CU : Cal P w K mg base 3 "_law_due" ["text"] spLDue) (CL : CalG P w K mg base 11 "_law_long_right" ["bag"] (spE (spLong P1 P2 P3))) : FnG P w K mg base 12 f fd ["script"] (spLaw K P1 P2 P3) := by
  refine fng_of F scLaw (fun vs H Q E ⟨a, ns, e, _⟩ => by rw [e]; rfl) (fun cdv A outer s H vs Q E hgd hr h => ?_)
  obtain ⟨a, ns, rfl, hS, h63, hG, hG2, hG3, q⟩ := h
  have nd := scLaw.nd
  refine ⟨_, (pss_cons (ps_set (i := 1) nd rfl (.inl rfl) (pe_cal (CB.mono (by decide)) hr (by rfl) (pa_cons (pv 0) pa_nil)))
      (pss_cons (ps_if (pt_not (pt_val (pe_calG CL hgd (fun vs H Q E ⟨r, n, e, _⟩ => by rw [e]; rfl) hr (by rfl) (pa_cons (pv 1) pa_nil)))) (pss_one (ps_ret pe_bl)) pss_nil)
      (pss_cons (ps_for PassesOwn.never rfl (pi_range1 (by rfl) N5.range (pa_cons (pe_op op_add pe_int (pe_callB (call_min2 rfl) (by rfl) N5.min (by decide +kernel) (pa_cons pe_int (pa_cons (pe_callB call_len_seq (by rfl) T.len PySem.boot_len (pa_cons (pv 0) pa_nil)) pa_nil)))) pa_nil)) (pg_name (i := 2) nd rfl (.inl rfl)) (pss_cons (ps_set (i := 3) nd rfl (.inl rfl) (pe_cal (CTx.mono (by decide)) hr (by rfl) (pa_cons (pe_cal (CPn.mono (by decide)) hr (by rfl) (pa_cons (pv 1) (pa_cons (pe_ix ix_list (pe_lst (pa_cons pe_int (pa_cons pe_int pa_nil))) (pe_cal (CD.mono (by decide)) hr (by rfl) (pa_cons (pv 1) (pa_cons pe_int pa_nil))) (fun _ _ => rfl)) (pa_cons (pe_ix ix_list (pe_lst (pa_cons pe_int (pa_cons (pe_op op_pow pe_int pe_int) pa_nil))) (pe_cal (CD.mono (by decide)) hr (by rfl) (pa_cons (pv 1) (pa_cons pe_int pa_nil))) (fun _ _ => rfl)) pa_nil)))) pa_nil)))
      (pss_cons (ps_for PassesOwn.never rfl (pi_range1 (by rfl) N5.range (pa_cons pe_int pa_nil)) (pg_name (i := 4) nd rfl (.inl rfl)) (pss_cons (ps_set (i := 5) nd rfl (.inl rfl) (pe_cal (CBe.mono (by decide)) hr (by rfl) (pa_cons (pv 1) (pa_cons (pv 3) pa_nil))))
      (pss_cons (ps_if (pt_cmpR op_eq (pe_cal (CD.mono (by decide)) hr (by rfl) (pa_cons (pv 1) (pa_cons pe_int pa_nil))) pe_int (nomark _)) (pss_one (ps_set (i := 5) nd rfl (.inl rfl) (pe_cal (CBe.mono (by decide)) hr (by rfl) (pa_cons (pv 1) (pa_cons (pv 5) pa_nil))))) pss_nil)
      (pss_one (ps_if (PW.pt (pw_and (pt_cmpR op_lt (pe_callB call_len_str (by rfl) T.len PySem.boot_len (pa_cons (pv 5) pa_nil)) pe_int (nomark _)) (pw_and1 (pt_cmpR op_ne (pe_callB (call_reprA hgd hr hsys) (by rfl) N5.repr (by decide +kernel) (pa_cons (pe_cal (CT.mono (by decide)) hr (by rfl) (pa_cons (pv 5) pa_nil)) pa_nil)) (pe_callB (call_reprA hgd hr hsys) (by rfl) N5.repr (by decide +kernel) (pa_cons (pe_cal (CU.mono (by decide)) hr (by rfl) (pa_cons (pv 5) pa_nil)) pa_nil)) (nomark _))))) (pss_one (ps_ret pe_bl)) pss_nil)))))
      (pss_one (ps_for PassesOwn.never rfl (pi_list (pe_lst (pa_cons pe_non (pa_cons pe_int (pa_cons pe_bl (pa_cons (pe_lst pa_nil) (pa_cons (pe_tup (pa_cons pe_str pa_nil)) (pa_cons pe_dnewK (pa_cons (pe_lst (pa_cons (pe_tup (pa_cons (pe_lst (pa_cons pe_int pa_nil)) (pa_cons pe_int pa_nil))) pa_nil)) pa_nil))))))))) (pg_name (i := 6) nd rfl (.inl rfl)) (pss_one (ps_if (pt_cmp (pc_notN (pe_cal (CT.mono (by decide)) hr (by rfl) (pa_cons (pv 6) pa_nil)))) (pss_one (ps_ret pe_bl)) pss_nil)))))))
      (pss_cons (ps_if (PW.pt (pw_or (pt_cmpR op_ne (pe_mkf NX.ox XC NX.no iC tI GI (hr.mono (by decide)) bI pass0 (by rfl) NX.gT (pa_cons pe_int pa_nil)) pe_int (nomark _)) (pw_or1 (pt_cmp (pc_notN (pe_mkf NX.ox XC NX.no iC tI GI (hr.mono (by decide)) bI pass0 (by rfl) NX.gT (pa_cons pe_non pa_nil))))))) (pss_one (ps_ret pe_bl)) pss_nil)
      (pss_cons (ps_set (i := 7) nd rfl (.inl rfl) (pe_lst (pa_cons pe_str (pa_cons pe_str (pa_cons pe_str (pa_cons pe_str (pa_cons pe_str (pa_cons pe_str (pa_cons pe_str pa_nil)))))))))
      (pss_one (ps_ret (pe_cmpR (op_eqD hr.units) (pe_lc (own := [("text", 3)]) (g := (gName 3)) (tt := tYes) rfl nd (pi_list (pv 7)) (blkOk_by (own := [("text", 3)]) (N := nLaw) (sc := (defScope sLaw)) (by decide +kernel)) (fun _ _ _ _ _ => (pg_name (i := 3) nd rfl (.inl rfl))) (fun _ _ _ _ _ => pts_nil) (fun _ _ _ _ _ => (pe_cal (CT.mono (by decide)) hr (by rfl) (pa_cons (pv 3) pa_nil)))) (pe_lst (pa_cons pe_int (pa_cons pe_int (pa_cons pe_int (pa_cons pe_str (pa_cons pe_str (pa_cons pe_int (pa_cons pe_int pa_nil)))))))) (nomark _))))))))), ?_⟩
  have hM : M60 = 1000000000000000000 := rfl
  have hGr : GREAT = 1000000000000000000000000000000 := rfl
  refine ⟨.ref a, rfl, a, ns, rfl, hS, fun r H1 s1 nr b1 => ?_⟩
  have tb1 : Tb P1 P2 H1 := ⟨tabG_same s1 hG, tabG_same s1 hG2⟩
  have tc1 := tabG_same s1 hG3
  have hS1 := s1.seq hS
  dsimp only [gName]
  show tSeq _ _ _ [some (.ref a), some (.ref r.a), none, none, none, none, none, none] H1
  refine ⟨.ref r.a, rfl, r, 0, rfl, b1, by omega, tb1, tc1, fun H2 b2 tb2 tc2 ky => ⟨true, rfl, iteF ?_⟩⟩
  have hS2 := seq_keep hS nr s1 ky
  dsimp only [tNext]
  show tSeq _ _ _ [some (.ref a), some (.ref r.a), none, none, none, none, none, none] H2
  refine ⟨.ref a, rfl, a, ns.map V.int, rfl, .inl hS2, 8, ((ns.map V.int).length : Int), rfl, 4, _, rfl, rfl, _, rfl, by split <;> omega, by split <;> omega, ?_⟩
  have lm : (ns.map V.int).length = ns.length := List.length_map ..
  have hn12 : ((4 : Int) + (if ((ns.map V.int).length : Int) < 8 then ((ns.map V.int).length : Int) else 8)).toNat ≤ 12 := by split <;> omega
  refine for_range (lo := 0) (n := ((4 : Int) + (if ((ns.map V.int).length : Int) < 8 then ((ns.map V.int).length : Int) else 8)).toNat) (fun i σ H3 => ∃ y2 y3 y4 y5 y6, σ = [some (.ref a), some (.ref r.a), y2, y3, y4, y5, y6, none] ∧ BagAt (8 + 1000 * i) H3 r ∧ Tb P1 P2 H3 ∧ GxR.TabG H3 P3)
    ⟨none, none, none, none, none, rfl, b2.to, tb2, tc2⟩ (fun i σ H3 hi hP => ?_) (fun σ H3 hP => ?_)
  · obtain ⟨y2, y3, y4, y5, y6, rfl, b3, tb3, tc3⟩ := hP
    have hi12 : i < 12 := by omega
    clear hi hn12
    dsimp only [gName]
    show tSeq _ _ _ [some (.ref a), some (.ref r.a), some (.int (0 + (i : Int))), y3, y4, y5, y6, none] H3
    have S3 := se_of b3
    have em : ∀ {σ : L2.St}, σ[1]? = some (some (.ref r.a)) → Ev 1 r (fun b => b = r.a) [] σ (tOp (rIxL K) (tLst (tCons (tC (.int 2)) (tCons (tC (.int 8)) tNil))) (tCall (spE spDraw) [] E0 (tCons (tVar 1) (tCons (tC (.int 2)) tNil)))) (fun d => ∃ x, d = .int x ∧ 1 ≤ x ∧ x ≤ 8) := fun h =>
      ev_ix (ev_lst (eva_cons ((ev_int (i := 2)).ev fun j e => ⟨j, rfl, by omega, by omega⟩) (eva_cons ((ev_int (i := 8)).ev fun j e => ⟨j, rfl, by omega, by omega⟩) eva_nil))) ((ev_drawE (k := 1) (ev_int (i := 2)) h (by decide) (by decide)).imp fun i hi => ⟨hi.1, by have := hi.2; show i < 2; omega⟩)
    have ew : ∀ {σ : L2.St}, σ[1]? = some (some (.ref r.a)) → Ev 1 r (fun b => b = r.a) [] σ (tOp (rIxL K) (tLst (tCons (tC (.int 3)) (tCons (tOp (rI CPow fun i j => .int (i ^ j.toNat)) (tC (.int 10)) (tC (.int 30))) tNil))) (tCall (spE spDraw) [] E0 (tCons (tVar 1) (tCons (tC (.int 2)) tNil)))) (fun d => ∃ x, d = .int x ∧ 0 ≤ x ∧ x ≤ GREAT) := fun h =>
      ev_ix (ev_lst (eva_cons ((ev_int (i := 3)).ev fun j e => ⟨j, rfl, by omega, by omega⟩) (eva_cons ((evi_pow ⟨by decide, by decide, by decide⟩).ev fun j e => ⟨j, rfl, by rw [e]; decide +kernel, by rw [e]; decide +kernel⟩) eva_nil))) ((ev_drawE (k := 1) (ev_int (i := 2)) h (by decide) (by decide)).imp fun i hi => ⟨hi.1, by have := hi.2; show i < 2; omega⟩)
    refine ⟨.ref r.a, rfl, em rfl _ H3 _ (by omega) S3 fun vm dm H4 b4 m4 rpm ⟨x, ex, x0, x1⟩ => ?_⟩
    subst ex
    cases rpm
    refine ew rfl _ H4 _ (by omega) (se_of b4) fun vw dw H5 b5 m5 rpw ⟨z, ez, z0, z1⟩ => ?_
    subst ez
    cases rpw
    refine ⟨r, x, z, _, rfl, b5, by omega, x0, x1, z0, z1, fun vP L H6 b6 m6 rpP hL => ⟨vP, planD L, rfl, Rp.sm (Hw.sub _ _) rpP, planL_plan hL, fun H7 s7 => ?_⟩⟩
    have hlen := plan_len (planL_plan hL)
    have m36 := m4.trans (m5.trans m6)
    have tb7 := (tb_mv tb3 b3 m36).same s7
    have tc7 := tabG_same s7 (tabG_mv tc3 b3 m36)
    have b7 := b6.same s7
    generalize planS (planD L) = t at hlen ⊢
    clear m36 m4 m5 m6 b4 b5 b6 rpP S3 tb3 tc3 s7 b3
    dsimp only [gName]
    show tSeq _ _ _ [some (.ref a), some (.ref r.a), some (.int (0 + (i : Int))), some (.str t), y4, y5, y6, none] H7
    refine ⟨10, rfl, by decide, by decide, for_range (lo := 0) (n := (10 : Int).toNat) (fun j σ H8 => ∃ y4 y5, σ = [some (.ref a), some (.ref r.a), some (.int (0 + (i : Int))), some (.str t), y4, y5, y6, none] ∧ BagAt (8 + 1000 * i + 402 + 20 * j) H8 r ∧ Tb P1 P2 H8 ∧ GxR.TabG H8 P3)
      ⟨y4, y5, rfl, b7.to, tb7, tc7⟩ (fun j σ H8 hj hP => ?_) (fun σ H8 hP => ?_)⟩
    · obtain ⟨y4, y5, rfl, b8, tb8, tc8⟩ := hP
      have hj10 : j < 10 := hj
      dsimp only [gName]
      show tSeq _ _ _ [some (.ref a), some (.ref r.a), some (.int (0 + (i : Int))), some (.str t), some (.int (0 + (j : Int))), y5, y6, none] H8
      refine ⟨.ref r.a, rfl, .str t, rfl, r, t, _, rfl, b8, by omega, by omega, fun o H9 b9 m9 lo => ?_⟩
      have tb9 := tb_mv tb8 b8 m9
      have tc9 := tabG_mv tc8 b8 m9
      try dsimp only []
      show tSeq _ _ _ [some (.ref a), some (.ref r.a), some (.int (0 + (i : Int))), some (.str t), some (.int (0 + (j : Int))), some (.str o), y6, none] H9
      refine seqP (fun σ' H' => ∃ o : Str, σ' = [some (.ref a), some (.ref r.a), some (.int (0 + (i : Int))), some (.str t), some (.int (0 + (j : Int))), some (.str o), y6, none] ∧ BagAt (8 + 1000 * i + 402 + 20 * j + 20) H' r ∧ Tb P1 P2 H' ∧ GxR.TabG H' P3 ∧ o.length ≤ 100000) (fun σ' H' hR => ?_) (fun nx hnx => ?_)
      rotate_left
      · refine ev_drawE (k := 1) (ev_int (i := 3)) rfl (by decide) (by decide) _ H9 _ (by omega) (se_of b9) fun x H10 b10 m10 hx => ⟨rfl, _, rfl, ite2 (fun c => ?_) (fun c => ?_)⟩
        · refine ⟨.ref r.a, rfl, .str o, rfl, r, o, _, rfl, b10, by omega, by omega, fun o2 H11 b11 m11 lo2 => ?_⟩
          exact hnx _ _ ⟨o2, rfl, b11.to, tb_mv (tb_mv tb9 b9 m10) b10 m11, tabG_mv (tabG_mv tc9 b9 m10) b10 m11, by omega⟩
        · exact hnx _ _ ⟨o, rfl, b10.to, tb_mv tb9 b9 m10, tabG_mv tc9 b9 m10, by omega⟩
      clear tb9 tc9 b9 m9 lo b8 tb8 tc8
      clear o
      obtain ⟨o, rfl, b10, tb10, tc10, lo⟩ := hR
      try dsimp only []
      show tIfS _ _ _ _ [some (.ref a), some (.ref r.a), some (.int (0 + (i : Int))), some (.str t), some (.int (0 + (j : Int))), some (.str o), y6, none] H'
      refine ⟨.str o, rfl, o, rfl, Nat.le_trans (show o.length ≤ 1000000 by omega) (by rw [sizeLine_eq]; decide), _, _, rfl, rfl, _, rfl, ite2 (fun c => ?_) (fun c => ?_)⟩
      · have lo4 : o.length ≤ 4200 := by have := of_decide_eq_true c; omega
        refine ⟨.str o, rfl, .str o, .str o, rfl, .str o, tb10, tc10, .inr ⟨o, rfl, fits_of (by omega), fun H12 x12 => ⟨dueV o, dueD o, rfl, due_rp o, due_b lo4, .str o, rfl, o, rfl, lo4, fun H13 s13 => ⟨dueV o, dueD o, rfl, due_rp o, due_b lo4, rfl, _, rfl, ite2 (fun c => absurd c (by simp)) (fun _ => ?_)⟩⟩⟩⟩
        exact ⟨_, _, rfl, ((b10.kx x12).same s13).to, (tb_ex tb10 x12).same s13, tabG_same s13 (tabG_ex tc10 x12)⟩
      · exact ⟨_, _, rfl, b10.to, tb10, tc10⟩
    · obtain ⟨y4, y5, rfl, b8, tb8, tc8⟩ := hP
      have b8 := b8.to (b := 8 + 1000 * i + 402 + 20 * 10)
      try dsimp only []
      show tFor _ _ _ _ [some (.ref a), some (.ref r.a), some (.int (0 + (i : Int))), some (.str t), y4, y5, y6, none] H8
      have eT : ∀ {σ : L2.St}, EvA _ r (fun b => b = r.a) [] σ (tCons (tC .non) (tCons (tC (.int 0)) (tCons (tC (.bl true)) (tCons (tLst tNil) (tCons (tTup (tCons (tC (.str "0 x 0")) tNil)) (tCons tDNewK (tCons (tLst (tCons (tTup (tCons (tLst (tCons (tC (.int 0)) tNil)) (tCons (tC (.int 0)) tNil))) tNil)) tNil))))))) 7 NoS :=
        eva_cons (ev_non rfl) (eva_cons ((ev_int (i := 0)).ev fun j e => rfl) (eva_cons (ev_bl rfl) (eva_cons ((ev_lst (P := fun _ => True) eva_nil).imp fun d ⟨ds, e, _⟩ => by rw [e]; rfl) (eva_cons ((ev_tup (P := fun _ => True) (eva_cons (ev_str trivial) eva_nil)).imp fun d ⟨ds, e, _⟩ => by rw [e]; rfl) (eva_cons (ev_dict rfl)
          (eva_cons ((ev_lst (P := fun _ => True) (eva_cons ((ev_tup (P := fun _ => True) (eva_cons ((ev_lst (P := fun _ => True) (eva_cons ((ev_int (i := 0)).ev fun _ _ => trivial) eva_nil)).imp fun _ _ => trivial) (eva_cons ((ev_int (i := 0)).ev fun _ _ => trivial) eva_nil))).imp fun _ _ => trivial) eva_nil)).imp fun d ⟨ds, e, _⟩ => by rw [e]; rfl) eva_nil))))))
      refine ea_for (n := 8 + 1000 * i + 402 + 20 * 10) (K := K) eT (by omega) (se_of b8) (by decide) fun p vs ds H9 S9 m9 ep pr ld hds => ⟨fun k σ H10 => ∃ y6, σ = [some (.ref a), some (.ref r.a), some (.int (0 + (i : Int))), some (.str t), y4, y5, y6, none] ∧ Se (8 + 1000 * i + 902) r (fun b => b = r.a) [(.ref p, .list ds)] H10 ∧ Tb P1 P2 H10 ∧ GxR.TabG H10 P3 ∧ H10 p = some (.lst vs),
        ⟨y6, rfl, S9.to, tb_mv tb8 b8 m9, tabG_mv tc8 b8 m9, ep⟩, fun k σ H10 _ hP => by obtain ⟨_, _, _, _, _, e⟩ := hP; exact SqL.of e, fun k x σ H10 hx hP => ?_, fun σ H10 hP => ?_⟩
      · obtain ⟨y6, rfl, S10, tb10, tc10, e10⟩ := hP
        obtain ⟨dx, hdx, hRx⟩ := se_item S10 List.mem_cons_self e10 hx
        have hno : isStrB dx = false := hds dx (List.mem_of_getElem? hdx)
        dsimp only [gName]
        show tIfS _ _ _ _ [some (.ref a), some (.ref r.a), some (.int (0 + (i : Int))), some (.str t), y4, y5, some x, none] H10
        refine ⟨x, rfl, x, dx, rfl, Rp.sm (Hw.sub _ _) hRx, tb10, tc10, .inl ⟨hno, fun H11 x11 => ⟨_, rfl, ite2 (fun c => absurd c (by simp)) (fun _ => ?_)⟩⟩⟩
        exact ⟨_, rfl, S10.ex x11, tb_ex tb10 x11, tabG_ex tc10 x11, x11.lst e10⟩
      · obtain ⟨y6, rfl, S10, tb10, tc10, e10⟩ := hP
        exact ⟨_, _, _, _, _, rfl, S10.re.to, tb10, tc10⟩
  · obtain ⟨y2, y3, y4, y5, y6, rfl, b3, tb3, tc3⟩ := hP
    clear b3
    try dsimp only []
    show tSeq (tIfS _ _ _) _ _ [some (.ref a), some (.ref r.a), y2, y3, y4, y5, y6, none] H3
    refine ⟨(by show 1 ≤ 1000; decide), fun ea na => ⟨ea, .int 4, rfl, upd_same, fun dx hd hn => ⟨rfl, dx, _, upd_same, by rw [upd_ne hn]; exact upd_same, (by rw [upd_ne hn] at hd; exact hd), rfl, dx, _, .int 4, rfl, upd_same, by rfl, ?_⟩⟩⟩
    have hd : H3 dx = none := by rw [upd_ne hn] at hd; exact hd
    refine ⟨rfl, _, rfl, ite2 (fun c => absurd c (by decide)) (fun _ => ?_)⟩
    have x4 := ex_raise (o1 := exo ea CT0 none) (o2 := exd dx [("sign", .int 4)]) (o3 := exo ea CT0 (some dx)) (o4 := .xd [("sign", .int 4)]) (Ex.refl H3) na hd
    have tb4 := tb_ex tb3 x4
    have tc4 := tabG_ex tc3 x4
    generalize (upd (del (upd (upd (upd H3 ea (exo ea CT0 none)) dx (exd dx [("sign", V.int 4)])) ea (exo ea CT0 (some dx))) ea) dx (HO.xd [("sign", V.int 4)])) = H4 at tb4 tc4 ⊢
    clear x4 tb3 tc3 hd hn na
    refine ⟨(by show 1 ≤ 1000; decide), fun ea na => ⟨ea, .non, rfl, upd_same, fun dx hd hn => ⟨rfl, dx, _, upd_same, by rw [upd_ne hn]; exact upd_same, (by rw [upd_ne hn] at hd; exact hd), rfl, dx, _, .non, rfl, upd_same, by rfl, ?_⟩⟩⟩
    have hd : H4 dx = none := by rw [upd_ne hn] at hd; exact hd
    have x5 := ex_raise (o1 := exo ea CT0 none) (o2 := exd dx [("sign", .non)]) (o3 := exo ea CT0 (some dx)) (o4 := .xd [("sign", .non)]) (Ex.refl H4) na hd
    have tb5 := tb_ex tb4 x5
    have tc5 := tabG_ex tc4 x5
    generalize (upd (del (upd (upd (upd H4 ea (exo ea CT0 none)) dx (exd dx [("sign", V.non)])) ea (exo ea CT0 (some dx))) ea) dx (HO.xd [("sign", V.non)])) = H5 at tb5 tc5 ⊢
    clear x5 tb4 tc4 hd hn na
    refine ⟨_, rfl, ite2 (fun c => absurd c (by decide)) (fun _ => ?_)⟩
    dsimp only [tNext]
    show tSeq _ _ _ [some (.ref a), some (.ref r.a), y2, y3, y4, y5, y6, none] H5
    refine ⟨small_le (by show 7 ≤ 1000; decide), fun p np => ?_⟩
    have s6 := same_upd (o := .lst [V.str "", V.str "0 x 0, ", V.str "0 x 0,0 x 0", V.str "1 x ever, 1 x 2", V.str "never x ever", V.str "0 x 0\n", V.str "1 x ever, 1 x 2, a x 1"]) np
    have ep : (upd H5 p (.lst [V.str "", V.str "0 x 0, ", V.str "0 x 0,0 x 0", V.str "1 x ever, 1 x 2", V.str "never x ever", V.str "0 x 0\n", V.str "1 x ever, 1 x 2, a x 1"])) p = some (.lst (someS.map V.str)) := upd_same
    have tb6 := tb5.same s6
    have tc6 := tabG_same s6 tc5
    generalize upd H5 p (.lst [V.str "", V.str "0 x 0, ", V.str "0 x 0,0 x 0", V.str "1 x ever, 1 x 2", V.str "never x ever", V.str "0 x 0\n", V.str "1 x ever, 1 x 2, a x 1"]) = H6 at ep tb6 tc6 ⊢
    dsimp only [gName]
    show tRet _ _ [some (.ref a), some (.ref r.a), y2, y3, y4, y5, y6, some (.ref p)] H6
    refine ⟨.ref p, rfl, p, rfl, ⟨_, SqL.of ep⟩, fun D nD => ?_⟩
    refine lc_list (K := K) (a := p) (xs := someS.map V.str) (fun k H7 => Ex H6 H7 ∧ H7 D = some (.lst ((someS.take k).map dueV)) ∧ Tb P1 P2 H7 ∧ GxR.TabG H7 P3) ⟨Ex.new nD, upd_same, tb6.same (same_upd nD), tabG_same (same_upd nD) tc6⟩ (fun k H7 _ ⟨x7, _⟩ => SqL.of (x7.lst ep)) (fun k x H7 hxk ⟨x7, e7, tb7, tc7⟩ => ?_) (fun H7 ⟨x7, e7, tb7, tc7⟩ => ?_)
    · rw [List.getElem?_map] at hxk
      obtain ⟨z, hz, rfl⟩ := Option.map_eq_some_iff.mp hxk
      have hzl := some_len z (List.mem_of_getElem? hz)
      refine ⟨rfl, yesT ⟨.str z, rfl, .str z, .str z, rfl, .str z, tb7, tc7, .inr ⟨z, rfl, fits_of (by omega), fun H8 x8 => ?_⟩⟩⟩
      have e8 := x8.lst e7
      refine ⟨_, e8, ?_, ex_updN (x7.trans x8) nD, ?_, (tb_ex tb7 x8).upd (fun ps z => by (rw [e8] at z; cases z)), tabG_upd (tabG_ex tc7 x8) (fun ps z => by (rw [e8] at z; cases z))⟩
      · rw [List.length_map, List.length_take]
        exact small1000 (by show min k someS.length ≤ 1000; have : someS.length = 7 := rfl; omega)
      · rw [upd_same, List.take_add_one, hz, List.map_append]
        rfl
    · rw [List.length_map, List.take_length, some_due] at e7
      refine ⟨small_le (by show 7 ≤ 1000; decide), fun p1 n1 => ?_⟩
      have l7 := same_upd (o := .lst dueL) n1 _ _ e7
      have e8 : (upd H7 p1 (.lst dueL)) p1 = some (.lst dueL) := upd_same
      refine ⟨.list dueDL, .list dueDL, .lst (SqL.of l7) due_dp, .lst (SqL.of e8) due_dp, by decide +kernel, by decide +kernel, ?_⟩
      rw [due_eqv]
      exact q _
end
end CL
set_option Elab.async false
set_option linter.all false
set_option maxRecDepth 100000
set_option maxHeartbeats 4000000
namespace CL
open PySem PySem.Spec PyProof.Rows L2 GE
/-! ### the end: what is tracked when the law is called, and that the run leaves the heap as it was but for the tables -/
def H0 (ts : List Addr) (K : PySem.W.Frag) (a : Addr) (vs : List Value) (ns : List Int) : Hp := fun b =>
  if b ∈ ts then some (.tbl #[]) else if b = a ∧ (K.lookup a).isNone = true then some (.frz { cls := .type "list", data := .seq vs.toArray } (.lst (ns.map V.int))) else none
section
variable {ts : List Addr} {K : PySem.W.Frag} {a : Addr} {vs : List Value} {ns : List Int} {h : Heap}
theorem H0.tab {b : Addr} (m : b ∈ ts) : H0 ts K a vs ns b = some (.tbl #[]) := if_pos m
theorem H0.cases {b : Addr} {u : HO} (e : H0 ts K a vs ns b = some u) : (b ∈ ts ∧ u = .tbl #[]) ∨ (b = a ∧ K.lookup a = none ∧ u = .frz { cls := .type "list", data := .seq vs.toArray } (.lst (ns.map V.int))) := by
  unfold H0 at e
  split at e
  · rename_i m
    exact .inl ⟨m, (Option.some.inj e).symm⟩
  · split at e
    · rename_i z
      exact .inr ⟨z.1, Option.isNone_iff_eq_none.mp z.2, (Option.some.inj e).symm⟩
    · cases e
/-- an object that is no list and no empty table is not tracked -/
theorem H0.other (hT : ∀ b ∈ ts, h.get? b = some { cls := .none, data := .fields #[] }) (ha : h.get? a = some { cls := .type "list", data := .seq vs.toArray }) {b : Addr} {o : Obj} (e : h.get? b = some o) (h1 : o.data ≠ .seq vs.toArray) (h2 : o.data ≠ .fields #[]) :
    H0 ts K a vs ns b = none := by
  cases q : H0 ts K a vs ns b with
  | none => rfl
  | some u =>
    rcases H0.cases q with ⟨m, _⟩ | ⟨rfl, _, _⟩
    · rw [hT b m] at e
      cases e
      exact absurd rfl h2
    · rw [ha] at e
      cases e
      exact absurd rfl h1
end
theorem end_own {P : Program} {w : World} {K : PySem.W.Frag} {mg mb : Str → Option Value} {q : Program} {loose : List Str} {mean : ExcName → Option Value} {k : Nat} {fa a : Addr} {fd : FuncData} {x : Str} {sp : Sp} {s₁ : Shared} {vs : List Value} {ns : List Int} (ts : List Addr)
    (KX : K.In s₁.heap) (T : Top q loose mean mg mb s₁.heap) (hi0 : importsNone q = true) (hg : s₁.gens = #[])
    (hT : ∀ b ∈ ts, s₁.heap.get? b = some { cls := .none, data := .fields #[] }) (hC : ∀ b ∈ ts, ∃ c, PySem.W.codeHdIn K c b = true) (nT : ∀ b ∈ ts, K.lookup b = none)
    (ha : s₁.heap.get? a = some { cls := .type "list", data := .seq vs.toArray }) (hi : IntsAre vs ns) (hl : ns.length ≤ sizeLine) (hr : Room k callerA)
    (F : ∀ base : Heap, K.In base → base.Ns mainGlobals mg → ((∃ o, base.get? sysModules = some o) ∧ base.NoDigits) → (∀ b ∈ ts, base.BuiltinsAt mg b ∧ mainGlobals ≠ b) → FnG P w K mg base k fa fd [x] sp)
    (hbind : ∀ (s : Shared) (u : Value), BindsTo s fd ⟨[u], []⟩ [(x, u)])
    (hsp : ∀ H : Hp, (∀ b ∈ ts, H b = some (.tbl #[])) → SqL K H a (ns.map V.int) → sp [.ref a] H (fun v _ => v = .bl true) fun _ _ _ => False) :
    codeAny (model P w) callerA (.call (.ref fa) ⟨[.ref a], []⟩) (fun r s' => r = .ok (.ret (.bool true)) ∧ OldK s₁.heap s'.heap ∧ s'.os = s₁.os ∧ AllBare s'.gens) s₁ := by
  have rv := vals_ints hi
  have aT : a ∉ ts := fun m => by
    have z := hT a m
    rw [ha] at z
    cases z
  generalize hH : H0 ts K a vs ns = H
  have tabs : ∀ b ∈ ts, H b = some (.tbl #[]) := fun b m => by rw [← hH]; exact H0.tab m
  have cs : ∀ {b : Addr} {u : HO}, H b = some u → (b ∈ ts ∧ u = .tbl #[]) ∨ (b = a ∧ K.lookup a = none ∧ u = .frz { cls := .type "list", data := .seq vs.toArray } (.lst (ns.map V.int))) := fun e => by
    rw [← hH] at e
    exact H0.cases e
  have oth : ∀ {b : Addr} {o : Obj}, s₁.heap.get? b = some o → o.data ≠ .seq vs.toArray → o.data ≠ .fields #[] → H b = none := fun e h1 h2 => by
    rw [← hH]
    exact H0.other hT ha e h1 h2
  have inB : ∀ {b : Addr} {o : Obj}, s₁.heap.get? b = some o → H b = none → (hidT s₁.heap H).get? b = some o := fun e n => hidT_get e n
  have nsB : ∀ {b : Addr} {m : Str → Option Value}, s₁.heap.Ns b m → (hidT s₁.heap H).Ns b m := fun ⟨o, es, ep, e, d, r⟩ => ⟨o, es, ep, inB e (oth e (by rw [d]; exact nofun) (by rw [d]; exact nofun)), d, r⟩
  have hok : HOk P w H s₁.heap := fun b u e => by
    rcases cs e with ⟨m, rfl⟩ | ⟨rfl, _, rfl⟩
    · exact hT b m
    · exact ⟨ha, by rw [List.length_map]; exact hl, vs, _, rv, ha⟩
  have hS : SqL K H a (ns.map V.int) := by
    cases hk : K.lookup a with
    | some o =>
      have e := KX a o hk
      rw [ha] at e
      cases e
      exact .inr ⟨_, vs.toArray, _, hk, rfl, rfl, rfl, by rw [List.size_toArray, hi.length]; exact hl, by simpa using rv⟩
    | none =>
      have e : H a = some (.frz { cls := .type "list", data := .seq vs.toArray } (.lst (ns.map V.int))) := by
        rw [← hH]
        unfold H0
        rw [if_neg aT, if_pos ⟨rfl, by rw [hk]; rfl⟩]
      exact .inl (.inr ⟨_, e⟩)
  have KB : K.In (hidT s₁.heap H) := fun b o e => inB (KX b o e) (by
    cases z : H b with
    | none => rfl
    | some u =>
      rcases cs z with ⟨m, _⟩ | ⟨rfl, n, _⟩
      · rw [nT b m] at e; cases e
      · rw [n] at e; cases e)
  have hM : L2.Mod K mg (hidT s₁.heap H) := ⟨KB, nsB T.g, ⟨mb, nsB T.b, T.builtins⟩, let ⟨mc, h1, h2⟩ := T.nolimit; ⟨mc, nsB h1, h2⟩⟩
  have sysB : ∃ o, (hidT s₁.heap H).get? sysModules = some o := by
    obtain ⟨mm, ⟨o, es, ep, e, d, _⟩, _⟩ := (T.seer hi0).mods
    exact ⟨o, inB e (oth e (by rw [d]; exact nofun) (by rw [d]; exact nofun))⟩
  have gB : ∀ b ∈ ts, mainGlobals ≠ b := fun b m z => by
    obtain ⟨o, es, ep, e, d, _⟩ := T.g
    rw [z, hT b m] at e
    cases e
    cases d
  have bB : ∀ b ∈ ts, (hidT s₁.heap H).BuiltinsAt mg b := fun b m => by
    obtain ⟨bm, ob, b1, b2, b3, b4, b5, b6⟩ := T.bmain
    refine ⟨bm, ob, b1, b2, fun z => ?_, fun z => ?_, inB b3 (oth b3 (by rw [b6]; exact nofun) (by rw [b6]; exact nofun)), b4, b5, b6⟩
    · obtain ⟨o, es, ep, e, d, _⟩ := T.g
      rw [z, e] at b3
      cases b3
      rw [d] at b6
      cases b6
    · rw [z, hT b m] at b3
      cases b3
      cases b6
  have e0 : Env0 P w K mg (hidT s₁.heap H) callerA [] s₁ H := ⟨rfl, hM, fun b o e => of_hidT e, Nat.le_of_eq (hidT_size _ _), trivial, fun b hb => absurd (show b ∈ ([] : List Addr) from hb) (by simp), hok, .of_eq hg⟩
  have digB : (hidT s₁.heap H).NoDigits := let ⟨mc, h1, h2⟩ := T.nodigits; ⟨mc, nsB h1, h2⟩
  have G := F _ KB (nsB T.g) ⟨sysB, digB⟩ fun b m => ⟨bB b m, gB b m⟩
  refine codeAny_mono (G.run callerA [] s₁ H ⟨[.ref a], []⟩ [.ref a] [.ref a] _ _ rfl hr e0 (hbind s₁ (.ref a)) (.cons rfl .nil) (hsp H tabs hS)) fun r s' z => ?_
  cases r with
  | error e => exact False.elim z
  | ok fl =>
    cases fl with
    | next => exact False.elim z
    | brk => exact False.elim z
    | cont => exact False.elim z
    | ret u =>
      obtain ⟨v, H', os, bare, un, hok', r', e'⟩ := z
      obtain rfl : v = .bl true := e'
      obtain rfl : u = Value.bool true := r'
      have stays : ∀ b o, b ∉ ts → s₁.heap.get? b = some o → s'.heap.get? b = some o := fun b o nb e => by
        cases z : H b with
        | none => exact un.keep b o e z (fun y => absurd (show b ∈ ([] : List Addr) from y) (by simp)) (by simp)
        | some u =>
          rcases cs z with ⟨m, _⟩ | ⟨rfl, _, rfl⟩
          · exact absurd m nb
          · rw [ha] at e
            cases e
            exact (hok' _ _ (un.frzs _ _ _ z)).1
      have grow : ∀ b ∈ ts, ∃ more : Array Value, s'.heap.get? b = some { cls := .none, data := .fields more } := fun b m => by
        obtain ⟨more, e⟩ := un.tbls b #[] (tabs b m)
        exact ⟨_, hok' b _ e⟩
      refine ⟨rfl, ⟨fun b o e => ?_, fun b o e => ?_⟩, os, bare⟩
      · by_cases m : b ∈ ts
        · obtain ⟨c, hc⟩ := hC b m
          obtain ⟨more, hm⟩ := grow b m
          rw [hT b m] at e
          cases e
          exact .inr (.inl ⟨((PySem.W.codeHd_of_K KX hc).tab (hT b m)).isCodeTable, rfl, #[], more, rfl, by rw [Array.empty_append]; exact hm⟩)
        · exact .inl (stays b o m e)
      · by_cases m : b ∈ ts
        · obtain ⟨more, hm⟩ := grow b m
          exact ⟨_, hm⟩
        · exact ⟨o, stays b o m e⟩
end CL
set_option Elab.async false
set_option pp.maxSteps 300
set_option linter.all false
set_option maxRecDepth 100000
set_option maxHeartbeats 4000000
namespace CL
open PySem PySem.Spec PyProof.Rows L2 GE
theorem fnE {P : Program} {w : World} {K : PySem.W.Frag} {mg : Str → Option Value} {base : Heap} {k : Nat} {f : Addr} {fd : FuncData} {ps : List Str} {sp : Bg → Sp} (F : ∀ r, FnOk P w K mg base CX0 k f fd ps (sp r)) : FnOk P w K mg base CX0 k f fd ps (spE sp) :=
  ⟨fun vs H Q E ⟨r, h⟩ => (F r).len vs H Q E h, fun A outer s H args us vs Q E hr e0 hb rv ⟨r, h⟩ => (F r).run A outer s H args us vs Q E hr e0 hb rv h⟩
/-- the table of a def of the program is empty when the law is called -/
theorem tab_of {q : Program} {loose : List Str} {mean : ExcName → Option Value} {mg mb : Str → Option Value} {h : Heap} {K : PySem.W.Frag} {n : Str} {f c P : Addr} {o : Obj} {fd : FuncData} (T : Top q loose mean mg mb h) (KX : K.In h) (hr : ((recsOf q).any fun e => e.name == n) = true)
    (hm : mg n = some (.ref f)) (k1 : K.lookup f = some o) (k2 : o.data = .func fd) (k3 : fd.code = .ref c) (hh : PySem.W.codeHdIn K c P = true) : h.get? P = some { cls := .none, data := .fields #[] } := by
  obtain ⟨d, hd, e⟩ := List.any_eq_true.mp hr
  have e' : d.name = n := beq_iff_eq.mp e
  obtain ⟨a', o', fd', c', P', t1, t2, t3, t4, t5, t6⟩ := T.tab d hd
  rw [e', hm] at t1
  cases t1
  rw [KX _ _ k1] at t2
  cases t2
  rw [k2] at t3
  cases t3
  rw [k3] at t4
  cases t4
  obtain ⟨⟨oc, vc, g1, _, g3, g4⟩, g5⟩ := t6
  obtain ⟨oh, uh, _, _, _, _, _, _, _, i1, _, i2, i3, _⟩ := PySem.W.codeHd_of_K KX hh
  rw [g1] at i1
  cases i1
  rw [g3] at i2
  cases i2
  rw [g4] at i3
  cases i3
  exact g5
/-- what the head must know of the law's def -/
def AtLaw (l : PySem.W.OpenLaw) (w : World) (K : PySem.W.Frag) (mg : Str → Option Value) (fa : Addr) (h : Heap) : Prop :=
  ∃ (fd : FuncData) (Q1 Q2 Q3 : Addr), (∀ b ∈ ([Q1, Q2, Q3] : List Addr), h.get? b = some { cls := .none, data := .fields #[] }) ∧ (∀ b ∈ ([Q1, Q2, Q3] : List Addr), ∃ c, PySem.W.codeHdIn K c b = true) ∧ (∀ b ∈ ([Q1, Q2, Q3] : List Addr), K.lookup b = none) ∧ (∀ (s : Shared) (u : Value), BindsTo s fd ⟨[u], []⟩ [("script", u)]) ∧
    ∀ base : Heap, K.In base → base.Ns mainGlobals mg → ((∃ o, base.get? sysModules = some o) ∧ base.NoDigits) → (∀ b ∈ ([Q1, Q2, Q3] : List Addr), base.BuiltinsAt mg b ∧ mainGlobals ≠ b) → FnG l.prog w K mg base 12 fa fd ["script"] (spLaw K Q1 Q2 Q3)
theorem walk {l : PySem.W.OpenLaw} {q : Program} {loose : List Str} {XP : (Str → Option Value) → Heap → Prop} {YP : World → Heap → Prop} {d : DefRec} {K : Params → PySem.W.Frag} (hn : l.most = some 63) (hdf : d.params.defaults = []) (hi0 : importsNone q = true)
    (hY : ∀ (w : World) (h : Heap), YP w h → (K w.params).In h)
    (F : ∀ (w : World) (mg mb : Str → Option Value) (mean : ExcName → Option Value) (lo : List Str) (fa : Addr) (h : Heap), (K w.params).In h → Top q lo mean mg mb h → mg d.name = some (.ref fa) → AtLaw l w (K w.params) mg fa h) :
    PySem.W.WalkO q loose XP YP l.row.toRowW d [] (fun f vs => PySem.call f vs) := by
  refine Att.attach_callB hn hdf fun w s₀ s₁ mg mb fa o pm cd doc a vs ns G Y ho hd hcd hmg hobj hints hlen _ hg => ?_
  obtain ⟨fd, Q1, Q2, Q3, h1, h2, h3, h4, h5⟩ := F w mg mb _ _ fa s₁.heap (hY w _ Y) G.T hmg
  exact end_own [Q1, Q2, Q3] (hY w _ Y) G.T hi0 hg h1 h2 h3 hobj hints (Nat.le_trans hlen (by decide)) ⟨rfl, by decide, by decide⟩ h5 h4 fun H t hS => ⟨a, ns, rfl, hS, hlen, ⟨#[], t Q1 (by simp), trivial⟩, ⟨#[], t Q2 (by simp), trivial⟩, ⟨#[], t Q3 (by simp), trivial⟩, fun _ => rfl⟩
theorem all_mk {l : PySem.W.OpenLaw} {w : World} {K : PySem.W.Frag} {q : Program} {lo : List Str} {mean : ExcName → Option Value} {h : Heap} {mg mb : Str → Option Value} {fa fTI fW fR fA fT fI fL fCK fIN fNB fIO fNO fHF fRD fBG fSR fDR fPA fPN fTX fCL fLN fLF fLW fLP fLD fTO fBN fLL fZ cT cL cHF PT PL PHF  cCT X1 XE Y_NoPerson Y_NoMoment Y_TooMany Y_NoOther Y_NoPlace Y_NoEnd Y_NoOrder Y_NoNumber Y_NoPatience Y_Nobody Y_Nothing Y_NoHistory Y_NoForm Y_NoneYet  : Addr} (X : K.In h) (G : Top q lo mean mg mb h) (hfa : mg "law" = some (.ref fa))
    {odTI anTI : Option Addr} {slTI : Array (Option Value)} {ocTI kVTI dcTI pmTI cdTI ctTI : Value}
    {odW anW : Option Addr} {slW : Array (Option Value)} {ocW kVW dcW pmW cdW ctW : Value}
    {odR anR : Option Addr} {slR : Array (Option Value)} {ocR kVR dcR pmR cdR ctR : Value}
    {odA anA : Option Addr} {slA : Array (Option Value)} {ocA kVA dcA pmA cdA ctA : Value}
    {odT anT : Option Addr} {slT : Array (Option Value)} {ocT kVT dcT pmT ctT : Value}
    {odI anI : Option Addr} {slI : Array (Option Value)} {ocI kVI dcI pmI cdI ctI : Value}
    {odL anL : Option Addr} {slL : Array (Option Value)} {ocL kVL dcL pmL ctL : Value}
    {odCK anCK : Option Addr} {slCK : Array (Option Value)} {ocCK kVCK dcCK pmCK cdCK ctCK : Value}
    {odIN anIN : Option Addr} {slIN : Array (Option Value)} {ocIN kVIN dcIN pmIN cdIN ctIN : Value}
    {odNB anNB : Option Addr} {slNB : Array (Option Value)} {ocNB kVNB dcNB pmNB cdNB ctNB : Value}
    {odIO anIO : Option Addr} {slIO : Array (Option Value)} {ocIO kVIO dcIO pmIO cdIO ctIO : Value}
    {odNO anNO : Option Addr} {slNO : Array (Option Value)} {ocNO kVNO dcNO pmNO cdNO ctNO : Value}
    {odHF anHF : Option Addr} {slHF : Array (Option Value)} {ocHF kVHF dcHF pmHF ctHF : Value}
    {odRD anRD : Option Addr} {slRD : Array (Option Value)} {ocRD kVRD dcRD pmRD cdRD ctRD : Value}
    {odBG anBG : Option Addr} {slBG : Array (Option Value)} {ocBG kVBG dcBG pmBG cdBG ctBG : Value}
    {odSR anSR : Option Addr} {slSR : Array (Option Value)} {ocSR kVSR dcSR pmSR cdSR ctSR : Value}
    {odDR anDR : Option Addr} {slDR : Array (Option Value)} {ocDR kVDR dcDR pmDR cdDR ctDR : Value}
    {odPA anPA : Option Addr} {slPA : Array (Option Value)} {ocPA kVPA dcPA pmPA cdPA ctPA : Value}
    {odPN anPN : Option Addr} {slPN : Array (Option Value)} {ocPN kVPN dcPN pmPN cdPN ctPN : Value}
    {odTX anTX : Option Addr} {slTX : Array (Option Value)} {ocTX kVTX dcTX pmTX cdTX ctTX : Value}
    {odCL anCL : Option Addr} {slCL : Array (Option Value)} {ocCL kVCL dcCL pmCL cdCL ctCL : Value}
    {odLN anLN : Option Addr} {slLN : Array (Option Value)} {ocLN kVLN dcLN pmLN cdLN ctLN : Value}
    {odLF anLF : Option Addr} {slLF : Array (Option Value)} {ocLF kVLF dcLF pmLF cdLF ctLF : Value}
    {odLW anLW : Option Addr} {slLW : Array (Option Value)} {ocLW kVLW dcLW pmLW cdLW ctLW : Value}
    {odLP anLP : Option Addr} {slLP : Array (Option Value)} {ocLP kVLP dcLP pmLP cdLP ctLP : Value}
    {odLD anLD : Option Addr} {slLD : Array (Option Value)} {ocLD kVLD dcLD pmLD cdLD ctLD : Value}
    {odTO anTO : Option Addr} {slTO : Array (Option Value)} {ocTO kVTO dcTO pmTO cdTO ctTO : Value}
    {odBN anBN : Option Addr} {slBN : Array (Option Value)} {ocBN kVBN dcBN pmBN cdBN ctBN : Value}
    {odLL anLL : Option Addr} {slLL : Array (Option Value)} {ocLL kVLL dcLL pmLL cdLL ctLL : Value}
    {odZ anZ : Option Addr} {slZ : Array (Option Value)} {ocZ kVZ dcZ pmZ cdZ ctZ : Value} {eT : Value} {dT : Option Addr} {usT : Array Value} {wT : Array (Option Value)} {eL : Value} {dL : Option Addr} {usL : Array Value} {wL : Array (Option Value)} {eHF : Value} {dHF : Option Addr} {usHF : Array Value} {wHF : Array (Option Value)} {tgM : Tok} {tgLo : Tok} {tgPL : Tok} {tgPW : Tok} {tgNV : Tok} {tgEV : Tok}
    (aTI : PySem.W.findIn K (.ref cCT) "__init__" = some (some (.ref fTI))) (lTI : K.lookup fTI = some ⟨ocTI, odTI, .func (PySem.W.fnOf "__init__" "NoText.__init__" (defArgs sInitNT) (defBody sInitNT) (defScope sInitNT) .none kVTI dcTI pmTI anTI cdTI ctTI), slTI⟩) (TIc : PySem.W.codeIn K cdTI "NoText.__init__" = true) (kTI : PySem.W.keepIn K (.ref fTI) = true) (iTI : PySem.W.isFn K (.ref fTI) = true)
    (aW : PySem.W.nsIn K mainGlobals "is_whole" = some (some (.ref fW))) (lW : K.lookup fW = some ⟨ocW, odW, .func (PySem.W.fnOf "is_whole" "is_whole" (defArgs sWhole) (defBody sWhole) (defScope sWhole) .none kVW dcW pmW anW cdW ctW), slW⟩) (Wc : PySem.W.codeIn K cdW "is_whole" = true) (kW : PySem.W.keepIn K (.ref fW) = true)
    (aR : PySem.W.nsIn K mainGlobals "is_row" = some (some (.ref fR))) (lR : K.lookup fR = some ⟨ocR, odR, .func (PySem.W.fnOf "is_row" "is_row" (defArgs sRow) (defBody sRow) (defScope sRow) .none kVR dcR pmR anR cdR ctR), slR⟩) (Rc : PySem.W.codeIn K cdR "is_row" = true) (kR : PySem.W.keepIn K (.ref fR) = true)
    (aA : PySem.W.nsIn K mainGlobals "is_patience" = some (some (.ref fA))) (lA : K.lookup fA = some ⟨ocA, odA, .func (PySem.W.fnOf "is_patience" "is_patience" (defArgs sPat) (defBody sPat) (defScope sPat) .none kVA dcA pmA anA cdA ctA), slA⟩) (Ac : PySem.W.codeIn K cdA "is_patience" = true) (kA : PySem.W.keepIn K (.ref fA) = true)
    (aT : PySem.W.nsIn K mainGlobals "is_turns" = some (some (.ref fT))) (lT : K.lookup fT = some ⟨ocT, odT, .func (PySem.W.fnOf "is_turns" "is_turns" (defArgs sTurns) (defBody sTurns) (defScope sTurns) .none kVT dcT pmT anT (.ref cT) ctT), slT⟩) (Tc : PySem.W.codeIn K (.ref cT) "is_turns" = true) (kT : PySem.W.keepIn K (.ref fT) = true)
    (aI : PySem.W.nsIn K mainGlobals "is_piece" = some (some (.ref fI))) (lI : K.lookup fI = some ⟨ocI, odI, .func (PySem.W.fnOf "is_piece" "is_piece" (defArgs sPiece) (defBody sPiece) (defScope sPiece) .none kVI dcI pmI anI cdI ctI), slI⟩) (Ic : PySem.W.codeIn K cdI "is_piece" = true) (kI : PySem.W.keepIn K (.ref fI) = true)
    (aL : PySem.W.nsIn K mainGlobals "is_plan" = some (some (.ref fL))) (lL : K.lookup fL = some ⟨ocL, odL, .func (PySem.W.fnOf "is_plan" "is_plan" (defArgs sPlan) (defBody sPlan) (defScope sPlan) .none kVL dcL pmL anL (.ref cL) ctL), slL⟩) (Lc : PySem.W.codeIn K (.ref cL) "is_plan" = true) (kL : PySem.W.keepIn K (.ref fL) = true)
    (aCK : PySem.W.nsIn K mainGlobals "check_plan" = some (some (.ref fCK))) (lCK : K.lookup fCK = some ⟨ocCK, odCK, .func (PySem.W.fnOf "check_plan" "check_plan" (defArgs sCheck) (defBody sCheck) (defScope sCheck) .none kVCK dcCK pmCK anCK cdCK ctCK), slCK⟩) (CKc : PySem.W.codeIn K cdCK "check_plan" = true) (kCK : PySem.W.keepIn K (.ref fCK) = true)
    (aIN : PySem.W.nsIn K mainGlobals "is_number" = some (some (.ref fIN))) (lIN : K.lookup fIN = some ⟨ocIN, odIN, .func (PySem.W.fnOf "is_number" "is_number" (defArgs sIsN) (defBody sIsN) (defScope sIsN) .none kVIN dcIN pmIN anIN cdIN ctIN), slIN⟩) (INc : PySem.W.codeIn K cdIN "is_number" = true) (kIN : PySem.W.keepIn K (.ref fIN) = true)
    (aNB : PySem.W.nsIn K mainGlobals "number_by" = some (some (.ref fNB))) (lNB : K.lookup fNB = some ⟨ocNB, odNB, .func (PySem.W.fnOf "number_by" "number_by" (defArgs sBy) (defBody sBy) (defScope sBy) .none kVNB dcNB pmNB anNB cdNB ctNB), slNB⟩) (NBc : PySem.W.codeIn K cdNB "number_by" = true) (kNB : PySem.W.keepIn K (.ref fNB) = true)
    (aIO : PySem.W.nsIn K mainGlobals "is_number_or" = some (some (.ref fIO))) (lIO : K.lookup fIO = some ⟨ocIO, odIO, .func (PySem.W.fnOf "is_number_or" "is_number_or" (defArgs sIsO) (defBody sIsO) (defScope sIsO) .none kVIO dcIO pmIO anIO cdIO ctIO), slIO⟩) (IOc : PySem.W.codeIn K cdIO "is_number_or" = true) (kIO : PySem.W.keepIn K (.ref fIO) = true)
    (aNO : PySem.W.nsIn K mainGlobals "number_or" = some (some (.ref fNO))) (lNO : K.lookup fNO = some ⟨ocNO, odNO, .func (PySem.W.fnOf "number_or" "number_or" (defArgs sNor) (defBody sNor) (defScope sNor) .none kVNO dcNO pmNO anNO cdNO ctNO), slNO⟩) (NOc : PySem.W.codeIn K cdNO "number_or" = true) (kNO : PySem.W.keepIn K (.ref fNO) = true)
    (aHF : PySem.W.nsIn K mainGlobals "has_form" = some (some (.ref fHF))) (lHF : K.lookup fHF = some ⟨ocHF, odHF, .func (PySem.W.fnOf "has_form" "has_form" (defArgs sForm) (defBody sForm) (defScope sForm) .none kVHF dcHF pmHF anHF (.ref cHF) ctHF), slHF⟩) (HFc : PySem.W.codeIn K (.ref cHF) "has_form" = true) (kHF : PySem.W.keepIn K (.ref fHF) = true)
    (aRD : PySem.W.nsIn K mainGlobals "read_plan" = some (some (.ref fRD))) (lRD : K.lookup fRD = some ⟨ocRD, odRD, .func (PySem.W.fnOf "read_plan" "read_plan" (defArgs sRead) (defBody sRead) (defScope sRead) .none kVRD dcRD pmRD anRD cdRD ctRD), slRD⟩) (RDc : PySem.W.codeIn K cdRD "read_plan" = true) (kRD : PySem.W.keepIn K (.ref fRD) = true)
    (aBG : PySem.W.nsIn K mainGlobals "_law_bag" = some (some (.ref fBG))) (lBG : K.lookup fBG = some ⟨ocBG, odBG, .func (PySem.W.fnOf "_law_bag" "_law_bag" (defArgs sBag) (defBody sBag) (defScope sBag) .none kVBG dcBG pmBG anBG cdBG ctBG), slBG⟩) (BGc : PySem.W.codeIn K cdBG "_law_bag" = true) (kBG : PySem.W.keepIn K (.ref fBG) = true)
    (aSR : PySem.W.nsIn K mainGlobals "_law_stir" = some (some (.ref fSR))) (lSR : K.lookup fSR = some ⟨ocSR, odSR, .func (PySem.W.fnOf "_law_stir" "_law_stir" (defArgs sStir) (defBody sStir) (defScope sStir) .none kVSR dcSR pmSR anSR cdSR ctSR), slSR⟩) (SRc : PySem.W.codeIn K cdSR "_law_stir" = true) (kSR : PySem.W.keepIn K (.ref fSR) = true)
    (aDR : PySem.W.nsIn K mainGlobals "_law_draw" = some (some (.ref fDR))) (lDR : K.lookup fDR = some ⟨ocDR, odDR, .func (PySem.W.fnOf "_law_draw" "_law_draw" (defArgs sDraw) (defBody sDraw) (defScope sDraw) .none kVDR dcDR pmDR anDR cdDR ctDR), slDR⟩) (DRc : PySem.W.codeIn K cdDR "_law_draw" = true) (kDR : PySem.W.keepIn K (.ref fDR) = true)
    (aPA : PySem.W.nsIn K mainGlobals "_law_patience" = some (some (.ref fPA))) (lPA : K.lookup fPA = some ⟨ocPA, odPA, .func (PySem.W.fnOf "_law_patience" "_law_patience" (defArgs sPatB) (defBody sPatB) (defScope sPatB) .none kVPA dcPA pmPA anPA cdPA ctPA), slPA⟩) (PAc : PySem.W.codeIn K cdPA "_law_patience" = true) (kPA : PySem.W.keepIn K (.ref fPA) = true)
    (aPN : PySem.W.nsIn K mainGlobals "_law_plan" = some (some (.ref fPN))) (lPN : K.lookup fPN = some ⟨ocPN, odPN, .func (PySem.W.fnOf "_law_plan" "_law_plan" (defArgs sPlanB) (defBody sPlanB) (defScope sPlanB) .none kVPN dcPN pmPN anPN cdPN ctPN), slPN⟩) (PNc : PySem.W.codeIn K cdPN "_law_plan" = true) (kPN : PySem.W.keepIn K (.ref fPN) = true)
    (aTX : PySem.W.nsIn K mainGlobals "_law_plan_text" = some (some (.ref fTX))) (lTX : K.lookup fTX = some ⟨ocTX, odTX, .func (PySem.W.fnOf "_law_plan_text" "_law_plan_text" (defArgs sTxt) (defBody sTxt) (defScope sTxt) .none kVTX dcTX pmTX anTX cdTX ctTX), slTX⟩) (TXc : PySem.W.codeIn K cdTX "_law_plan_text" = true) (kTX : PySem.W.keepIn K (.ref fTX) = true)
    (aCL : PySem.W.nsIn K mainGlobals "_law_class" = some (some (.ref fCL))) (lCL : K.lookup fCL = some ⟨ocCL, odCL, .func (PySem.W.fnOf "_law_class" "_law_class" (defArgs sClass) (defBody sClass) (defScope sClass) .none kVCL dcCL pmCL anCL cdCL ctCL), slCL⟩) (CLc : PySem.W.codeIn K cdCL "_law_class" = true) (kCL : PySem.W.keepIn K (.ref fCL) = true)
    (aLN : PySem.W.nsIn K mainGlobals "_law_is_number" = some (some (.ref fLN))) (lLN : K.lookup fLN = some ⟨ocLN, odLN, .func (PySem.W.fnOf "_law_is_number" "_law_is_number" (defArgs sLNum) (defBody sLNum) (defScope sLNum) .none kVLN dcLN pmLN anLN cdLN ctLN), slLN⟩) (LNc : PySem.W.codeIn K cdLN "_law_is_number" = true) (kLN : PySem.W.keepIn K (.ref fLN) = true)
    (aLF : PySem.W.nsIn K mainGlobals "_law_form" = some (some (.ref fLF))) (lLF : K.lookup fLF = some ⟨ocLF, odLF, .func (PySem.W.fnOf "_law_form" "_law_form" (defArgs sLForm) (defBody sLForm) (defScope sLForm) .none kVLF dcLF pmLF anLF cdLF ctLF), slLF⟩) (LFc : PySem.W.codeIn K cdLF "_law_form" = true) (kLF : PySem.W.keepIn K (.ref fLF) = true)
    (aLW : PySem.W.nsIn K mainGlobals "_law_worth" = some (some (.ref fLW))) (lLW : K.lookup fLW = some ⟨ocLW, odLW, .func (PySem.W.fnOf "_law_worth" "_law_worth" (defArgs sLWo) (defBody sLWo) (defScope sLWo) .none kVLW dcLW pmLW anLW cdLW ctLW), slLW⟩) (LWc : PySem.W.codeIn K cdLW "_law_worth" = true) (kLW : PySem.W.keepIn K (.ref fLW) = true)
    (aLP : PySem.W.nsIn K mainGlobals "_law_is_plan" = some (some (.ref fLP))) (lLP : K.lookup fLP = some ⟨ocLP, odLP, .func (PySem.W.fnOf "_law_is_plan" "_law_is_plan" (defArgs sLPl) (defBody sLPl) (defScope sLPl) .none kVLP dcLP pmLP anLP cdLP ctLP), slLP⟩) (LPc : PySem.W.codeIn K cdLP "_law_is_plan" = true) (kLP : PySem.W.keepIn K (.ref fLP) = true)
    (aLD : PySem.W.nsIn K mainGlobals "_law_due" = some (some (.ref fLD))) (lLD : K.lookup fLD = some ⟨ocLD, odLD, .func (PySem.W.fnOf "_law_due" "_law_due" (defArgs sLDue) (defBody sLDue) (defScope sLDue) .none kVLD dcLD pmLD anLD cdLD ctLD), slLD⟩) (LDc : PySem.W.codeIn K cdLD "_law_due" = true) (kLD : PySem.W.keepIn K (.ref fLD) = true)
    (aTO : PySem.W.nsIn K mainGlobals "_law_told" = some (some (.ref fTO))) (lTO : K.lookup fTO = some ⟨ocTO, odTO, .func (PySem.W.fnOf "_law_told" "_law_told" (defArgs sTold) (defBody sTold) (defScope sTold) .none kVTO dcTO pmTO anTO cdTO ctTO), slTO⟩) (TOc : PySem.W.codeIn K cdTO "_law_told" = true) (kTO : PySem.W.keepIn K (.ref fTO) = true)
    (aBN : PySem.W.nsIn K mainGlobals "_law_bent" = some (some (.ref fBN))) (lBN : K.lookup fBN = some ⟨ocBN, odBN, .func (PySem.W.fnOf "_law_bent" "_law_bent" (defArgs sBent) (defBody sBent) (defScope sBent) .none kVBN dcBN pmBN anBN cdBN ctBN), slBN⟩) (BNc : PySem.W.codeIn K cdBN "_law_bent" = true) (kBN : PySem.W.keepIn K (.ref fBN) = true)
    (aLL : PySem.W.nsIn K mainGlobals "_law_long_right" = some (some (.ref fLL))) (lLL : K.lookup fLL = some ⟨ocLL, odLL, .func (PySem.W.fnOf "_law_long_right" "_law_long_right" (defArgs sLong) (defBody sLong) (defScope sLong) .none kVLL dcLL pmLL anLL cdLL ctLL), slLL⟩) (LLc : PySem.W.codeIn K cdLL "_law_long_right" = true) (kLL : PySem.W.keepIn K (.ref fLL) = true)
    (aZ : PySem.W.nsIn K mainGlobals "law" = some (some (.ref fZ))) (lZ : K.lookup fZ = some ⟨ocZ, odZ, .func (PySem.W.fnOf "law" "law" (defArgs sLaw) (defBody sLaw) (defScope sLaw) .none kVZ dcZ pmZ anZ cdZ ctZ), slZ⟩) (Zc : PySem.W.codeIn K cdZ "law" = true) (kZ : PySem.W.keepIn K (.ref fZ) = true)
    (z_isinstance : PySem.W.nsIn K mainGlobals "isinstance" = some none) (z_len : PySem.W.nsIn K mainGlobals "len" = some none) (z_all : PySem.W.nsIn K mainGlobals "all" = some none) (z_any : PySem.W.nsIn K mainGlobals "any" = some none) (z_sum : PySem.W.nsIn K mainGlobals "sum" = some none) (z_int : PySem.W.nsIn K mainGlobals "int" = some none) (z_bool : PySem.W.nsIn K mainGlobals "bool" = some none) (z_list : PySem.W.nsIn K mainGlobals "list" = some none) (z_tuple : PySem.W.nsIn K mainGlobals "tuple" = some none) (z_str : PySem.W.nsIn K mainGlobals "str" = some none) (z_divmod : PySem.W.nsIn K mainGlobals "divmod" = some none) (z_reversed : PySem.W.nsIn K mainGlobals "reversed" = some none) (z_range : PySem.W.nsIn K mainGlobals "range" = some none) (z_min : PySem.W.nsIn K mainGlobals "min" = some none) (z_repr : PySem.W.nsIn K mainGlobals "repr" = some none) (z_enumerate : PySem.W.nsIn K mainGlobals "enumerate" = some none) (z_ValueError : PySem.W.nsIn K mainGlobals "ValueError" = some none)
    (mT : K.lookup cT = some ⟨eT, dT, .fields usT, wT⟩) (pT : usT[11]? = some (.ref PT)) (qT : PySem.W.codeHdIn K cT PT = true) (nT : (K.lookup PT).isNone = true) (rT : ((recsOf q).any fun e => e.name == "is_turns") = true)
    (mL : K.lookup cL = some ⟨eL, dL, .fields usL, wL⟩) (pL : usL[11]? = some (.ref PL)) (qL : PySem.W.codeHdIn K cL PL = true) (nL : (K.lookup PL).isNone = true) (rL : ((recsOf q).any fun e => e.name == "is_plan") = true)
    (mHF : K.lookup cHF = some ⟨eHF, dHF, .fields usHF, wHF⟩) (pHF : usHF[11]? = some (.ref PHF)) (qHF : PySem.W.codeHdIn K cHF PHF = true) (nHF : (K.lookup PHF).isNone = true) (rHF : ((recsOf q).any fun e => e.name == "has_form") = true)
    (xg0 : PySem.W.nsIn K mainGlobals "NoText" = some (some (.ref cCT)))
    (xk0 : PySem.W.keepIn K (.ref cCT) = true)
    (xb0 : PySem.W.subIn K (.ref cCT) (.type "BaseException") = some true)
    (xt0 : PySem.W.typeIn K (.ref cCT) = some (.type "type"))
    (ea0 : PySem.W.findIn K (.ref cCT) "__getattribute__" = some (some (.builtin "BaseException.__getattribute__")))
    (eb0 : PySem.W.findIn K (.ref cCT) "__getattr__" = some none)
    (ed0 : PySem.W.hasDictIn K cCT = true)
    (ec0 : PySem.W.findIn K (.ref cCT) "__class__" = some (some (.builtin "object.__class__")))
    (em0 : PySem.W.mroIn K cCT (.type "object") = some true)
    (t0_0 : PySem.W.kitOne K (.ref cCT) (.ref cCT) = some true)
    (t1_0 : PySem.W.kitOne K (.ref cCT) (.ref X1) = some false)
    (u0_0 : PySem.W.kitAny K (.ref cCT) [.ref Y_NoPerson, .ref Y_NoMoment, .ref Y_TooMany, .ref Y_NoOther, .ref Y_NoPlace, .ref Y_NoEnd] = some false)
    (u1_0 : PySem.W.kitAny K (.ref cCT) [.ref Y_NoOrder, .ref Y_NoNumber, .ref Y_NoPatience, .ref Y_Nobody, .ref Y_Nothing, .ref Y_NoHistory] = some false)
    (u2_0 : PySem.W.kitAny K (.ref cCT) [.ref Y_NoForm, .ref Y_NoneYet] = some false)
    (v70 : PySem.W.kitOne K (.ref cCT) (.type "ValueError") = some true)
    (v80 : PySem.W.exmOne K (.ref cCT) (.ref XE) = some true)
    (xg1 : PySem.W.nsIn K mainGlobals "NoPlan" = some (some (.ref X1)))
    (xx1 : PySem.W.excIn K X1 [.type "ValueError", .type "Exception", .type "BaseException", .type "object"] "ValueError.__new__" = true)
    (xk1 : PySem.W.keepIn K (.ref X1) = true)
    (xb1 : PySem.W.subIn K (.ref X1) (.type "BaseException") = some true)
    (xt1 : PySem.W.typeIn K (.ref X1) = some (.type "type"))
    (ea1 : PySem.W.findIn K (.ref X1) "__getattribute__" = some (some (.builtin "BaseException.__getattribute__")))
    (eb1 : PySem.W.findIn K (.ref X1) "__getattr__" = some none)
    (ed1 : PySem.W.hasDictIn K X1 = true)
    (ec1 : PySem.W.findIn K (.ref X1) "__class__" = some (some (.builtin "object.__class__")))
    (em1 : PySem.W.mroIn K X1 (.type "object") = some true)
    (t0_1 : PySem.W.kitOne K (.ref X1) (.ref cCT) = some false)
    (t1_1 : PySem.W.kitOne K (.ref X1) (.ref X1) = some true)
    (u0_1 : PySem.W.kitAny K (.ref X1) [.ref Y_NoPerson, .ref Y_NoMoment, .ref Y_TooMany, .ref Y_NoOther, .ref Y_NoPlace, .ref Y_NoEnd] = some false)
    (u1_1 : PySem.W.kitAny K (.ref X1) [.ref Y_NoOrder, .ref Y_NoNumber, .ref Y_NoPatience, .ref Y_Nobody, .ref Y_Nothing, .ref Y_NoHistory] = some false)
    (u2_1 : PySem.W.kitAny K (.ref X1) [.ref Y_NoForm, .ref Y_NoneYet] = some false)
    (v71 : PySem.W.kitOne K (.ref X1) (.type "ValueError") = some true)
    (v81 : PySem.W.exmOne K (.ref X1) (.ref XE) = some true)
    (ogNoPerson : PySem.W.nsIn K mainGlobals "NoPerson" = some (some (.ref Y_NoPerson)))
    (ogNoMoment : PySem.W.nsIn K mainGlobals "NoMoment" = some (some (.ref Y_NoMoment)))
    (ogTooMany : PySem.W.nsIn K mainGlobals "TooMany" = some (some (.ref Y_TooMany)))
    (ogNoOther : PySem.W.nsIn K mainGlobals "NoOther" = some (some (.ref Y_NoOther)))
    (ogNoPlace : PySem.W.nsIn K mainGlobals "NoPlace" = some (some (.ref Y_NoPlace)))
    (ogNoEnd : PySem.W.nsIn K mainGlobals "NoEnd" = some (some (.ref Y_NoEnd)))
    (ogNoOrder : PySem.W.nsIn K mainGlobals "NoOrder" = some (some (.ref Y_NoOrder)))
    (ogNoNumber : PySem.W.nsIn K mainGlobals "NoNumber" = some (some (.ref Y_NoNumber)))
    (ogNoPatience : PySem.W.nsIn K mainGlobals "NoPatience" = some (some (.ref Y_NoPatience)))
    (ogNobody : PySem.W.nsIn K mainGlobals "Nobody" = some (some (.ref Y_Nobody)))
    (ogNothing : PySem.W.nsIn K mainGlobals "Nothing" = some (some (.ref Y_Nothing)))
    (ogNoHistory : PySem.W.nsIn K mainGlobals "NoHistory" = some (some (.ref Y_NoHistory)))
    (ogNoForm : PySem.W.nsIn K mainGlobals "NoForm" = some (some (.ref Y_NoForm)))
    (ogNoneYet : PySem.W.nsIn K mainGlobals "NoneYet" = some (some (.ref Y_NoneYet)))
    (gE : PySem.W.nsIn K mainGlobals "LineError" = some (some (.ref XE)))
    (hn : PySem.W.specialIn K (.builtin "object.__class__") "__get__" = some (some (.builtin "getset_descriptor.__get__"))) (ht : PySem.W.takesIn K (.builtin "object.__class__") = some true)
    (e11 : PySem.W.exmOne K (.ref cCT) (.ref cCT) = some true)
    (e21 : PySem.W.exmOne K (.ref X1) (.ref cCT) = some false)
    (rdE : PySem.W.readsIn K XE (.type "type") = true)
    (sgE : PySem.W.specialIn K (.ref XE) "__getattribute__" = some (some (.builtin "type.__getattribute__")))
    (iniE : PySem.W.findCls K (.ref XE) (.type "type") "__init__" = some (.val (.builtin "ValueError.__init__")))
    {nmT qnT : Str} {NT : Addr} {bsT bmT : List Value} {snT : List Str} {subT : List Value} {abT : Bool} {colT : Option Bool} {ddT : Option Addr} {k0T k1T k2T k3T k5T : Option Value} (oxl : K.lookup cCT = some (excClassObj nmT qnT cCT NT bsT bmT true snT subT abT colT ddT k0T k1T k2T k3T k5T "ValueError.__new__"))
    (oxr : PySem.HandSPX.refsVE bmT = true)
    (saT : PySem.W.findIn K (.ref cCT) "__setattr__" = some (some (.builtin "object.__setattr__")))
    (nsT : PySem.W.findIn K (.ref cCT) "sign" = some none)
    (tTI : PySem.W.typeIn K (.ref fTI) = some (.type "function"))
    (gM : PySem.W.nsIn K mainGlobals "GREATEST" = some (some (.int GREAT tgM))) (gLo : PySem.W.nsIn K mainGlobals "LONGEST" = some (some (.int 8 tgLo))) (gPL : PySem.W.nsIn K mainGlobals "PART_LENGTH" = some (some (.int 50 tgPL))) (gPW : PySem.W.nsIn K mainGlobals "PART_WORTH" = some (some (.int FIFTY tgPW))) (gNV : PySem.W.nsIn K mainGlobals "NEVER" = some (some (.str "never" tgNV))) (gEV : PySem.W.nsIn K mainGlobals "EVER" = some (some (.str "ever" tgEV))) : AtLaw l w K mg fa h := by
  have e := hfa.symm.trans (PySem.W.mg_of X G.g aZ)
  cases e
  have FTI := fun_mk (st := sInitNT) lTI TIc kTI
  have FW := fun_mk (st := sWhole) lW Wc kW
  have FR := fun_mk (st := sRow) lR Rc kR
  have FA := fun_mk (st := sPat) lA Ac kA
  have FT := fun_mk (st := sTurns) lT Tc kT
  have FI := fun_mk (st := sPiece) lI Ic kI
  have FL := fun_mk (st := sPlan) lL Lc kL
  have FCK := fun_mk (st := sCheck) lCK CKc kCK
  have FIN := fun_mk (st := sIsN) lIN INc kIN
  have FNB := fun_mk (st := sBy) lNB NBc kNB
  have FIO := fun_mk (st := sIsO) lIO IOc kIO
  have FNO := fun_mk (st := sNor) lNO NOc kNO
  have FHF := fun_mk (st := sForm) lHF HFc kHF
  have FRD := fun_mk (st := sRead) lRD RDc kRD
  have FBG := fun_mk (st := sBag) lBG BGc kBG
  have FSR := fun_mk (st := sStir) lSR SRc kSR
  have FDR := fun_mk (st := sDraw) lDR DRc kDR
  have FPA := fun_mk (st := sPatB) lPA PAc kPA
  have FPN := fun_mk (st := sPlanB) lPN PNc kPN
  have FTX := fun_mk (st := sTxt) lTX TXc kTX
  have FCL := fun_mk (st := sClass) lCL CLc kCL
  have FLN := fun_mk (st := sLNum) lLN LNc kLN
  have FLF := fun_mk (st := sLForm) lLF LFc kLF
  have FLW := fun_mk (st := sLWo) lLW LWc kLW
  have FLP := fun_mk (st := sLPl) lLP LPc kLP
  have FLD := fun_mk (st := sLDue) lLD LDc kLD
  have FTO := fun_mk (st := sTold) lTO TOc kTO
  have FBN := fun_mk (st := sBent) lBN BNc kBN
  have FLL := fun_mk (st := sLong) lLL LLc kLL
  have FZ := fun_mk (st := sLaw) lZ Zc kZ
  have bTI := FTI.binds (ps := ["self", "sign"]) fun _ _ _ _ _ _ us hl => match us, hl with | [_, _], _ => rfl
  have bW := FW.binds (ps := ["thing"]) fun _ _ _ _ _ _ us hl => match us, hl with | [_], _ => rfl
  have bR := FR.binds (ps := ["thing"]) fun _ _ _ _ _ _ us hl => match us, hl with | [_], _ => rfl
  have bA := FA.binds (ps := ["thing"]) fun _ _ _ _ _ _ us hl => match us, hl with | [_], _ => rfl
  have bT := FT.binds (ps := ["thing"]) fun _ _ _ _ _ _ us hl => match us, hl with | [_], _ => rfl
  have bI := FI.binds (ps := ["thing"]) fun _ _ _ _ _ _ us hl => match us, hl with | [_], _ => rfl
  have bL := FL.binds (ps := ["thing"]) fun _ _ _ _ _ _ us hl => match us, hl with | [_], _ => rfl
  have bCK := FCK.binds (ps := ["thing"]) fun _ _ _ _ _ _ us hl => match us, hl with | [_], _ => rfl
  have bIN := FIN.binds (ps := ["word"]) fun _ _ _ _ _ _ us hl => match us, hl with | [_], _ => rfl
  have bNB := FNB.binds (ps := ["figures"]) fun _ _ _ _ _ _ us hl => match us, hl with | [_], _ => rfl
  have bIO := FIO.binds (ps := ["word", "none"]) fun _ _ _ _ _ _ us hl => match us, hl with | [_, _], _ => rfl
  have bNO := FNO.binds (ps := ["word", "none"]) fun _ _ _ _ _ _ us hl => match us, hl with | [_, _], _ => rfl
  have bHF := FHF.binds (ps := ["words"]) fun _ _ _ _ _ _ us hl => match us, hl with | [_], _ => rfl
  have bRD := FRD.binds (ps := ["text"]) fun _ _ _ _ _ _ us hl => match us, hl with | [_], _ => rfl
  have bBG := FBG.binds (ps := ["script"]) fun _ _ _ _ _ _ us hl => match us, hl with | [_], _ => rfl
  have bSR := FSR.binds (ps := ["number", "place"]) fun _ _ _ _ _ _ us hl => match us, hl with | [_, _], _ => rfl
  have bDR := FDR.binds (ps := ["bag", "many"]) fun _ _ _ _ _ _ us hl => match us, hl with | [_, _], _ => rfl
  have bPA := FPA.binds (ps := ["bag", "most"]) fun _ _ _ _ _ _ us hl => match us, hl with | [_, _], _ => rfl
  have bPN := FPN.binds (ps := ["bag", "most", "wide"]) fun _ _ _ _ _ _ us hl => match us, hl with | [_, _, _], _ => rfl
  have bTX := FTX.binds (ps := ["plan"]) fun _ _ _ _ _ _ us hl => match us, hl with | [_], _ => rfl
  have bCL := FCL.binds (ps := ["caught"]) fun _ _ _ _ _ _ us hl => match us, hl with | [_], _ => rfl
  have bLN := FLN.binds (ps := ["word"]) fun _ _ _ _ _ _ us hl => match us, hl with | [_], _ => rfl
  have bLF := FLF.binds (ps := ["text"]) fun _ _ _ _ _ _ us hl => match us, hl with | [_], _ => rfl
  have bLW := FLW.binds (ps := ["text"]) fun _ _ _ _ _ _ us hl => match us, hl with | [_], _ => rfl
  have bLP := FLP.binds (ps := ["pieces"]) fun _ _ _ _ _ _ us hl => match us, hl with | [_], _ => rfl
  have bLD := FLD.binds (ps := ["text"]) fun _ _ _ _ _ _ us hl => match us, hl with | [_], _ => rfl
  have bTO := FTO.binds (ps := ["text"]) fun _ _ _ _ _ _ us hl => match us, hl with | [_], _ => rfl
  have bBN := FBN.binds (ps := ["bag", "text"]) fun _ _ _ _ _ _ us hl => match us, hl with | [_, _], _ => rfl
  have bLL := FLL.binds (ps := ["bag"]) fun _ _ _ _ _ _ us hl => match us, hl with | [_], _ => rfl
  have bZ := FZ.binds (ps := ["script"]) fun _ _ _ _ _ _ us hl => match us, hl with | [_], _ => rfl
  have CT : FunC K "is_turns" "is_turns" sTurns fT _ cT := ⟨⟨ocT, odT, kVT, dcT, pmT, anT, ctT, slT, rfl, lT, Tc⟩, kT⟩
  have CL : FunC K "is_plan" "is_plan" sPlan fL _ cL := ⟨⟨ocL, odL, kVL, dcL, pmL, anL, ctL, slL, rfl, lL, Lc⟩, kL⟩
  have CHF : FunC K "has_form" "has_form" sForm fHF _ cHF := ⟨⟨ocHF, odHF, kVHF, dcHF, pmHF, anHF, ctHF, slHF, rfl, lHF, HFc⟩, kHF⟩
  have m := fun {n : Str} (e : PySem.W.nsIn K mainGlobals n = some none) => PySem.W.mg_none_of X G.g e
  have g := fun {n : Str} {v : Value} (e : PySem.W.nsIn K mainGlobals n = some (some v)) => PySem.W.mg_of X G.g e
  have T : Nm mg := ⟨m z_isinstance, m z_len, m z_all, m z_any, m z_sum, m z_int, m z_bool, m z_list, m z_tuple, ⟨_, g gM⟩, ⟨_, g gLo⟩⟩
  let GCl : ClsG K mg := ⟨cCT, g xg0, X1, g xg1, Y_NoPerson, g ogNoPerson, Y_NoMoment, g ogNoMoment, Y_TooMany, g ogTooMany, Y_NoOther, g ogNoOther, Y_NoPlace, g ogNoPlace, Y_NoEnd, g ogNoEnd, Y_NoOrder, g ogNoOrder, Y_NoNumber, g ogNoNumber, Y_NoPatience, g ogNoPatience, Y_Nobody, g ogNobody, Y_Nothing, g ogNothing, Y_NoHistory, g ogNoHistory, Y_NoForm, g ogNoForm, Y_NoneYet, g ogNoneYet, m z_ValueError⟩
  have XWNoText : ClsW K mg GCl GCl.aNoText "NoText" := ⟨true, false, ⟨⟨ea0, eb0, xb0, ed0, ec0, hn, ht, em0⟩, v70, u0_0, u1_0, u2_0, t0_0, t1_0⟩, by decide +kernel⟩
  have XMNoPlan : ExcM K mg "NoPlan" GCl.aNoPlan := ⟨g xg1, xx1, xk1, xb1, xt1⟩
  have XWNoPlan : ClsW K mg GCl GCl.aNoPlan "NoPlan" := ⟨false, true, ⟨⟨ea1, eb1, xb1, ed1, ec1, hn, ht, em1⟩, v71, u0_1, u1_1, u2_1, t0_1, t1_1⟩, by decide +kernel⟩
  have N4 : Nm4 mg := ⟨m z_str, m z_divmod, m z_reversed, ⟨_, g gPL⟩, ⟨_, g gPW⟩, ⟨_, g gNV⟩, ⟨_, g gEV⟩⟩
  have N5 : Nm5 mg := ⟨m z_range, m z_min, m z_repr⟩
  have N6 : Nm6 mg := ⟨m z_enumerate⟩
  have NTX : NTx K mg XE cCT := ⟨g gE, rdE, sgE, iniE, g xg0, ⟨⟨_, _, _, _, _, _, _, _, _, _, _, _, _, _, _, oxl, oxr⟩, saT, xb0, xt0, xk0⟩, nsT⟩
  have XCT : XfC K cCT := ⟨ea0, eb0, xb0, ed0⟩
  refine ⟨PySem.W.fnOf "law" "law" (defArgs sLaw) (defBody sLaw) (defScope sLaw) .none kVZ dcZ pmZ anZ cdZ ctZ, PT, PL, PHF, fun b hb => ?_, fun b hb => ?_, fun b hb => ?_, fun s v => .of_eq rfl, fun base _ _ hsys hB => ?_⟩
  · simp only [List.mem_cons, List.not_mem_nil, or_false] at hb
    rcases hb with rfl | rfl | rfl
    · exact tab_of G X rT (PySem.W.mg_of X G.g aT) lT rfl rfl qT
    · exact tab_of G X rL (PySem.W.mg_of X G.g aL) lL rfl rfl qL
    · exact tab_of G X rHF (PySem.W.mg_of X G.g aHF) lHF rfl rfl qHF
  · simp only [List.mem_cons, List.not_mem_nil, or_false] at hb
    rcases hb with rfl | rfl | rfl
    · exact ⟨_, qT⟩
    · exact ⟨_, qL⟩
    · exact ⟨_, qHF⟩
  · simp only [List.mem_cons, List.not_mem_nil, or_false] at hb
    rcases hb with rfl | rfl | rfl
    · exact Option.isNone_iff_eq_none.mp nT
    · exact Option.isNone_iff_eq_none.mp nL
    · exact Option.isNone_iff_eq_none.mp nHF
  · have XB : K.In base := ‹K.In base›
    have TBT : GxR.TabB base mg cT PT := ⟨PySem.W.codeHd_of_K XB qT, (hB PT (by simp)).1, (hB PT (by simp)).2⟩
    have TBL : GxR.TabB base mg cL PL := ⟨PySem.W.codeHd_of_K XB qL, (hB PL (by simp)).1, (hB PL (by simp)).2⟩
    have TBHF : GxR.TabB base mg cHF PHF := ⟨PySem.W.codeHd_of_K XB qHF, (hB PHF (by simp)).1, (hB PHF (by simp)).2⟩
    have KW : Cal l.prog w K mg base 1 "is_whole" ["thing"] (spOne isWhole) := ⟨fW, _, g aW, kW, bW, ok_whole FW T⟩
    have KR : Cal l.prog w K mg base 1 "is_row" ["thing"] (spOne isRow) := ⟨fR, _, g aR, kR, bR, ok_row FR T⟩
    have KA : Cal l.prog w K mg base 2 "is_patience" ["thing"] (spOne isPatience) := ⟨fA, _, g aA, kA, bA, ok_pat FA T KW⟩
    have KT : Cal l.prog w K mg base 4 "is_turns" ["thing"] (spTab PT PL isTurns) := ⟨fT, _, g aT, kT, bT, ok_turns CT T TBT KR KA⟩
    have KI : Cal l.prog w K mg base 5 "is_piece" ["thing"] (spTab PT PL isPiece) := ⟨fI, _, g aI, kI, bI, ok_piece FI T KW KR KT⟩
    have KP : Cal l.prog w K mg base 7 "is_plan" ["thing"] (spTab PT PL isPlan) := ⟨fL, _, g aL, kL, bL, ok_plan CL T TBL KR KI⟩
    have BCK := FnOk.both (ok_chk (P := l.prog) (w := w) (base := base) FCK KP) (bad_chk (P := l.prog) (w := w) (base := base) FCK XMNoPlan KP)
    have KIN : Cal l.prog w K mg base 1 "is_number" ["word"] (spIsN) := ⟨fIN, _, g aIN, kIN, bIN, ok_isN FIN⟩
    have KNB : Cal l.prog w K mg base 1 "number_by" ["figures"] (spBy) := ⟨fNB, _, g aNB, kNB, bNB, ok_by FNB T N4 N5⟩
    have KIO : Cal l.prog w K mg base 2 "is_number_or" ["word", "none"] (spIsO) := ⟨fIO, _, g aIO, kIO, bIO, ok_isO FIO KIN⟩
    have KNO : Cal l.prog w K mg base 2 "number_or" ["word", "none"] (spNor) := ⟨fNO, _, g aNO, kNO, bNO, ok_nor FNO KNB⟩
    have KHF : Cal l.prog w K mg base 4 "has_form" ["words"] (spForm PHF) := ⟨fHF, _, g aHF, kHF, bHF, ok_form CHF T N4 TBHF KIO⟩
    have BRD := ok_readN (P := l.prog) (w := w) (base := base) FRD T N4 N6 KHF KNO (g aCK) kCK BCK bCK NTX aTI tTI (ok_initNT FTI NTX) bTI
    have KCL : CalP l.prog w K mg base 1 "_law_class" ["caught"] (spClass K mg GCl) := ⟨fCL, _, g aCL, kCL, bCL, ok_class FCL T GCl⟩
    have KTO : Cal l.prog w K mg base 10 "_law_told" ["text"] (spTold PT PL PHF) := ⟨fTO, _, g aTO, kTO, bTO, ok_told FTO GCl (g gE) e11 e21 v81 XWNoText XWNoPlan XCT nsT KCL (g aRD) kRD BRD bRD⟩
    have KLN : Cal l.prog w K mg base 1 "_law_is_number" ["word"] (spIsN) := ⟨fLN, _, g aLN, kLN, bLN, ok_lnum FLN⟩
    have KLF : Cal l.prog w K mg base 2 "_law_form" ["text"] (spLForm) := ⟨fLF, _, g aLF, kLF, bLF, ok_lform FLF KLN⟩
    have KLW : Cal l.prog w K mg base 1 "_law_worth" ["text"] (spLWo) := ⟨fLW, _, g aLW, kLW, bLW, ok_lworth FLW T hsys.2⟩
    have KLP : Cal l.prog w K mg base 2 "_law_is_plan" ["pieces"] (spLPl) := ⟨fLP, _, g aLP, kLP, bLP, ok_lplan FLP T hsys.2 KLW⟩
    have KLD : Cal l.prog w K mg base 3 "_law_due" ["text"] (spLDue) := ⟨fLD, _, g aLD, kLD, bLD, ok_due FLD T N5 KLF KLP⟩
    have KBG : Cal l.prog w K mg base 1 "_law_bag" ["script"] (spBag K) := ⟨fBG, _, g aBG, kBG, bBG, ok_bag FBG T.list⟩
    have KSR : Cal l.prog w K mg base 1 "_law_stir" ["number", "place"] (spStir) := ⟨fSR, _, g aSR, kSR, bSR, ok_stir FSR⟩
    have KDR : ∀ r, Cal l.prog w K mg base 2 "_law_draw" ["bag", "many"] (spDraw r) := fun r => ⟨fDR, _, g aDR, kDR, bDR, ok_draw FDR T.len KSR⟩
    have KDE : Cal l.prog w K mg base 2 "_law_draw" ["bag", "many"] (spE spDraw) := ⟨fDR, _, g aDR, kDR, bDR, fnE fun r => ok_draw FDR T.len KSR⟩
    have KPA : ∀ r, Cal l.prog w K mg base 3 "_law_patience" ["bag", "most"] (spPatB r) := fun r => ⟨fPA, _, g aPA, kPA, bPA, ok_patB FPA (KDR r)⟩
    have KPN : Cal l.prog w K mg base 4 "_law_plan" ["bag", "most", "wide"] (spE spPlanB) := ⟨fPN, _, g aPN, kPN, bPN, fnE fun r => ok_planB FPN N5 (KDR r) (KPA r)⟩
    have KTX : Cal l.prog w K mg base 1 "_law_plan_text" ["plan"] (spTxt) := ⟨fTX, _, g aTX, kTX, bTX, ok_txt FTX N4⟩
    have KBN : Cal l.prog w K mg base 3 "_law_bent" ["bag", "text"] (spE spBent) := ⟨fBN, _, g aBN, kBN, bBN, fnE fun r => ok_bent FBN T (KDR r)⟩
    have KLL : CalG l.prog w K mg base 11 "_law_long_right" ["bag"] (spE (spLong PT PL PHF)) := ⟨fLL, _, g aLL, kLL, bLL, fnGE fun r => ok_long FLL T N5 hsys.1 (KDR r) KTO KLD⟩
    exact ok_law FZ T N5 hsys.1 NTX XCT aTI tTI (ok_initNT FTI NTX) bTI KBG KDE KPN KTX KBN KTO KLD KLL
end CL
open PySem PySem.W PyProof.Rows
set_option maxRecDepth 100000 in
set_option maxHeartbeats 0 in
theorem PySem.Challenge.cw_comersline_k46_texts_of_no_plan_holds : PySem.Challenge.rw_comersline_k46_texts_of_no_plan.Holds := by
  w_on; o_law; k_head; (case hw => w_witness2)
  k_fill
  refine CL.walk (l := PySem.Challenge.rw_comersline_k46_texts_of_no_plan) rfl rfl (by decide +kernel) (fun w h Y => PySem.W.kIn_of Y) ?F
  case F =>
    intro w mg mb mean lo fa h KX G hmg
    refine' CL.all_mk KX G hmg ?aTI ?lTI ?TIc ?kTI ?iTI ?aW ?lW ?Wc ?kW ?aR ?lR ?Rc ?kR ?aA ?lA ?Ac ?kA ?aT ?lT ?Tc ?kT ?aI ?lI ?Ic ?kI ?aL ?lL ?Lc ?kL ?aCK ?lCK ?CKc ?kCK ?aIN ?lIN ?INc ?kIN ?aNB ?lNB ?NBc ?kNB ?aIO ?lIO ?IOc ?kIO ?aNO ?lNO ?NOc ?kNO ?aHF ?lHF ?HFc ?kHF ?aRD ?lRD ?RDc ?kRD ?aBG ?lBG ?BGc ?kBG ?aSR ?lSR ?SRc ?kSR ?aDR ?lDR ?DRc ?kDR ?aPA ?lPA ?PAc ?kPA ?aPN ?lPN ?PNc ?kPN ?aTX ?lTX ?TXc ?kTX ?aCL ?lCL ?CLc ?kCL ?aLN ?lLN ?LNc ?kLN ?aLF ?lLF ?LFc ?kLF ?aLW ?lLW ?LWc ?kLW ?aLP ?lLP ?LPc ?kLP ?aLD ?lLD ?LDc ?kLD ?aTO ?lTO ?TOc ?kTO ?aBN ?lBN ?BNc ?kBN ?aLL ?lLL ?LLc ?kLL ?aZ ?lZ ?Zc ?kZ ?z_isinstance ?z_len ?z_all ?z_any ?z_sum ?z_int ?z_bool ?z_list ?z_tuple ?z_str ?z_divmod ?z_reversed ?z_range ?z_min ?z_repr ?z_enumerate ?z_ValueError ?mT ?pT ?qT ?nT ?rT ?mL ?pL ?qL ?nL ?rL ?mHF ?pHF ?qHF ?nHF ?rHF ?xg0 ?xk0 ?xb0 ?xt0 ?ea0 ?eb0 ?ed0 ?ec0 ?em0 ?t0_0 ?t1_0 ?u0_0 ?u1_0 ?u2_0 ?v70 ?v80 ?xg1 ?xx1 ?xk1 ?xb1 ?xt1 ?ea1 ?eb1 ?ed1 ?ec1 ?em1 ?t0_1 ?t1_1 ?u0_1 ?u1_1 ?u2_1 ?v71 ?v81 ?ogNoPerson ?ogNoMoment ?ogTooMany ?ogNoOther ?ogNoPlace ?ogNoEnd ?ogNoOrder ?ogNoNumber ?ogNoPatience ?ogNobody ?ogNothing ?ogNoHistory ?ogNoForm ?ogNoneYet ?gE ?hn ?ht ?e11 ?e21 ?rdE ?sgE ?iniE ?oxl ?oxr ?saT ?nsT ?tTI ?gM ?gLo ?gPL ?gPW ?gNV ?gEV
    (case xg0 => k_is)
    (case xg1 => k_is)
    (case ogNoPerson => k_is)
    (case ogNoMoment => k_is)
    (case ogTooMany => k_is)
    (case ogNoOther => k_is)
    (case ogNoPlace => k_is)
    (case ogNoEnd => k_is)
    (case ogNoOrder => k_is)
    (case ogNoNumber => k_is)
    (case ogNoPatience => k_is)
    (case ogNobody => k_is)
    (case ogNothing => k_is)
    (case ogNoHistory => k_is)
    (case ogNoForm => k_is)
    (case ogNoneYet => k_is)
    (case gE => k_is)
    (case aTI => k_is)
    (case lTI => k_is)
    (case TIc => k_is)
    (case kTI => k_is)
    (case iTI => k_is)
    (case aW => k_is)
    (case lW => k_is)
    (case Wc => k_is)
    (case kW => k_is)
    (case aR => k_is)
    (case lR => k_is)
    (case Rc => k_is)
    (case kR => k_is)
    (case aA => k_is)
    (case lA => k_is)
    (case Ac => k_is)
    (case kA => k_is)
    (case aT => k_is)
    (case lT => k_is)
    (case Tc => k_is)
    (case kT => k_is)
    (case aI => k_is)
    (case lI => k_is)
    (case Ic => k_is)
    (case kI => k_is)
    (case aL => k_is)
    (case lL => k_is)
    (case Lc => k_is)
    (case kL => k_is)
    (case aCK => k_is)
    (case lCK => k_is)
    (case CKc => k_is)
    (case kCK => k_is)
    (case aIN => k_is)
    (case lIN => k_is)
    (case INc => k_is)
    (case kIN => k_is)
    (case aNB => k_is)
    (case lNB => k_is)
    (case NBc => k_is)
    (case kNB => k_is)
    (case aIO => k_is)
    (case lIO => k_is)
    (case IOc => k_is)
    (case kIO => k_is)
    (case aNO => k_is)
    (case lNO => k_is)
    (case NOc => k_is)
    (case kNO => k_is)
    (case aHF => k_is)
    (case lHF => k_is)
    (case HFc => k_is)
    (case kHF => k_is)
    (case aRD => k_is)
    (case lRD => k_is)
    (case RDc => k_is)
    (case kRD => k_is)
    (case aBG => k_is)
    (case lBG => k_is)
    (case BGc => k_is)
    (case kBG => k_is)
    (case aSR => k_is)
    (case lSR => k_is)
    (case SRc => k_is)
    (case kSR => k_is)
    (case aDR => k_is)
    (case lDR => k_is)
    (case DRc => k_is)
    (case kDR => k_is)
    (case aPA => k_is)
    (case lPA => k_is)
    (case PAc => k_is)
    (case kPA => k_is)
    (case aPN => k_is)
    (case lPN => k_is)
    (case PNc => k_is)
    (case kPN => k_is)
    (case aTX => k_is)
    (case lTX => k_is)
    (case TXc => k_is)
    (case kTX => k_is)
    (case aCL => k_is)
    (case lCL => k_is)
    (case CLc => k_is)
    (case kCL => k_is)
    (case aLN => k_is)
    (case lLN => k_is)
    (case LNc => k_is)
    (case kLN => k_is)
    (case aLF => k_is)
    (case lLF => k_is)
    (case LFc => k_is)
    (case kLF => k_is)
    (case aLW => k_is)
    (case lLW => k_is)
    (case LWc => k_is)
    (case kLW => k_is)
    (case aLP => k_is)
    (case lLP => k_is)
    (case LPc => k_is)
    (case kLP => k_is)
    (case aLD => k_is)
    (case lLD => k_is)
    (case LDc => k_is)
    (case kLD => k_is)
    (case aTO => k_is)
    (case lTO => k_is)
    (case TOc => k_is)
    (case kTO => k_is)
    (case aBN => k_is)
    (case lBN => k_is)
    (case BNc => k_is)
    (case kBN => k_is)
    (case aLL => k_is)
    (case lLL => k_is)
    (case LLc => k_is)
    (case kLL => k_is)
    (case aZ => k_is)
    (case lZ => k_is)
    (case Zc => k_is)
    (case kZ => k_is)
    (case z_isinstance => k_is)
    (case z_len => k_is)
    (case z_all => k_is)
    (case z_any => k_is)
    (case z_sum => k_is)
    (case z_int => k_is)
    (case z_bool => k_is)
    (case z_list => k_is)
    (case z_tuple => k_is)
    (case z_str => k_is)
    (case z_divmod => k_is)
    (case z_reversed => k_is)
    (case z_range => k_is)
    (case z_min => k_is)
    (case z_repr => k_is)
    (case z_enumerate => k_is)
    (case z_ValueError => k_is)
    (case mT => k_is)
    (case pT => rfl)
    (case qT => kernel_rfl)
    (case nT => kernel_rfl)
    (case rT => kernel_rfl)
    (case mL => k_is)
    (case pL => rfl)
    (case qL => kernel_rfl)
    (case nL => kernel_rfl)
    (case rL => kernel_rfl)
    (case mHF => k_is)
    (case pHF => rfl)
    (case qHF => kernel_rfl)
    (case nHF => kernel_rfl)
    (case rHF => kernel_rfl)
    (case xk0 => k_is)
    (case xb0 => k_is)
    (case xt0 => k_is)
    (case ea0 => k_is)
    (case eb0 => k_is)
    (case ed0 => k_is)
    (case ec0 => k_is)
    (case em0 => k_is)
    (case t0_0 => first | rfl | kernel_rfl)
    (case t1_0 => first | rfl | kernel_rfl)
    (case u0_0 => kernel_rfl)
    (case u1_0 => kernel_rfl)
    (case u2_0 => kernel_rfl)
    (case v70 => kernel_rfl)
    (case v80 => kernel_rfl)
    (case xx1 => k_exc)
    (case xk1 => k_is)
    (case xb1 => k_is)
    (case xt1 => k_is)
    (case ea1 => k_is)
    (case eb1 => k_is)
    (case ed1 => k_is)
    (case ec1 => k_is)
    (case em1 => k_is)
    (case t0_1 => first | rfl | kernel_rfl)
    (case t1_1 => first | rfl | kernel_rfl)
    (case u0_1 => kernel_rfl)
    (case u1_1 => kernel_rfl)
    (case u2_1 => kernel_rfl)
    (case v71 => kernel_rfl)
    (case v81 => kernel_rfl)
    (case hn => k_is)
    (case ht => k_is)
    (case e11 => kernel_rfl)
    (case e21 => kernel_rfl)
    (case rdE => first | k_is | kernel_rfl)
    (case sgE => first | k_is | kernel_rfl)
    (case iniE => first | k_is | kernel_rfl)
    (case oxl => k_is)
    (case oxr => first | rfl | decide +kernel)
    (case saT => k_is)
    (case nsT => k_is)
    (case tTI => first | k_is | kernel_rfl)
    (case gM => k_is)
    (case gLo => k_is)
    (case gPL => k_is)
    (case gPW => k_is)
    (case gNV => k_is)
    (case gEV => k_is)
