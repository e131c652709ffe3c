import PyProof.Rows.All
import Wide.All
import OpenK.AllK
import Wide.FinOn
import HandS.ForMost
import HandS.ForExc
import HandS.AnyAll
import HandS.GenBody
import HandS.IsInst
import HandS.TupAny
import HandS.Wide
import HandS.Codes
import HandS.Conv
import HandS.Text
import HandS.More
import HandS.Walk
import HandS.SortInts
import KE.KDictCopyH
import HandS.Style
import HandS.Sort
import HandS.SortKw
import HandS.EndTab
import HandS.NestedK
import PySem.Challenge.RW_comersline_k38_whole_great_orders
set_option Elab.async false
set_option linter.all false
set_option maxRecDepth 100000
set_option maxHeartbeats 1000000
namespace GE
open PySem PySem.Spec PyProof.Rows L2 GenW
open Sem (wp)

/-- what a consumer holds between two turns of a generator -/
structure Con (α : Type) where
  fp : List Addr
  at_ : α → Heap → Prop
structure ConOk {α : Type} (C : Con α) : Prop where
  obj : ∀ a h, C.at_ a h → ∀ b ∈ C.fp, ∃ o, h.get? b = some o ∧ ∀ v, o.data ≠ .cell v
  keep : ∀ a h h', C.at_ a h → (∀ b ∈ C.fp, ∀ o, h.get? b = some o → h'.get? b = some o) → C.at_ a h'
  inj : ∀ a b h, C.at_ a h → C.at_ b h → a = b
def conU : Con Unit := ⟨[], fun _ _ => True⟩
theorem conU_ok : ConOk conU := ⟨(fun _ _ _ b hb => nomatch hb), (fun _ _ _ _ _ => trivial), (fun _ _ _ _ _ => rfl)⟩

abbrev nones (n : Nat) : L2.St := List.replicate n none
theorem nones_some {n i : Nat} {v : V} (h : (nones n)[i]? = some (some v)) : False := by
  rw [List.getElem?_replicate] at h
  split at h <;> cases h

section
variable {α : Type}
def GI (Y : Cx) (C : Con α) (fpI : List Addr) (tn : Nat → Heap → Prop) (a : α) (i : Nat) (H : Hp) (s : Shared) : Prop :=
  Inv Y (pinsAt C.fp s.heap) (nones Y.N.length) H s ∧ C.at_ a s.heap ∧ tn i s.heap ∧ ∀ b ∈ fpI, H b = none
def GP (Y : Cx) (C : Con α) (fpI : List Addr) (tn : Nat → Heap → Prop) (Out : α → V → Hp → (α → Hp → Prop) → Prop) : Protocol := fun _ s₀ v s kap =>
  ∃ a i H y Nx, RelV y v ∧ GI Y C fpI tn a i H s ∧ Out a y H Nx ∧ (∀ b ∈ C.fp, ∀ o, s₀.heap.get? b = some o → s.heap.get? b = some o) ∧ ∀ a' s'', GI Y C fpI tn a' i H s'' → Nx a' H → kap (.send .none) s''
def GF (Y : Cx) (C : Con α) (Fin : α → Hp → Prop) : Nat → Shared → Shared → Prop := fun _ s₀ s₁ =>
  ∃ a H, Inv Y (pinsAt C.fp s₁.heap) (nones Y.N.length) H s₁ ∧ C.at_ a s₁.heap ∧ (∀ b ∈ C.fp, ∀ o, s₀.heap.get? b = some o → s₁.heap.get? b = some o) ∧ Fin a H
abbrev GRr (Y : Cx) (C : Con α) (Fin : α → Hp → Prop) : GenEnd := fun n s₀ r s₁ => r = .ok .next ∧ GF Y C Fin n s₀ s₁
def TurnOf (J : It) (n0 : Nat) (g : TG) (tt : TT) (te : TE) (Out : α → V → Hp → (α → Hp → Prop) → Prop) (Fin : α → Hp → Prop) (W : α → Nat → Nat → Hp → Prop) : Prop :=
  ∀ a i m H, W a i m H → (J.stop i H ∧ Fin a H) ∨ (J.go i H ∧ ∃ Nx : α → Hp → Prop, (∀ a' H', Nx a' H' → ∃ m', m' < m ∧ W a' (i + 1) m' H') ∧
    ∀ x H', J.yld i H x H' → g x (nones n0) H' fun σ2 H2 => tt σ2 H2 fun b H3 => if b = true then te σ2 H3 fun y H4 => Out a y H4 Nx else Nx a H3)

def GoOn (M : Model) (A : Around) (R : GenEnd) (P : Protocol) (gi : α → Shared → Prop) (nx : α → Prop) (gs1 : GenState) : Nat → Prop
  | 0 => ∀ a' s'', gi a' s'' → nx a' → False
  | n1 + 1 => ∀ a' s'', gi a' s'' → nx a' → gs1.Goes M A R P n1 (.send .none) s''
theorem over_loopG {A : Around} {elt tg iter : Expr} {ifs : List Expr} {scope : Scope} {pos : Pos} {it acc : Value} {env : Env} :
    A.over (.compLoop (.GeneratorExp elt [⟨tg, iter, ifs, 0⟩] scope pos) 0 it acc env) [] = A.deeper env := by
  first
    | rfl
    | (obtain ⟨hd, d, fr, gs, u⟩ := A; simp [Around.over, Around.deeper, marksOver, frameCount, unitsOf, envsOf, guardsOf, pushEnvs, pushGuards, Code.envs, Code.env?, Code.isFrame, Code.guards, Code.isGuard, Code.weight, Code.frames, Code.isCreation, Code.isCaller, Code.cUnits])
theorem over_startG {A : Around} {elt tg iter : Expr} {ifs : List Expr} {scope : Scope} {pos : Pos} {it acc : Value} {env : Env} :
    A.over (.compStart (.GeneratorExp elt [⟨tg, iter, ifs, 0⟩] scope pos) 0 it acc env) [] = A.deeper env := by
  first
    | rfl
    | (obtain ⟨hd, d, fr, gs, u⟩ := A; simp [Around.over, Around.deeper, marksOver, frameCount, unitsOf, envsOf, guardsOf, pushEnvs, pushGuards, Code.envs, Code.env?, Code.isFrame, Code.guards, Code.isGuard, Code.weight, Code.frames, Code.isCreation, Code.isCaller, Code.cUnits])

theorem Inv.gensG {X : Cx} {pins : List (Addr × Obj)} {σ : L2.St} {H : Hp} {s : Shared} (I : Inv X pins σ H s) {G : Array GenState} (h : AllBare G) : Inv X pins σ H { s with gens := G } :=
  ⟨I.ok, I.os, h, I.base, I.loc, I.cell, I.free, I.freeC, I.pin, I.hok, I.len⟩
theorem bare_setGen {s : Shared} {g : Nat} {x : GenState} (h : AllBare s.gens) (hx : x.bare = true) : AllBare (s.setGen g x).gens := by
  intro y hy
  show y.bare = true
  have hy : y ∈ s.gens.setIfInBounds g x := hy
  rcases Array.mem_or_eq_of_mem_setIfInBounds hy with h1 | h1
  · exact h y h1
  · rw [h1]; exact hx

section
variable {Y : Cx} {C : Con α} {tg elt iter : Expr} {ifs : List Expr} {scope : Scope} {pos : Pos} {J : It} {fpI : List Addr} {it : Addr} {tn : Nat → Heap → Prop} {g : TG} {tt : TT} {te : TE}
  {Out : α → V → Hp → (α → Hp → Prop) → Prop} {Fin : α → Hp → Prop} {W : α → Nat → Nat → Hp → Prop} {A : Around}
/-- the loop of a generator expression -/
theorem seg_loop (CO : ConOk C) (hcalm : Y.calm = true) (T : Turn Y.prog Y.w Y.K tg J fpI it tn) (hg : PG Y tg g) (ht : PTs Y ifs tt) (he : PE Y elt te) (hA : A.deeper Y.env = Y.A)
    (hex : ∀ b ∈ fpI, b ∈ Y.ex) (hdis : ∀ b ∈ C.fp, b ∉ fpI) (hpn : ∀ p ∈ Y.pn, p.1 ∉ fpI) (hxe : Y.xe = fun _ _ => False) (hco : Y.env.scope.isCoroutine = false) (turn : TurnOf J Y.N.length g tt te Out Fin W) :
    ∀ (m : Nat) (a : α) (i n : Nat) (H : Hp) (s₀ s : Shared), m < n → W a i m H → GI Y C fpI tn a i H s → (∀ b ∈ C.fp, ∀ o, s₀.heap.get? b = some o → s.heap.get? b = some o) →
      Seg (model Y.prog Y.w) A (GRr Y C Fin) (GP Y C fpI tn Out) n s₀ (.compLoop (.GeneratorExp elt [⟨tg, iter, ifs, 0⟩] scope pos) 0 (.ref it) .none Y.env)
        ((model Y.prog Y.w).den (.compLoop (.GeneratorExp elt [⟨tg, iter, ifs, 0⟩] scope pos) 0 (.ref it) .none Y.env)) [] s := by
  have ov : A.over (.compLoop (.GeneratorExp elt [⟨tg, iter, ifs, 0⟩] scope pos) 0 (.ref it) .none Y.env) [] = Y.A := over_loopG.trans hA
  have stat : ∀ {pins : List (Addr × Obj)} {σ' : L2.St} {H' : Hp} {s' : Shared}, Inv Y pins σ' H' s' → (∀ p ∈ pins, p.1 ∉ fpI) → (∀ b ∈ fpI, H' b = none) → ∀ b ∈ fpI, FpOk Y pins H' b := fun {pins σ' H' s'} I' hp hn b hb =>
    ⟨hn b hb, (I'.ok.exf b (hex b hb)).1, I'.ok.exfs b (hex b hb), .inl (hex b hb), fun x c e => (I'.ok.exf b (hex b hb)).2 x c e, fun p hp' z => (List.mem_append.mp hp').elim (fun q => hpn p q (z ▸ hb)) fun q => hp p q (z ▸ hb)⟩
  have pinN : ∀ h : Heap, ∀ p ∈ pinsAt C.fp h, p.1 ∉ fpI := fun h p hp => hdis p.1 (of_pinsAt hp).1
  intro m
  induction m using Nat.strongRecOn with
  | ind m ih =>
    intro a i n H s₀ s hmn hw hGI since
    obtain ⟨I, hat, st, hn0⟩ := hGI
    show Seg _ A _ _ n s₀ _ ((compTurn (.GeneratorExp elt [⟨tg, iter, ifs, 0⟩] scope pos) 0 (.ref it) .none Y.env).onRaise (leaving Y.env)) [] s
    rw [compTurn_gen, Sem.onRaise_eq_wrap]
    refine seg_bind_wrap (wpAny_standAt ?_)
    have sf := stat I (pinN s.heap) hn0
    rcases turn a i m H hw with ⟨stop, fin⟩ | ⟨go, Nx, hNx, step⟩
    · refine seg_bind_wrap ?_
      rw [ov]
      refine thnF (T.done Y rfl rfl rfl hcalm i _ s _ H (fun _ _ => False) I sf st stop) fun r s1 ⟨hr, I1⟩ => ?_
      subst hr
      have hk : ∀ b ∈ C.fp, ∀ o, s.heap.get? b = some o → s1.heap.get? b = some o := fun b hb o e => (I1.pin (b, o) (List.mem_append_right _ (mem_pinsAt hb e))).1
      refine seg_end (.ok .next) ⟨rfl, a, H, I1.pins_of fun p hp => ?_, CO.keep _ _ _ hat hk, fun b hb o e => hk b hb o (since b hb o e), fin⟩
      obtain ⟨hb, e⟩ := of_pinsAt hp
      obtain ⟨o, e2, _⟩ := CO.obj _ _ hat p.1 hb
      have e3 := hk p.1 hb o e2
      rw [e] at e3
      cases e3
      exact I1.pin (p.1, p.2) (List.mem_append_right _ (mem_pinsAt hb e2))
    · refine seg_bind_wrap ?_
      rw [ov]
      refine thnF (T.item Y rfl rfl rfl hcalm i _ s _ H (fun _ _ => False) I sf st go) fun r s1 ⟨u, hr, h1⟩ => ?_
      subst hr
      refine seg_bind_wrap ?_
      rw [ov]
      refine thnF h1 fun _ s2 ⟨x, H2, I2, r2, y2, st2, n2⟩ => ?_
      have I2' := I2.pinned (stat I2 (pinN s.heap) n2) (T.obj _ _ st2)
      refine seg_bind_wrap ?_
      rw [ov]
      have xf : ∀ {β : Type} {t : Sem β} {P P' : β → Shared → Prop} {E' : Value → Shared → Prop} {z : Shared}, wpAny (model Y.prog Y.w) Y.A t P Y.xe z → (∀ a s, P a s → P' a s) → wpAny (model Y.prog Y.w) Y.A t P' E' z := fun {β t P P' E' z} q hq => by
        rw [hxe] at q
        exact thnF q hq
      refine xf (hg.run _ s2 _ H2 x u _ I2' r2 (step x H2 y2)) fun _ s3 ⟨σ3, H3, I3, q3⟩ => ?_
      refine seg_bind_wrap ?_
      rw [ov]
      refine xf (ht.run _ s3 σ3 H3 _ I3 q3) fun ok s4 ⟨H4, I4, q4⟩ => ?_
      -- what stands at a turn's end
      have fin : ∀ {s' : Shared} {H' : Hp} {σ' : L2.St}, Inv Y (pinsAt C.fp s.heap ++ pinsAt fpI s2.heap) σ' H' s' →
          GI Y C fpI tn a (i + 1) H' s' ∧ ∀ b ∈ C.fp, ∀ o, s₀.heap.get? b = some o → s'.heap.get? b = some o := fun {s' H' σ'} I' => by
        have hk : ∀ b ∈ C.fp, ∀ o, s.heap.get? b = some o → s'.heap.get? b = some o := fun b hb o e => (I'.pin (b, o) (List.mem_append_right _ (List.mem_append_left _ (mem_pinsAt hb e)))).1
        have pin' : ∀ b ∈ fpI, ∀ o, s2.heap.get? b = some o → s'.heap.get? b = some o ∧ H' b = none := fun b hb o e =>
          let z := I'.pin (b, o) (List.mem_append_right _ (List.mem_append_right _ (mem_pinsAt hb e)))
          ⟨z.1, z.2.1⟩
        have I1 : Inv Y (pinsAt C.fp s'.heap) σ' H' s' := I'.pins_of fun p hp => by
          obtain ⟨hb, e⟩ := of_pinsAt hp
          obtain ⟨o, e2, _⟩ := CO.obj _ _ hat p.1 hb
          have e3 := hk p.1 hb o e2
          rw [e] at e3
          cases e3
          exact I'.pin (p.1, p.2) (List.mem_append_right _ (List.mem_append_left _ (mem_pinsAt hb e2)))
        refine ⟨⟨I1.weak (by rw [I1.len, List.length_replicate]) fun j v e => (nones_some e).elim, CO.keep _ _ _ hat hk, T.keep _ _ _ st2 fun b hb o e => (pin' b hb o e).1, fun b hb => ?_⟩, fun b hb o e => hk b hb o (since b hb o e)⟩
        obtain ⟨o, e, _⟩ := T.obj _ _ st2 b hb
        exact (pin' b hb o e).2
      cases ok with
      | false =>
        simp only [Bool.false_eq_true, if_false] at q4 ⊢
        obtain ⟨f1, f2⟩ := fin I4
        obtain ⟨m', hm', w'⟩ := hNx a H4 q4
        exact seg_again rfl (ih m' hm' a (i + 1) n H4 s₀ s4 (by omega) w' f1 f2)
      | true =>
        simp only [if_true] at q4 ⊢
        obtain ⟨n', rfl⟩ : ∃ n', n = n' + 1 := ⟨n - 1, by omega⟩
        have hy : ∀ v, yieldOut Y.env v = yieldValue v := fun v => by simp only [yieldOut, hco, Bool.false_eq_true, if_false]
        simp only [hy]
        rw [Sem.bind_eq_wrap', Sem.bind_eq_wrap', Sem.wrap_wrap, Sem.wrap_wrap]
        refine seg_wrap ?_
        rw [ov]
        refine xf (he.run _ s4 σ3 H4 _ I4 q4) fun y s5 ⟨yv, H5, I5, r5, o5⟩ => ?_
        obtain ⟨f1, f2⟩ := fin I5
        refine seg_at (seg_yield rfl rfl rfl ⟨a, i + 1, H5, yv, Nx, r5, f1, o5, f2, fun a' s'' hGI' hN' => ?_⟩)
        obtain ⟨m', hm', w'⟩ := hNx a' H5 hN'
        exact seg_again rfl (ih m' hm' a' (i + 1) n' H5 s'' s'' (by omega) w' hGI' fun _ _ _ e => e)

/-- .. and its start -/
theorem seg_start (CO : ConOk C) (hcalm : Y.calm = true) (T : Turn Y.prog Y.w Y.K tg J fpI it tn) (hg : PG Y tg g) (ht : PTs Y ifs tt) (he : PE Y elt te) (hA : A.deeper Y.env = Y.A)
    (hex : ∀ b ∈ fpI, b ∈ Y.ex) (hdis : ∀ b ∈ C.fp, b ∉ fpI) (hpn : ∀ p ∈ Y.pn, p.1 ∉ fpI) (hxe : Y.xe = fun _ _ => False) (hco : Y.env.scope.isCoroutine = false) (turn : TurnOf J Y.N.length g tt te Out Fin W)
    (m : Nat) (a : α) (n : Nat) (H : Hp) (s : Shared) (hm : m < n) (hw : W a 0 m H) (hGI : GI Y C fpI tn a 0 H s) :
      Seg (model Y.prog Y.w) A (GRr Y C Fin) (GP Y C fpI tn Out) n s (.compStart (.GeneratorExp elt [⟨tg, iter, ifs, 0⟩] scope pos) 0 (.ref it) .none Y.env)
        ((model Y.prog Y.w).den (.compStart (.GeneratorExp elt [⟨tg, iter, ifs, 0⟩] scope pos) 0 (.ref it) .none Y.env)) [] s := by
  have loop := seg_loop (iter := iter) (scope := scope) (pos := pos) CO hcalm T hg ht he hA hex hdis hpn hxe hco turn m a 0 n H s s hm hw hGI fun _ _ _ e => e
  show Seg _ A _ _ _ s _ ((compStart (.GeneratorExp elt [⟨tg, iter, ifs, 0⟩] scope pos) 0 (.ref it) .none Y.env).onRaise (leaving Y.env)) [] s
  unfold compStart
  rw [Sem.onRaise_eq_wrap]
  show Seg _ A _ _ _ s _ ((ask >>= _).wrap _ _ _ _) [] s
  refine seg_bind_wrap (wpAny_askSetting ?_)
  split
  · exact seg_again rfl loop
  · first
      | exact seg_bind_wrap (wpAny_rule (seg_bind_wrap (wpAny_standAt (seg_bind_wrap (T.self _ 0 s _ _ hGI.2.2.1 (seg_again rfl loop))))))
      | (refine seg_bind_wrap (wpAny_rule ?_); show Seg _ A _ _ _ s _ ((standAt iter.pos >>= _).wrap _ _ _ _) [] s; exact seg_bind_wrap (wpAny_standAt (seg_bind_wrap (T.self _ 0 s _ _ hGI.2.2.1 (seg_again rfl loop)))))

theorem repin {a : α} {h : Heap} {σ : L2.St} {H : Hp} {s' : Shared} (CO : ConOk C) (hat : C.at_ a h) (I : Inv Y (pinsAt C.fp h) σ H s') (hk : ∀ b ∈ C.fp, ∀ o, h.get? b = some o → s'.heap.get? b = some o) :
    Inv Y (pinsAt C.fp s'.heap) σ H s' := I.pins_of fun p hp => by
  obtain ⟨hb, e⟩ := of_pinsAt hp
  obtain ⟨o, e2, _⟩ := CO.obj _ _ hat p.1 hb
  have e3 := hk p.1 hb o e2
  rw [e] at e3
  cases e3
  exact I.pin (p.1, p.2) (List.mem_append_right _ (mem_pinsAt hb e2))

/-- one item of such a generator -/
theorem next_ge {A : Around} {ga : Addr} {go : Obj} {g i n : Nat} {gs : GenState} {a : α} {H : Hp} {Nx : α → Hp → Prop} {s : Shared} {Q : Option Value → Shared → Prop} {E : Value → Shared → Prop}
    (CO : ConOk C) (hh : A.handled = none) (hd : A.depth < recursionLimit) (hpn : (ga, go) ∈ Y.pn) (hgo : ∀ h : Heap, h.get? ga = some go → h.IsGen ga g) (hgs : s.gens[g]? = some gs)
    (gi : GI Y C fpI tn a i H s) (hN : Nx a H)
    (goes : ∀ a' s'', GI Y C fpI tn a' i H s'' → Nx a' H → gs.Goes (model Y.prog Y.w) A.in1 (GRr Y C Fin) (GP Y C fpI tn Out) n (.send .none) s'')
    (hsome : ∀ i1 H1 y v Nx1 s1 gs1, RelV y v → GI Y C fpI tn a i1 H1 s1 → Out a y H1 Nx1 → s1.gens[g]? = some gs1 →
      GoOn (model Y.prog Y.w) A.in1 (GRr Y C Fin) (GP Y C fpI tn Out) (fun a' s'' => GI Y C fpI tn a' i1 H1 s'') (fun a' => Nx1 a' H1) gs1 n → Q (some v) s1)
    (hnone : ∀ H1 s1, Inv Y (pinsAt C.fp s1.heap) (nones Y.N.length) H1 s1 → C.at_ a s1.heap → Fin a H1 → Q none s1) :
    wpAny (model Y.prog Y.w) A (pyNext (.ref ga)) Q E s := by
  obtain ⟨I, hat, st, hn0⟩ := id gi
  have hlt : g < s.gens.size := by
    rcases Nat.lt_or_ge g s.gens.size with h' | h'
    · exact h'
    · rw [Array.getElem?_eq_none h'] at hgs; cases hgs
  refine wpAny_gsz (n := g + 1) hlt ?_
  have gi' : GI Y C fpI tn a i H (s.setGen g .running) := ⟨Inv.gensG I (bare_setGen I.bare rfl), hat, st, hn0⟩
  have hig : s.heap.IsGen ga g := hgo _ (I.pin (ga, go) (List.mem_append_left _ hpn)).1
  refine wpAny_pyNext_genexpQ (P := GF Y C Fin) (Y := GP Y C fpI tn Out) hh I.nolimit hd hig hgs (goes a _ gi' hN) (fun v s1 gs1 hb hv => ?_) (fun s1 hp h' hk => ?_)
  · obtain ⟨a1, i1, H1, y, Nx1, rv, gi1, o1, since, kap⟩ := hv
    have hat1 : C.at_ a s1.heap := CO.keep _ _ _ hat since
    have ea : a1 = a := CO.inj _ _ _ gi1.2.1 hat1
    subst ea
    intro hsz
    have hlt1 : g < s1.gens.size := by
      rw [setGen_size] at hsz
      exact hsz
    have gi2 : GI Y C fpI tn a1 i1 H1 (s1.setGen g gs1) := ⟨Inv.gensG gi1.1 (bare_setGen gi1.1.bare hb), gi1.2.1, gi1.2.2.1, gi1.2.2.2⟩
    refine hsome i1 H1 y v Nx1 _ gs1 rv gi2 o1 (by simp [Shared.setGen, hlt1]) ?_
    cases n with
    | zero => exact fun a' s'' q1 q2 => kap a' s'' q1 q2
    | succ n1 => exact fun a' s'' q1 q2 => kap a' s'' q1 q2
  · obtain ⟨a1, H1, I1, hat1, since, fin⟩ := hp
    have ea : a1 = a := CO.inj _ _ _ hat1 (CO.keep _ _ _ hat since)
    subst ea
    intro _
    have I2 : Inv Y (pinsAt C.fp s1.heap) (nones Y.N.length) H1 { s1.setGen g .finished with heap := h' } := (Inv.gensG I1 (bare_setGen (x := .finished) (g := g) I1.bare rfl)).kept (t' := s1.toks) hk
    exact hnone H1 _ (repin CO hat1 I2 fun b _ o e => hk b o e) (CO.keep _ _ _ hat1 fun b _ o e => hk b o e) fin
end
end

section
variable {Y : Cx} {fpI : List Addr} {tn : Nat → Heap → Prop}
def outAll (QB : Bool → Hp → Prop) : Unit → V → Hp → (Unit → Hp → Prop) → Prop := fun _ y H Nx => ∃ c, y = .bl c ∧ if c = true then Nx () H else QB false H
def outAny (QB : Bool → Hp → Prop) : Unit → V → Hp → (Unit → Hp → Prop) → Prop := fun _ y H Nx => ∃ c, y = .bl c ∧ if c = true then QB true H else Nx () H
theorem all_loop {A : Around} {ga : Addr} {go : Obj} {g : Nat} {QB : Bool → Hp → Prop} {R : Result → Shared → Prop} (hh : A.handled = none) (hd : A.depth < recursionLimit) (hpn : (ga, go) ∈ Y.pn) (hgo : ∀ h : Heap, h.get? ga = some go → h.IsGen ga g)
    (hR : ∀ b s' H', Inv Y [] (nones Y.N.length) H' s' → QB b H' → R (.ok (.ret (.bool b))) s') :
    ∀ (n i : Nat) (H : Hp) (Nx : Unit → Hp → Prop) (s : Shared) (gs : GenState), s.gens[g]? = some gs → GI Y conU fpI tn () i H s → Nx () H →
      (∀ a' s'', GI Y conU fpI tn a' i H s'' → Nx a' H → gs.Goes (model Y.prog Y.w) A.in1.in1 (GRr Y conU fun _ H => QB true H) (GP Y conU fpI tn (outAll QB)) n (.send .none) s'') →
      codeAny (model Y.prog Y.w) A (.builtin "all.loop" ⟨[.ref ga], []⟩) R s := by
  intro n
  induction n with
  | zero =>
    intro i H Nx s gs hgs gi hN goes
    refine codeAny_builtin F.entry_all_loop ?_
    rw [Around.under_plainId F.plain_all_loop _]
    show wpAny _ A.in1 (pyNext (.ref ga) >>= _) _ _ s
    refine wpAny_bind (next_ge (A := A.in1) conU_ok hh hd hpn hgo hgs gi hN goes (fun i1 H1 y v Nx1 s1 gs1 rv gi1 o1 hg1 go1 => ?_) (fun H1 s1 I1 _ fin => ?_))
    · obtain ⟨c, rfl, hc⟩ := o1
      cases (show v = Value.bool c from rv)
      refine wpAny_bind (wpAny_holding (wpAny_truthy_bool ?_))
      refine wpAny_bind (wpAny_letGo ?_)
      cases c with
      | true => exact (go1 () s1 gi1 hc).elim
      | false =>
        simp only [Bool.false_eq_true, if_false]
        exact wpAny_bind (wpAny_rule (wpAny_pure (hR false s1 H1 gi1.1 hc)))
    · exact wpAny_bind (wpAny_rule (wpAny_pure (hR true s1 H1 I1 fin)))
  | succ n ih =>
    intro i H Nx s gs hgs gi hN goes
    refine codeAny_builtin F.entry_all_loop ?_
    rw [Around.under_plainId F.plain_all_loop _]
    show wpAny _ A.in1 (pyNext (.ref ga) >>= _) _ _ s
    refine wpAny_bind (next_ge (A := A.in1) conU_ok hh hd hpn hgo hgs gi hN goes (fun i1 H1 y v Nx1 s1 gs1 rv gi1 o1 hg1 go1 => ?_) (fun H1 s1 I1 _ fin => ?_))
    · obtain ⟨c, rfl, hc⟩ := o1
      cases (show v = Value.bool c from rv)
      refine wpAny_bind (wpAny_holding (wpAny_truthy_bool ?_))
      refine wpAny_bind (wpAny_letGo ?_)
      cases c with
      | true =>
        simp only [if_true]
        exact wpAny_pure ⟨plainId_quiet F.plain_all_loop _, ih i1 H1 Nx1 s1 gs1 hg1 gi1 hc go1⟩
      | false =>
        simp only [Bool.false_eq_true, if_false]
        exact wpAny_bind (wpAny_rule (wpAny_pure (hR false s1 H1 gi1.1 hc)))
    · exact wpAny_bind (wpAny_rule (wpAny_pure (hR true s1 H1 I1 fin)))
theorem any_loop {A : Around} {ga : Addr} {go : Obj} {g : Nat} {QB : Bool → Hp → Prop} {R : Result → Shared → Prop} (hh : A.handled = none) (hd : A.depth < recursionLimit) (hpn : (ga, go) ∈ Y.pn) (hgo : ∀ h : Heap, h.get? ga = some go → h.IsGen ga g)
    (hR : ∀ b s' H', Inv Y [] (nones Y.N.length) H' s' → QB b H' → R (.ok (.ret (.bool b))) s') :
    ∀ (n i : Nat) (H : Hp) (Nx : Unit → Hp → Prop) (s : Shared) (gs : GenState), s.gens[g]? = some gs → GI Y conU fpI tn () i H s → Nx () H →
      (∀ a' s'', GI Y conU fpI tn a' i H s'' → Nx a' H → gs.Goes (model Y.prog Y.w) A.in1.in1 (GRr Y conU fun _ H => QB false H) (GP Y conU fpI tn (outAny QB)) n (.send .none) s'') →
      codeAny (model Y.prog Y.w) A (.builtin "any.loop" ⟨[.ref ga], []⟩) R s := by
  intro n
  induction n with
  | zero =>
    intro i H Nx s gs hgs gi hN goes
    refine codeAny_builtin F.entry_any_loop ?_
    rw [Around.under_plainId F.plain_any_loop _]
    show wpAny _ A.in1 (pyNext (.ref ga) >>= _) _ _ s
    refine wpAny_bind (next_ge (A := A.in1) conU_ok hh hd hpn hgo hgs gi hN goes (fun i1 H1 y v Nx1 s1 gs1 rv gi1 o1 hg1 go1 => ?_) (fun H1 s1 I1 _ fin => ?_))
    · obtain ⟨c, rfl, hc⟩ := o1
      cases (show v = Value.bool c from rv)
      refine wpAny_bind (wpAny_holding (wpAny_truthy_bool ?_))
      refine wpAny_bind (wpAny_letGo ?_)
      cases c with
      | false => exact (go1 () s1 gi1 hc).elim
      | true =>
        simp only [if_true]
        exact wpAny_bind (wpAny_rule (wpAny_pure (hR true s1 H1 gi1.1 hc)))
    · exact wpAny_bind (wpAny_rule (wpAny_pure (hR false s1 H1 I1 fin)))
  | succ n ih =>
    intro i H Nx s gs hgs gi hN goes
    refine codeAny_builtin F.entry_any_loop ?_
    rw [Around.under_plainId F.plain_any_loop _]
    show wpAny _ A.in1 (pyNext (.ref ga) >>= _) _ _ s
    refine wpAny_bind (next_ge (A := A.in1) conU_ok hh hd hpn hgo hgs gi hN goes (fun i1 H1 y v Nx1 s1 gs1 rv gi1 o1 hg1 go1 => ?_) (fun H1 s1 I1 _ fin => ?_))
    · obtain ⟨c, rfl, hc⟩ := o1
      cases (show v = Value.bool c from rv)
      refine wpAny_bind (wpAny_holding (wpAny_truthy_bool ?_))
      refine wpAny_bind (wpAny_letGo ?_)
      cases c with
      | false =>
        simp only [Bool.false_eq_true, if_false]
        exact wpAny_pure ⟨plainId_quiet F.plain_any_loop _, ih i1 H1 Nx1 s1 gs1 hg1 gi1 hc go1⟩
      | true =>
        simp only [if_true]
        exact wpAny_bind (wpAny_rule (wpAny_pure (hR true s1 H1 gi1.1 hc)))
    · exact wpAny_bind (wpAny_rule (wpAny_pure (hR false s1 H1 I1 fin)))
end

/-! ### a generator expression is made -/
abbrev ce (X : Cx) (scope : Scope) (C : Addr) (code : Value) : Env := genEnv scope [] C code builtinsNs X.env
abbrev gx (X : Cx) (A : Around) (N : List Str) (s : Shared) (H : Hp) (cenv : Env) (fp : List Addr) (pn : List (Addr × Obj)) : Cx :=
  { X with A := A.deeper cenv, N := N, s_0 := s, H_0 := H, env := cenv, outer := X.stack, stack := cenv :: X.stack, ex := fp, fn := fun _ => false, calm := true, pn := pn, xe := fun _ _ => False }
structure GSc (scope : Scope) : Prop where
  kind : scope.kind = .function
  co : scope.isCoroutine = false
  own : ∀ y ∈ scope.names, y.2 ≠ .cell ∧ y.2 ≠ .free
  dot : scope.names.lookup (".0" : Str) = some NameKind.local
theorem cloFrom_nil {cells : List (Str × Addr)} : ∀ {names : List (Str × NameKind)} {acc : List (Str × Addr)}, (∀ y ∈ names, y.2 ≠ .free) → cloFrom cells names acc = acc
  | [], _, _ => rfl
  | (n, k) :: r, acc, h => by
    unfold cloFrom
    rw [if_neg (by simpa using h (n, k) List.mem_cons_self)]
    exact cloFrom_nil fun y hy => h y (List.mem_cons_of_mem _ hy)
theorem GSc.nocell {scope : Scope} (S : GSc scope) {x : Str} (h : scope.names.lookup x = some .cell ∨ scope.names.lookup x = some .free) : False := by
  rcases h with h | h
  · exact (S.own _ (PySem.mem_of_lookup h)).1 rfl
  · exact (S.own _ (PySem.mem_of_lookup h)).2 rfl
section
variable {X : Cx} {pins : List (Addr × Obj)} {σ : L2.St} {H : Hp} {s : Shared}
theorem ge_start {A : Around} {N : List Str} {scope : Scope} {code : Value} {fp : List Addr} {go : Obj} {G : Array GenState} {tk : Nat} {h5 : Heap} {m0 : Str → Option Value} (I : Inv X pins σ H s) (S : GSc scope) (hA : A.handled = none) (hf : A.frames = some X.stack)
    (hfp : ∀ b ∈ fp, FpOk X pins H b ∧ b < s.heap.objs.size) (hG : AllBare G) (hns : h5.Ns s.heap.objs.size m0) (hk : ∀ b o, s.heap.get? b = some o → h5.get? b = some o) (hgo : h5.get? (s.heap.objs.size + 1) = some go) (hgd : ∀ v, go.data ≠ .cell v) :
    Inv (gx X A N s H (ce X scope s.heap.objs.size code) fp [(s.heap.objs.size + 1, go)]) [] (nones N.length) H { s with gens := G, toks := tk, heap := h5 } := by
  have noc : ∀ x c, (ce X scope s.heap.objs.size code).cells.lookup x = some c → False := fun x c e => by simp [genEnv] at e
  have stkne : ∀ b, s.heap.objs.size ≤ b → b ∉ frs X.stack := fun b hb z => by
    rcases List.mem_cons.mp (I.stkSub b z) with e | e
    · exact absurd (Nat.lt_of_lt_of_le I.lt (by rw [← e]; exact hb)) (Nat.lt_irrefl _)
    · exact I.nofs hb e
  refine ⟨⟨I.ok.mod, S.kind, I.ok.glob, rfl, Nat.le_refl _, fun x y c h1 _ => (noc x c h1).elim, fun x hx => (S.nocell hx).elim, fun x c h _ => (by cases h), fun _ => hA, Around.frames_deeper hf, .inr ⟨rfl, rfl⟩, fun b hb => ⟨Nat.ne_of_lt (hfp b hb).2, fun x c e => (noc x c e).elim⟩,
    I.bs, Nat.le_trans I.ok.bsz I.sz, fun b o e hb => ?_, fun b hb z => ?_, I.stack, I.stkFree⟩, rfl, hG, Un.kept hk, ⟨m0, hns, fun i x v _ h2 _ => (nones_some h2).elim⟩, fun x c e => (noc x c e).elim, I.hok.fresh (Nat.le_refl _), fun x c e => (noc x c e).elim, fun p hp => ?_, I.hok.kept hk, List.length_replicate⟩
  · rcases (hfp b hb).1.2.2.2.1 with z | z
    · exact I.ok.noex b o e z
    · exact absurd (Nat.lt_of_lt_of_le (Heap.lt_size e) (Nat.le_trans I.ok.bsz z)) (Nat.lt_irrefl _)
  · rcases List.mem_cons.mp (I.stkSub b z) with e | e
    · exact (hfp b hb).1.2.1 e
    · exact (hfp b hb).1.2.2.1 e
  · have hp' : p ∈ [(s.heap.objs.size + 1, go)] := by simpa using hp
    rw [List.mem_singleton.mp hp']
    exact ⟨hgo, I.hok.fresh (Nat.le_succ _), Nat.succ_ne_self _, stkne _ (Nat.le_succ _), hgd⟩
/-- back in the def that asked -/
theorem ge_back {A : Around} {N : List Str} {cenv : Env} {fp : List Addr} {pn pins' : List (Addr × Obj)} {σ' : L2.St} {H' : Hp} {s' : Shared} (I : Inv X pins σ H s) (hfp : ∀ b ∈ fp, FpOk X pins H b ∧ b < s.heap.objs.size)
    (J : Inv (gx X A N s H cenv fp pn) pins' σ' H' s') : Inv X pins σ H' s' :=
  I.call' (ch := fp) J.os J.base J.hok J.bare fun b hb => ⟨(hfp b hb).1.2.2.2.1, (hfp b hb).1.2.1, (hfp b hb).1.2.2.2.2.1, (hfp b hb).1.2.2.2.2.2⟩
theorem room3 {k : Nat} {A : Around} (r : Room (k + 1) A) (env : Env) : Room k (A.in1.in1.deeper env) :=
  ⟨r.hd, by have := r.dp; show A.depth + 1 + 3 * k + 5 < _; omega, by have := r.un; show A.units + 1 + 1 + 3 + 16 * k + 200 < _; omega⟩

theorem gen_make {c P : Addr} {elt tg iter : Expr} {ifs : List Expr} {gpos : Pos} {scope : Scope} {wi : TI} {k : Nat} {Q' : Value → Shared → Prop} {R : It → Hp → Prop}
    (hr : Room k X.A) (TB : GxR.TabB X.base X.mg c P) (hcode : X.env.code = .ref c) (S : GSc scope) (hi : PI X tg iter wi) (hs : ∀ v, genFold iter X.env v = pure v) (I : Inv X pins σ H s) (h : wi σ H fun J H1 => GxR.TabG H1 P ∧ R J H1)
    (hQ : ∀ J H1 H2 s4 s5 code fp it tn go g, R J H1 → GxR.Tabbed P H1 H2 → Inv X pins σ H2 s4 → (∀ b ∈ fp, FpOk X pins H2 b ∧ b < s4.heap.objs.size) → Turn X.prog X.w X.K tg J fp it tn → tn 0 s5.heap →
      (∀ A N, A.handled = none → A.frames = some X.stack → Inv (gx X A N s4 H2 (ce X scope s4.heap.objs.size code) fp [(s4.heap.objs.size + 1, go)]) [] (nones N.length) H2 s5) →
      (∀ h : Heap, h.get? (s4.heap.objs.size + 1) = some go → h.IsGen (s4.heap.objs.size + 1) g) →
      s5.gens[g]? = some (.fresh (.compStart (.GeneratorExp elt [⟨tg, iter, ifs, 0⟩] scope gpos) 0 (.ref it) .none (ce X scope s4.heap.objs.size code))) → Q' (.ref (s4.heap.objs.size + 1)) s5) :
    wpAny (model X.prog X.w) X.A (eval (.GeneratorExp elt [⟨tg, iter, ifs, 0⟩] scope gpos) X.env) Q' X.xe s := by
  have hcl : closureFor scope X.env = pure [] := by
    rw [closure_ok fun y hy e => absurd e (S.own y hy).2, cloFrom_nil fun y hy => (S.own y hy).2]
  refine wpAny_GeneratorExp_make S.co hcl (fun y hy => (S.own y hy).1) S.dot S.kind (by have := hr.dp; omega) (thn (hi.run pins s σ H _ I h) fun xv s1 hx => thn hx fun itv s2 h2 => ?_) hs
  obtain ⟨it, fp, tn, J, H1, e, I2, T, st2, f2, ⟨ps, hP, ht⟩, q1⟩ := h2
  subst e
  have hPs : s2.heap.get? P = some { cls := .none, data := .fields ps } := I2.hok P _ hP
  have cd : PySem.W.CodeHd s2.heap c P := TB.code.keeps fun b u e => I2.bk b u e
  have nfp : ∀ b ∈ fp, b ≠ P := fun b hb z => by
    have := (f2 b hb).1
    rw [z, hP] at this
    cases this
  have szf : ∀ b ∈ fp, b < s2.heap.objs.size := fun b hb => by
    obtain ⟨o, e, _⟩ := T.obj _ _ st2 b hb
    exact Heap.lt_size e
  have cont : ∀ (code : Value) (h3 : Heap) (tk : Nat) (ps' : Array Value), Heap.ExtBut P s2.heap h3 → s2.heap.objs.size ≤ h3.objs.size → h3.get? P = some { cls := .none, data := .fields ps' } → (∃ more, ps' = ps ++ more) → TriplesOk ps'.toList →
      wpAny (model X.prog X.w) X.A (builtinsFor X.env.globals X.env.builtins) (fun bi s4 =>
        ∀ h', h'.Ns s4.heap.objs.size (fun y => if y = ".0" then some (.ref it) else none) → Heap.SameBut s4.heap.objs.size (s4.heap.push { cls := .type "frame", data := .dict #[] }) h' →
          Q' (.ref h'.objs.size) { s4 with
            gens := s4.gens.push (.fresh (.compStart (.GeneratorExp elt [⟨tg, iter, ifs, 0⟩] scope gpos) 0 (.ref it) .none (genEnv scope [] s4.heap.objs.size code bi X.env))),
            toks := s4.toks + 1 + 1 + 1,
            heap := h'.push { cls := .type "generator", data := .fields #[.int s4.gens.size 0, .str "<genexpr>" (s4.toks + 1), .str (X.env.qual ++ "<genexpr>") (s4.toks + 1 + 1)] } }) X.xe { s2 with heap := h3, toks := tk } := by
    intro code h3 tk ps' hx hsz hP3 hmore ht3
    obtain ⟨bm, ob, e1, e2, e3, e4, e5, e6, e7, e8⟩ := TB.bm
    obtain ⟨more, rfl⟩ := hmore
    have I3 : Inv X pins σ (upd H1 P (.tbl (ps ++ more))) { s2 with heap := h3, toks := tk } := GxR.inv_tab (more := more) (g' := s2.gens) (d' := s2.drawn) I2 hP (fun b u hb e => hx b u hb e) hP3 I2.bare
    have tab : GxR.Tabbed P H1 (upd H1 P (.tbl (ps ++ more))) := ⟨⟨_, upd_same, ht3⟩, fun b hb => upd_ne hb⟩
    have st3 : tn 0 h3 := T.keep _ _ _ st2 fun b hb o e => hx b o (nfp b hb) e
    have f3 : ∀ b ∈ fp, FpOk X pins (upd H1 P (.tbl (ps ++ more))) b ∧ b < h3.objs.size := fun b hb =>
      ⟨⟨by rw [upd_ne (nfp b hb)]; exact (f2 b hb).1, (f2 b hb).2⟩, Nat.lt_of_lt_of_le (szf b hb) hsz⟩
    refine wpAny_builtinsFor (m := X.mg) (by rw [I3.ok.glob]; exact I3.mod.glob.keeps I3.bk) e1 e2 (I3.bk _ _ e5) e6 e7 e8 ?_
    intro h' hns hsb
    have hsz' : h'.objs.size = h3.objs.size + 1 := by rw [hsb.1, Heap.size_push]
    have keep' : ∀ b o, h3.get? b = some o → h'.get? b = some o := fun b o e => hsb.extBut b o (Nat.ne_of_lt (Heap.lt_size e)) (Heap.get?_push_of_some _ e)
    have main : ∀ (go : Obj), go.cls = .type "generator" → (∃ nm qn, go.data = .fields #[.int s2.gens.size 0, nm, qn]) → go.slots = #[] → (∀ h : Heap, (h.push go).get? h.objs.size = some go) → ∀ t',
        Q' (.ref h'.objs.size) { s2 with heap := h'.push go, toks := t', gens := s2.gens.push (.fresh (.compStart (.GeneratorExp elt [⟨tg, iter, ifs, 0⟩] scope gpos) 0 (.ref it) .none (genEnv scope [] h3.objs.size code builtinsNs X.env))) } := by
      intro go gc ⟨nm, qn, gd⟩ gsl gp t'
      have hgp := gp h'
      rw [hsz'] at hgp ⊢
      have keep5 : ∀ b o, h3.get? b = some o → (h'.push go).get? b = some o := fun b o e => Heap.get?_push_of_some _ (keep' b o e)
      refine hQ J H1 (upd H1 P (.tbl (ps ++ more))) { s2 with heap := h3, toks := tk } _ code fp it tn go s2.gens.size q1 tab I3 f3 T (T.keep _ _ _ st3 fun b _ o e => keep5 b o e) (fun A N hA hf => ?_) (fun h e => ⟨go, nm, qn, e, gc, gd, gsl⟩) (Array.getElem?_push_size ..)
      exact ge_start (s := { s2 with heap := h3, toks := tk }) I3 S hA hf f3 (I2.bare.push rfl) (hns.push _) keep5 hgp (fun v z => by rw [gd] at z; cases z)
    exact main _ rfl ⟨_, _, rfl⟩ rfl (fun h => Heap.get?_push_size _ rfl) _
  refine ⟨I2.nolimit, ?_⟩
  cases hf : codeAmong gpos ps.toList with
  | none =>
    refine wpAny_genexprCodeX hcode (cd.code hPs ht) (cd.tab hPs) hf fun c' h' tk hx hge hlt hco' _ htab' _ => ?_
    obtain ⟨o1, vs, f1, tf, fl, tg', inF, tx, tt, op, _, _, _, _, _, _, _, _, _, htr, _⟩ := hco'
    exact cont _ h' tk _ hx (Nat.le_trans hge (Nat.le_of_lt hlt)) htab'.2 ⟨_, rfl⟩ htr
  | some cv =>
    refine wpAny_genexprCode_hit hcode (cd.code hPs ht) hf ?_
    exact cont cv s2.heap s2.toks ps (Heap.ExtBut.refl _ _) (Nat.le_refl _) hPs ⟨#[], by simp⟩ ht

/-! ### all and any of one -/
def tGen (P : Addr) (n0 : Nat) (wi : TI) (g : TG) (tt : TT) (te : TE) (Out : (Bool → Hp → Prop) → Unit → V → Hp → (Unit → Hp → Prop) → Prop) (fin : Bool) : TE := fun σ H Q => wi σ H fun J H1 => GxR.TabG H1 P ∧ ∀ H2, GxR.Tabbed P H1 H2 →
  ∃ W : Unit → Nat → Nat → Hp → Prop, (∃ m, W () 0 m H2) ∧ TurnOf J n0 g tt te (Out fun b H => Q (.bl b) H) (fun _ H => Q (.bl fin) H) W
theorem pe_allG {N : List Str} {c P : Addr} {elt tg iter : Expr} {ifs : List Expr} {p pos gpos : Pos} {scope : Scope} {wi : TI} {g : TG} {tt : TT} {te : TE} {k : Nat}
    (hr : Room (k + 1) X.A) (hgl : Gl X "all") (hm : X.mg "all" = none) (TB : GxR.TabB X.base X.mg c P) (hcode : X.env.code = .ref c) (S : GSc scope) (hi : PI X tg iter wi)
    (hg : ∀ (A : Around) (s : Shared) (H : Hp) (C : Addr) (code : Value) (fp : List Addr) (pn : List (Addr × Obj)), Room k (A.deeper (ce X scope C code)) → PG (gx X A N s H (ce X scope C code) fp pn) tg g)
    (ht : ∀ (A : Around) (s : Shared) (H : Hp) (C : Addr) (code : Value) (fp : List Addr) (pn : List (Addr × Obj)), Room k (A.deeper (ce X scope C code)) → PTs (gx X A N s H (ce X scope C code) fp pn) ifs tt)
    (he : ∀ (A : Around) (s : Shared) (H : Hp) (C : Addr) (code : Value) (fp : List Addr) (pn : List (Addr × Obj)), Room k (A.deeper (ce X scope C code)) → PE (gx X A N s H (ce X scope C code) fp pn) elt te)
    (hs : ∀ v, genFold iter X.env v = pure v := by intro _; rfl)
    (hb : bootBuiltins "all" = some (.builtin "all") := by decide +kernel)
    (hst : starEach [.GeneratorExp elt [⟨tg, iter, ifs, 0⟩] scope gpos] X.env = (false, eval (.GeneratorExp elt [⟨tg, iter, ifs, 0⟩] scope gpos) X.env) :: starEach [] X.env := by rfl) :
    PE X (.Call (.Name "all" p) [.GeneratorExp elt [⟨tg, iter, ifs, 0⟩] scope gpos] [] pos) (tGen P N.length wi g tt te outAll true) := by
  refine ⟨fun pins s σ H Q I h => ?_⟩
  refine wpAny_Call_Name_kw (ld_blt I hgl hm hb ?_)
  refine PyProof.Rows.callWith_builtin1 ?_ hst (by rfl)
  rw [hst]
  show wpAny _ _ (spliced ((false, eval (.GeneratorExp elt [⟨tg, iter, ifs, 0⟩] scope gpos) X.env) :: backTo pos (starEach [] X.env))) _ _ s
  refine Calls.spliced_cons (gen_make hr TB hcode S hi hs I h fun J H1 H2 s4 s5 code fp it tn go gn hR tab I4 f4 T st5 mk hgo hgs => ?_)
  refine Calls.spliced_nil ?_
  obtain ⟨W, ⟨m0, w0⟩, turn⟩ := hR H2 tab
  have rY := room3 hr (ce X scope s4.heap.objs.size code)
  have I5 := mk X.A.in1.in1 N hr.hd I.ok.frames
  generalize hpn : [(s4.heap.objs.size + 1, go)] = pn at I5
  have hpm : (s4.heap.objs.size + 1, go) ∈ pn := by rw [← hpn]; exact List.mem_singleton.mpr rfl
  have hpf : ∀ p ∈ pn, p.1 ∉ fp := fun p hp z => by
    rw [← hpn] at hp
    rw [List.mem_singleton.mp hp] at z
    exact absurd (f4 _ z).2 (Nat.not_lt.mpr (Nat.le_succ _))
  have gi0 : GI (gx X X.A.in1.in1 N s4 H2 (ce X scope s4.heap.objs.size code) fp pn) conU fp tn () 0 H2 s5 := ⟨I5, trivial, st5, fun b hb => (f4 b hb).1.1⟩
  have isg := hgo _ (I5.pin _ (List.mem_append_left _ hpm)).1
  refine call_function_tree F.kind_all F.plain_all F.entry_all (F.args_all1 _) ?_
  unfold Builtin.«all»
  refine wpAny_bind (m := oneArg "all" _) (wpAny_pure ?_)
  refine wpAny_bind (wpAny_pyIter_gen isg ?_)
  refine wpAny_pure ⟨plainId_quiet F.plain_all_loop _, ?_⟩
  refine all_loop (Y := gx X X.A.in1.in1 N s4 H2 (ce X scope s4.heap.objs.size code) fp pn) (A := X.A) (g := gn) (QB := fun b H => Q (.bl b) H) hr.hd hr.depth hpm hgo (fun b s' H' I' q => ?_) (m0 + 1) 0 H2 (fun a H => W a 0 m0 H) s5 _ hgs gi0 w0 (fun a' s'' gi' w' => ?_)
  · exact ⟨.bl b, H', ge_back I4 f4 I', rfl, q⟩
  · exact ⟨rfl, seg_start (Y := gx X X.A.in1.in1 N s4 H2 (ce X scope s4.heap.objs.size code) fp pn) conU_ok rfl T (hg _ _ _ _ _ _ _ rY) (ht _ _ _ _ _ _ _ rY) (he _ _ _ _ _ _ _ rY) rfl (fun b hb => hb) (fun b hb => nomatch hb) hpf rfl S.co turn m0 a' (m0 + 1) H2 s'' (Nat.lt_succ_self _) w' gi'⟩
theorem pe_anyG {N : List Str} {c P : Addr} {elt tg iter : Expr} {ifs : List Expr} {p pos gpos : Pos} {scope : Scope} {wi : TI} {g : TG} {tt : TT} {te : TE} {k : Nat}
    (hr : Room (k + 1) X.A) (hgl : Gl X "any") (hm : X.mg "any" = none) (TB : GxR.TabB X.base X.mg c P) (hcode : X.env.code = .ref c) (S : GSc scope) (hi : PI X tg iter wi)
    (hg : ∀ (A : Around) (s : Shared) (H : Hp) (C : Addr) (code : Value) (fp : List Addr) (pn : List (Addr × Obj)), Room k (A.deeper (ce X scope C code)) → PG (gx X A N s H (ce X scope C code) fp pn) tg g)
    (ht : ∀ (A : Around) (s : Shared) (H : Hp) (C : Addr) (code : Value) (fp : List Addr) (pn : List (Addr × Obj)), Room k (A.deeper (ce X scope C code)) → PTs (gx X A N s H (ce X scope C code) fp pn) ifs tt)
    (he : ∀ (A : Around) (s : Shared) (H : Hp) (C : Addr) (code : Value) (fp : List Addr) (pn : List (Addr × Obj)), Room k (A.deeper (ce X scope C code)) → PE (gx X A N s H (ce X scope C code) fp pn) elt te)
    (hs : ∀ v, genFold iter X.env v = pure v := by intro _; rfl)
    (hst : starEach [.GeneratorExp elt [⟨tg, iter, ifs, 0⟩] scope gpos] X.env = (false, eval (.GeneratorExp elt [⟨tg, iter, ifs, 0⟩] scope gpos) X.env) :: starEach [] X.env := by rfl) :
    PE X (.Call (.Name "any" p) [.GeneratorExp elt [⟨tg, iter, ifs, 0⟩] scope gpos] [] pos) (tGen P N.length wi g tt te outAny false) := by
  refine ⟨fun pins s σ H Q I h => ?_⟩
  refine wpAny_Call_Name_kw (ld_blt I hgl hm boot_any ?_)
  refine PyProof.Rows.callWith_builtin1 ?_ hst (by rfl)
  rw [hst]
  show wpAny _ _ (spliced ((false, eval (.GeneratorExp elt [⟨tg, iter, ifs, 0⟩] scope gpos) X.env) :: backTo pos (starEach [] X.env))) _ _ s
  refine Calls.spliced_cons (gen_make hr TB hcode S hi hs I h fun J H1 H2 s4 s5 code fp it tn go gn hR tab I4 f4 T st5 mk hgo hgs => ?_)
  refine Calls.spliced_nil ?_
  obtain ⟨W, ⟨m0, w0⟩, turn⟩ := hR H2 tab
  have rY := room3 hr (ce X scope s4.heap.objs.size code)
  have I5 := mk X.A.in1.in1 N hr.hd I.ok.frames
  generalize hpn : [(s4.heap.objs.size + 1, go)] = pn at I5
  have hpm : (s4.heap.objs.size + 1, go) ∈ pn := by rw [← hpn]; exact List.mem_singleton.mpr rfl
  have hpf : ∀ p ∈ pn, p.1 ∉ fp := fun p hp z => by
    rw [← hpn] at hp
    rw [List.mem_singleton.mp hp] at z
    exact absurd (f4 _ z).2 (Nat.not_lt.mpr (Nat.le_succ _))
  have gi0 : GI (gx X X.A.in1.in1 N s4 H2 (ce X scope s4.heap.objs.size code) fp pn) conU fp tn () 0 H2 s5 := ⟨I5, trivial, st5, fun b hb => (f4 b hb).1.1⟩
  have isg := hgo _ (I5.pin _ (List.mem_append_left _ hpm)).1
  refine call_function_tree F.kind_any F.plain_any F.entry_any (F.args_any1 _) ?_
  unfold Builtin.«any»
  refine wpAny_bind (m := oneArg "any" _) (wpAny_pure ?_)
  refine wpAny_bind (wpAny_pyIter_gen isg ?_)
  refine wpAny_pure ⟨plainId_quiet F.plain_any_loop _, ?_⟩
  refine any_loop (Y := gx X X.A.in1.in1 N s4 H2 (ce X scope s4.heap.objs.size code) fp pn) (A := X.A) (g := gn) (QB := fun b H => Q (.bl b) H) hr.hd hr.depth hpm hgo (fun b s' H' I' q => ?_) (m0 + 1) 0 H2 (fun a H => W a 0 m0 H) s5 _ hgs gi0 w0 (fun a' s'' gi' w' => ?_)
  · exact ⟨.bl b, H', ge_back I4 f4 I', rfl, q⟩
  · exact ⟨rfl, seg_start (Y := gx X X.A.in1.in1 N s4 H2 (ce X scope s4.heap.objs.size code) fp pn) conU_ok rfl T (hg _ _ _ _ _ _ _ rY) (ht _ _ _ _ _ _ _ rY) (he _ _ _ _ _ _ _ rY) rfl (fun b hb => hb) (fun b hb => nomatch hb) hpf rfl S.co turn m0 a' (m0 + 1) H2 s'' (Nat.lt_succ_self _) w' gi'⟩

/-! ### sum of one -/
def sumObj (a : Int) (t : Tok) (c : Nat) : Obj := { cls := .type "list", dict := none, data := .seq #[.int a t] c, slots := #[] }
def conS (S : Addr) : Con Int := ⟨[S], fun a h => ∃ t c, h.get? S = some (sumObj a t c)⟩
theorem conS_ok (S : Addr) : ConOk (conS S) :=
  ⟨(fun a h ⟨t, c, e⟩ b hb => by
      rw [List.mem_singleton.mp hb]
      exact ⟨_, e, fun v z => by cases z⟩),
   (fun a h h' ⟨t, c, e⟩ k => ⟨t, c, k S (List.mem_singleton.mpr rfl) _ e⟩),
   (fun a b h ⟨t, c, e⟩ ⟨t', c', e'⟩ => by
      rw [e] at e'
      have z : Data.seq #[Value.int a t] c = Data.seq #[Value.int b t'] c' := congrArg Obj.data (Option.some.inj e')
      injection z with z1 _
      have z2 : [Value.int a t] = [Value.int b t'] := congrArg Array.toList z1
      injection z2 with z3 _
      injection z3)⟩
def outSum : Int → V → Hp → (Int → Hp → Prop) → Prop := fun a y H Nx => ∃ v, y = .int v ∧ Nx (a + v) H
structure ApS (Y : Cx) (S : Addr) : Prop where
  young : Y.s_0.heap.objs.size ≤ S
  loc : S ≠ Y.env.locals
  cell : ∀ x c, Y.env.cells.lookup x = some c → c ≠ S
  pn : ∀ p ∈ Y.pn, p.1 ≠ S
theorem gi_upd {Y : Cx} {fpI : List Addr} {tn : Nat → Heap → Prop} {S : Addr} {a v : Int} {i : Nat} {H : Hp} {s : Shared} {tk : Nat} {h' : Heap} {t : Tok} {c : Nat} (hSf : S ∉ fpI) (ap : ApS Y S) (keepT : ∀ i h h', tn i h → (∀ b ∈ fpI, ∀ o, h.get? b = some o → h'.get? b = some o) → tn i h')
    (gi : GI Y (conS S) fpI tn a i H s) (hk : ∀ b o, b ≠ S → s.heap.get? b = some o → h'.get? b = some o) (hS : h'.get? S = some (sumObj v t c)) : GI Y (conS S) fpI tn v i H { s with heap := h', toks := tk } := by
  obtain ⟨I, ⟨t0, c0, e0⟩, st, hn⟩ := gi
  obtain ⟨_, p2, p3, p4, _⟩ := I.pin (S, sumObj a t0 c0) (List.mem_append_right _ (mem_pinsAt (List.mem_singleton.mpr rfl) e0))
  have I0 : Inv Y [] (nones Y.N.length) H s := I.pins_of fun p hp => by cases hp
  have I1 : Inv Y [] (nones Y.N.length) H { s with heap := h', toks := tk } := I0.turned (it := S) (fun b o hb e => hk b o hb e) p2 p3 (.inr ap.young) ap.cell fun p hp => (List.mem_append.mp hp).elim (fun z => ap.pn p z) fun z => by cases z
  refine ⟨I1.pins_of fun p hp => ?_, ⟨t, c, hS⟩, keepT _ _ _ st fun b hb o e => hk b o (fun z => hSf (z ▸ hb)) e, hn⟩
  obtain ⟨hb, e⟩ := of_pinsAt hp
  have eS : p.1 = S := List.mem_singleton.mp hb
  rw [eS] at e ⊢
  have e' : h'.get? S = some p.2 := e
  rw [hS] at e'
  refine ⟨e, p2, p3, p4, fun v z => ?_⟩
  rw [← Option.some.inj e'] at z
  cases z
theorem sum_loop {Y : Cx} {fpI : List Addr} {tn : Nat → Heap → Prop} {A : Around} {ga : Addr} {go : Obj} {g : Nat} {S : Addr} {QI : Int → Hp → Prop} {R : Result → Shared → Prop} (hSf : S ∉ fpI) (ap : ApS Y S) (keepT : ∀ i h h', tn i h → (∀ b ∈ fpI, ∀ o, h.get? b = some o → h'.get? b = some o) → tn i h')
    (hh : A.handled = none) (hd : A.depth < recursionLimit) (hpn : (ga, go) ∈ Y.pn) (hgo : ∀ h : Heap, h.get? ga = some go → h.IsGen ga g)
    (hR : ∀ a t' s' H', Inv Y [] (nones Y.N.length) H' s' → QI a H' → R (.ok (.ret (.int a t'))) s') :
    ∀ (n i : Nat) (H : Hp) (Nx : Int → Hp → Prop) (s : Shared) (gs : GenState) (a : Int) (t : Tok) (c : Nat) (st : Int), (st = 0 ∨ st = 2) → s.gens[g]? = some gs → GI Y (conS S) fpI tn a i H s → s.heap.get? S = some (sumObj a t c) → Nx a H →
      (∀ a' s'', GI Y (conS S) fpI tn a' i H s'' → Nx a' H → gs.Goes (model Y.prog Y.w) A.in1.in1 (GRr Y (conS S) QI) (GP Y (conS S) fpI tn outSum) n (.send .none) s'') →
      codeAny (model Y.prog Y.w) A (.builtin "sum.loop" ⟨[.ref ga, .ref S, rawInt st, rawInt 0], []⟩) R s := by
  -- what a turn comes to, the loop going on or not
  have turn : ∀ (n i : Nat) (H : Hp) (Nx : Int → Hp → Prop) (s : Shared) (gs : GenState) (a : Int) (t : Tok) (c : Nat) (st : Int), (st = 0 ∨ st = 2) → s.gens[g]? = some gs → GI Y (conS S) fpI tn a i H s → s.heap.get? S = some (sumObj a t c) → Nx a H →
      (∀ a' s'', GI Y (conS S) fpI tn a' i H s'' → Nx a' H → gs.Goes (model Y.prog Y.w) A.in1.in1 (GRr Y (conS S) QI) (GP Y (conS S) fpI tn outSum) n (.send .none) s'') →
      (∀ (i1 : Nat) (H1 : Hp) (Nx1 : Int → Hp → Prop) (s1 : Shared) (gs1 : GenState) (b : Int) (t1 : Tok) (c1 : Nat) (st1 : Int), (st1 = 0 ∨ st1 = 2) → s1.gens[g]? = some gs1 → GI Y (conS S) fpI tn b i1 H1 s1 → s1.heap.get? S = some (sumObj b t1 c1) → Nx1 b H1 →
        GoOn (model Y.prog Y.w) A.in1.in1 (GRr Y (conS S) QI) (GP Y (conS S) fpI tn outSum) (fun a' s'' => GI Y (conS S) fpI tn a' i1 H1 s'') (fun a' => Nx1 a' H1) gs1 n →
        codeAny (model Y.prog Y.w) A (.builtin "sum.loop" ⟨[.ref ga, .ref S, rawInt st1, rawInt 0], []⟩) R s1) →
      codeAny (model Y.prog Y.w) A (.builtin "sum.loop" ⟨[.ref ga, .ref S, rawInt st, rawInt 0], []⟩) R s := by
    intro n i H Nx s gs a t c st hst2 hgs gi hS hN goes again
    refine codeAny_builtin F.entry_sum_loop ?_
    rw [Around.under_plainId F.plain_sum_loop _]
    show wpAny _ A.in1 (seqItems? (.ref S) >>= _) _ _ s
    refine wpAny_bind (wpAny_seqItems hS rfl ?_)
    show wpAny _ A.in1 (tryCatch (pyNext (.ref ga)) _ >>= _) _ _ s
    refine wpAny_bind (wpAny_tryCatch (next_ge (A := A.in1) (conS_ok S) hh hd hpn hgo hgs gi hN goes (fun i1 H1 y v Nx1 s1 gs1 rv gi1 o1 hg1 go1 => ?_) (fun H1 s1 I1 _ fin => ?_)))
    · obtain ⟨v', rfl, hc⟩ := o1
      obtain ⟨t', rfl⟩ := (show ∃ t', v = Value.int v' t' from rv)
      obtain ⟨tS, cS, hS'⟩ := gi1.2.1
      rcases hst2 with rfl | rfl
      · show wpAny _ A.in1 (if (_ : Bool) = true then (mkInt (a + v') >>= _) else _) _ _ _
        split
        · refine wpAny_bind (wpAny_mkInt ?_)
          show wpAny _ A.in1 (updateSeq S (fun _ => #[.int (a + v') s1.toks]) >>= _) _ _ _
          refine wpAny_bind ?_
          refine wpAny_updateSeq hS' rfl (wpAny_pure ⟨plainId_quiet F.plain_sum_loop _, ?_⟩)
          refine again i1 H1 Nx1 _ gs1 (a + v') s1.toks _ 0 (.inl rfl) hg1 (gi_upd (t := s1.toks) (s := s1) hSf ap keepT gi1 (fun b o hb e => (Heap.get?_update_other _ _ (Ne.symm hb)).trans e) (Heap.get?_update_self _ hS' rfl)) (Heap.get?_update_self _ hS' rfl) hc go1
        · refine wpAny_bind (wpAny_rule ?_)
          refine wpAny_bind (wpAny_attempt (wpAny_holding (wpAny_add_int ?_)))
          show wpAny _ A.in1 (updateSeq S (fun _ => #[.int (a + v') s1.toks]) >>= _) _ _ _
          refine wpAny_bind (wpAny_updateSeq hS' rfl ?_)
          have hS₂ := Heap.get?_update_self (Obj.mapSeq fun _ => #[Value.int (a + v') s1.toks]) hS' rfl
          refine wpAny_bind (wpAny_letGo ?_)
          refine wpAny_bind (wpAny_updateSeq hS₂ rfl (wpAny_pure ⟨plainId_quiet F.plain_sum_loop _, ?_⟩))
          refine again i1 H1 Nx1 _ gs1 (a + v') s1.toks _ 2 (.inr rfl) hg1 (gi_upd (t := s1.toks) (s := s1) hSf ap keepT gi1 (fun b o hb e => (Heap.get?_update_other _ _ (Ne.symm hb)).trans ((Heap.get?_update_other _ _ (Ne.symm hb)).trans e)) (Heap.get?_update_self _ hS₂ rfl)) (Heap.get?_update_self _ hS₂ rfl) hc go1
      · show wpAny _ A.in1 ((holding [Value.int v' t'] (binaryOp .Add (.int a t) (.int v' t'))).attempt >>= _) _ _ _
        refine wpAny_bind (wpAny_attempt (wpAny_holding (wpAny_add_int ?_)))
        show wpAny _ A.in1 (updateSeq S (fun _ => #[.int (a + v') s1.toks]) >>= _) _ _ _
        refine wpAny_bind (wpAny_updateSeq hS' rfl ?_)
        have hS₂ := Heap.get?_update_self (Obj.mapSeq fun _ => #[Value.int (a + v') s1.toks]) hS' rfl
        refine wpAny_bind (wpAny_letGo ?_)
        refine wpAny_bind (wpAny_updateSeq hS₂ rfl (wpAny_pure ⟨plainId_quiet F.plain_sum_loop _, ?_⟩))
        refine again i1 H1 Nx1 _ gs1 (a + v') s1.toks _ 2 (.inr rfl) hg1 (gi_upd (t := s1.toks) (s := s1) hSf ap keepT gi1 (fun b o hb e => (Heap.get?_update_other _ _ (Ne.symm hb)).trans ((Heap.get?_update_other _ _ (Ne.symm hb)).trans e)) (Heap.get?_update_self _ hS₂ rfl)) (Heap.get?_update_self _ hS₂ rfl) hc go1
    · exact wpAny_pure (hR a t s1 H1 (I1.pins_of fun p hp => by cases hp) fin)
  intro n
  induction n with
  | zero => exact fun i H Nx s gs a t c st h1 h2 h3 h4 h5 h6 => turn 0 i H Nx s gs a t c st h1 h2 h3 h4 h5 h6 fun i1 H1 Nx1 s1 gs1 b t1 c1 st1 _ _ g1 _ g3 g4 => (g4 b s1 g1 g3).elim
  | succ n ih => exact fun i H Nx s gs a t c st h1 h2 h3 h4 h5 h6 => turn (n + 1) i H Nx s gs a t c st h1 h2 h3 h4 h5 h6 fun i1 H1 Nx1 s1 gs1 b t1 c1 st1 g0 g1 g2 g3 g4 g5 => ih i1 H1 Nx1 s1 gs1 b t1 c1 st1 g0 g1 g2 g3 g4 g5
def tSumG (P : Addr) (n0 : Nat) (wi : TI) (g : TG) (tt : TT) (te : TE) : TE := fun σ H Q => wi σ H fun J H1 => GxR.TabG H1 P ∧ ∀ H2, GxR.Tabbed P H1 H2 →
  ∃ W : Int → Nat → Nat → Hp → Prop, (∃ m, W 0 0 m H2) ∧ TurnOf J n0 g tt te outSum (fun a H => Q (.int a) H) W
theorem pe_sumG {N : List Str} {c P : Addr} {elt tg iter : Expr} {ifs : List Expr} {p pos gpos : Pos} {scope : Scope} {wi : TI} {g : TG} {tt : TT} {te : TE} {k : Nat}
    (hr : Room (k + 1) X.A) (hgl : Gl X "sum") (hm : X.mg "sum" = none) (TB : GxR.TabB X.base X.mg c P) (hcode : X.env.code = .ref c) (S : GSc scope) (hi : PI X tg iter wi)
    (hg : ∀ (A : Around) (s : Shared) (H : Hp) (C : Addr) (code : Value) (fp : List Addr) (pn : List (Addr × Obj)), Room k (A.deeper (ce X scope C code)) → PG (gx X A N s H (ce X scope C code) fp pn) tg g)
    (ht : ∀ (A : Around) (s : Shared) (H : Hp) (C : Addr) (code : Value) (fp : List Addr) (pn : List (Addr × Obj)), Room k (A.deeper (ce X scope C code)) → PTs (gx X A N s H (ce X scope C code) fp pn) ifs tt)
    (he : ∀ (A : Around) (s : Shared) (H : Hp) (C : Addr) (code : Value) (fp : List Addr) (pn : List (Addr × Obj)), Room k (A.deeper (ce X scope C code)) → PE (gx X A N s H (ce X scope C code) fp pn) elt te)
    (hs : ∀ v, genFold iter X.env v = pure v := by intro _; rfl)
    (hb : bootBuiltins "sum" = some (.builtin "sum") := by decide +kernel)
    (hst : starEach [.GeneratorExp elt [⟨tg, iter, ifs, 0⟩] scope gpos] X.env = (false, eval (.GeneratorExp elt [⟨tg, iter, ifs, 0⟩] scope gpos) X.env) :: starEach [] X.env := by rfl) :
    PE X (.Call (.Name "sum" p) [.GeneratorExp elt [⟨tg, iter, ifs, 0⟩] scope gpos] [] pos) (tSumG P N.length wi g tt te) := by
  refine ⟨fun pins s σ H Q I h => ?_⟩
  refine wpAny_Call_Name_kw (ld_blt I hgl hm hb ?_)
  refine PyProof.Rows.callWith_builtin1 ?_ hst (by rfl)
  rw [hst]
  show wpAny _ _ (spliced ((false, eval (.GeneratorExp elt [⟨tg, iter, ifs, 0⟩] scope gpos) X.env) :: backTo pos (starEach [] X.env))) _ _ s
  refine Calls.spliced_cons (gen_make hr TB hcode S hi hs I h fun J H1 H2 s4 s5 code fp it tn go gn hR tab I4 f4 T st5 mk hgo hgs => ?_)
  refine Calls.spliced_nil ?_
  obtain ⟨W, ⟨m0, w0⟩, turn⟩ := hR H2 tab
  have rY := room3 hr (ce X scope s4.heap.objs.size code)
  have I5 := mk X.A.in1.in1 N hr.hd I.ok.frames
  generalize hpn : [(s4.heap.objs.size + 1, go)] = pn at I5
  have hpm : (s4.heap.objs.size + 1, go) ∈ pn := by rw [← hpn]; exact List.mem_singleton.mpr rfl
  have hpf : ∀ p ∈ pn, p.1 ∉ fp := fun p hp z => by
    rw [← hpn] at hp
    rw [List.mem_singleton.mp hp] at z
    exact absurd (f4 _ z).2 (Nat.not_lt.mpr (Nat.le_succ _))
  have isg := hgo _ (I5.pin _ (List.mem_append_left _ hpm)).1
  have fpl : ∀ b ∈ fp, b < s5.heap.objs.size := fun b hb => Nat.lt_of_lt_of_le (f4 b hb).2 I5.sz
  refine call_function_tree F.kind_sum F.plain_sum F.entry_sum (F.args_sum1 _) ?_
  unfold Builtin.«sum»
  simp only [List.length_cons, List.length_nil]
  rw [if_neg (by decide)]
  refine wpAny_bind (wpAny_of_eq (show Builtin.Builtins.bindParams "sum" ["start"] 0 { } = pure [none] from rfl) ?_)
  refine wpAny_bind (wpAny_pyIter_gen isg ?_)
  refine wpAny_bind (wpAny_mkInt ?_)
  refine wpAny_bind (wpAny_pure ?_)
  simp only [List.forIn_cons, List.forIn_nil]
  refine wpAny_bind (wpAny_bind (wpAny_bind (wpAny_isInstance (T := "int") (b := false) (typeIs_int _ _ _) PySem.sub_int_str ?_)))
  simp only [Bool.false_eq_true, if_false]
  refine wpAny_pure (wpAny_bind (wpAny_bind (wpAny_isInstance (T := "int") (b := false) (typeIs_int _ _ _) PySem.sub_int_bytes ?_)))
  simp only [Bool.false_eq_true, if_false]
  refine wpAny_pure (wpAny_bind (wpAny_bind (wpAny_isInstance (T := "int") (b := false) (typeIs_int _ _ _) PySem.sub_int_bytearray ?_)))
  simp only [Bool.false_eq_true, if_false]
  refine wpAny_pure (wpAny_pure ?_)
  refine wpAny_bind (wpAny_newObj_type ?_)
  refine wpAny_pure ⟨plainId_quiet F.plain_sum_loop _, ?_⟩
  have hSf : s5.heap.objs.size ∉ fp := fun hm => Nat.lt_irrefl _ (fpl _ hm)
  have hget : (s5.heap.push (sumObj 0 s5.toks 0)).get? s5.heap.objs.size = some (sumObj 0 s5.toks 0) := Heap.get?_push_size _ rfl
  have I6 : Inv (gx X X.A.in1.in1 N s4 H2 (ce X scope s4.heap.objs.size code) fp pn) [] (nones N.length) H2 { s5 with heap := s5.heap.push (sumObj 0 s5.toks 0), toks := s5.toks + 1 } := I5.kept fun b o e => Heap.get?_push_of_some _ e
  have gi0 : GI (gx X X.A.in1.in1 N s4 H2 (ce X scope s4.heap.objs.size code) fp pn) (conS s5.heap.objs.size) fp tn 0 0 H2 { s5 with heap := s5.heap.push (sumObj 0 s5.toks 0), toks := s5.toks + 1 } := by
    refine ⟨I6.pins_of fun p hp => ?_, ⟨s5.toks, 0, hget⟩, T.keep _ _ _ st5 fun b _ o e => Heap.get?_push_of_some _ e, fun b hb => (f4 b hb).1.1⟩
    obtain ⟨hb, e⟩ := of_pinsAt hp
    have eS : p.1 = s5.heap.objs.size := List.mem_singleton.mp hb
    rw [eS] at e ⊢
    have e' : (s5.heap.push (sumObj 0 s5.toks 0)).get? s5.heap.objs.size = some p.2 := e
    rw [hget] at e'
    refine ⟨e, I5.hok.fresh (Nat.le_refl _), Nat.ne_of_gt I5.lt, I5.nofs (Nat.le_refl _), fun v z => ?_⟩
    rw [← Option.some.inj e'] at z
    cases z
  have ap : ApS (gx X X.A.in1.in1 N s4 H2 (ce X scope s4.heap.objs.size code) fp pn) s5.heap.objs.size := ⟨I5.sz, Nat.ne_of_gt I5.lt, fun x c e => by simp [genEnv] at e, fun p hp z => by
    have := Heap.lt_size (I5.pin p (List.mem_append_left _ hp)).1
    rw [z] at this
    exact Nat.lt_irrefl _ this⟩
  refine sum_loop (Y := gx X X.A.in1.in1 N s4 H2 (ce X scope s4.heap.objs.size code) fp pn) (A := X.A) (g := gn) (QI := fun a H => Q (.int a) H) hSf ap T.keep hr.hd hr.depth hpm hgo (fun a t' s' H' I' q => ?_) (m0 + 1) 0 H2 (fun a H => W a 0 m0 H) _ _ 0 s5.toks 0 0 (.inl rfl) hgs gi0 hget w0 (fun a' s'' gi' w' => ?_)
  · exact ⟨.int a, H', ge_back I4 f4 I', ⟨_, rfl⟩, q⟩
  · exact ⟨rfl, seg_start (Y := gx X X.A.in1.in1 N s4 H2 (ce X scope s4.heap.objs.size code) fp pn) (conS_ok _) rfl T (hg _ _ _ _ _ _ _ rY) (ht _ _ _ _ _ _ _ rY) (he _ _ _ _ _ _ _ rY) rfl (fun b hb => hb) (fun b hb => by rw [List.mem_singleton.mp hb]; exact hSf) hpf rfl S.co turn m0 a' (m0 + 1) H2 s'' (Nat.lt_succ_self _) w' gi'⟩
end
end GE
set_option Elab.async false
set_option linter.all false
set_option maxRecDepth 100000
set_option maxHeartbeats 1000000
namespace CL
open PySem PySem.Spec PyProof.Rows L2 GE
/-! ### what a value is worth, as data -/
mutual
inductive Rp (H : Hp) : V → PyData → Prop
  | non : Rp H .non .none
  | bl (b : Bool) : Rp H (.bl b) (.bool b)
  | int (i : Int) : Rp H (.int i) (.int i)
  | str (x : Str) : Rp H (.str x) (.str x)
  | lst {a : Addr} {xs : List V} {ds : List PyData} : H a = some (.lst xs) → RpAll H xs ds → Rp H (.ref a) (.list ds)
  | tup {a : Addr} {xs : List V} {ds : List PyData} : H a = some (.tup xs) → RpAll H xs ds → Rp H (.ref a) (.tuple ds)
  | dct {a : Addr} : H a = some (.dK []) → Rp H (.ref a) (.dict [])
inductive RpAll (H : Hp) : List V → List PyData → Prop
  | nil : RpAll H [] []
  | cons {v : V} {vs : List V} {d : PyData} {ds : List PyData} : Rp H v d → RpAll H vs ds → RpAll H (v :: vs) (d :: ds)
end
/-- all stays but tables, which may grow -/
def Ex (H H' : Hp) : Prop := ∀ b o, H b = some o → H' b = some o ∨ ∃ ps qs, o = .tbl ps ∧ H' b = some (.tbl qs) ∧ TriplesOk qs.toList
theorem Ex.refl (H : Hp) : Ex H H := fun _ _ h => .inl h
theorem Ex.of {H H' : Hp} (s : Same H H') : Ex H H' := fun b o h => .inl (s b o h)
theorem Ex.trans {H H1 H2 : Hp} (a : Ex H H1) (b : Ex H1 H2) : Ex H H2 := fun c o h => by
  rcases a c o h with q | ⟨ps, qs, e, q⟩
  · exact b c o q
  · rcases b c _ q.1 with r | ⟨ps', qs', _, r⟩
    · exact .inr ⟨ps, qs, e, r, q.2⟩
    · exact .inr ⟨ps, qs', e, r⟩
theorem Ex.keep {H H' : Hp} (e : Ex H H') {b : Addr} {o : HO} (h : H b = some o) (n : ∀ ps, o ≠ .tbl ps) : H' b = some o := by
  rcases e b o h with q | ⟨ps, _, z, _⟩
  · exact q
  · exact absurd z (n ps)
theorem Ex.lst {H H' : Hp} (e : Ex H H') {b : Addr} {xs : List V} (h : H b = some (.lst xs)) : H' b = some (.lst xs) := e.keep h fun _ => nofun
theorem Ex.tup {H H' : Hp} (e : Ex H H') {b : Addr} {xs : List V} (h : H b = some (.tup xs)) : H' b = some (.tup xs) := e.keep h fun _ => nofun
theorem Ex.free {H H' : Hp} (e : Ex H H') {l : Addr} (h : H' l = none) : H l = none := by
  cases q : H l with
  | none => rfl
  | some o =>
    rcases e l o q with r | ⟨_, _, _, r, _⟩
    · rw [h] at r; cases r
    · rw [h] at r; cases r
theorem Ex.new {H : Hp} {p : Addr} {o : HO} (h : H p = none) : Ex H (upd H p o) := fun b x e => .inl (by rw [upd_ne (ne_of_none e h)]; exact e)
theorem same_upd {H : Hp} {p : Addr} {o : HO} (h : H p = none) : Same H (upd H p o) := fun b x e => by
  rw [upd_ne (ne_of_none e h)]
  exact e
mutual
theorem Rp.ex {H H' : Hp} (e : Ex H H') : ∀ (d : PyData) (v : V), Rp H v d → Rp H' v d
  | .none, _, h => by cases h; exact .non
  | .bool b, _, h => by cases h; exact .bl b
  | .int i, _, h => by cases h; exact .int i
  | .str x, _, h => by cases h; exact .str x
  | .list ds, _, h => by
    cases h with
    | lst h1 h2 => exact .lst (e.lst h1) (RpAll.ex e ds _ h2)
  | .tuple ds, _, h => by
    cases h with
    | tup h1 h2 => exact .tup (e.tup h1) (RpAll.ex e ds _ h2)
  | .dict _, _, h => by
    cases h with
    | dct h1 => exact .dct (e.keep h1 fun _ => nofun)
theorem RpAll.ex {H H' : Hp} (e : Ex H H') : ∀ (ds : List PyData) (vs : List V), RpAll H vs ds → RpAll H' vs ds
  | [], _, h => by cases h; exact .nil
  | d :: ds, _, h => by
    cases h with
    | cons h1 h2 => exact .cons (Rp.ex e d _ h1) (RpAll.ex e ds _ h2)
end
theorem RpAll.length {H : Hp} : ∀ {vs : List V} {ds : List PyData}, RpAll H vs ds → vs.length = ds.length
  | _, _, .nil => rfl
  | _, _, .cons _ t => congrArg (· + 1) (RpAll.length t)
theorem RpAll.get {H : Hp} : ∀ {vs : List V} {ds : List PyData} {i : Nat} {v : V}, RpAll H vs ds → vs[i]? = some v → ∃ d, ds[i]? = some d ∧ Rp H v d
  | _, _, _, _, .nil, e => by simp at e
  | _, _, 0, _, .cons r _, e => by simp at e; subst e; exact ⟨_, rfl, r⟩
  | _, _, i + 1, _, .cons _ t, e => by
    obtain ⟨d, h1, h2⟩ := RpAll.get (i := i) t (by simpa using e)
    exact ⟨d, by simpa using h1, h2⟩
theorem RpAll.take {H : Hp} : ∀ {vs : List V} {ds : List PyData} (n : Nat), RpAll H vs ds → RpAll H (vs.take n) (ds.take n)
  | _, _, 0, _ => .nil
  | _, _, _ + 1, .nil => .nil
  | _, _, n + 1, .cons r t => .cons r (RpAll.take n t)
theorem RpAll.append {H : Hp} : ∀ {vs ws : List V} {ds es : List PyData}, RpAll H vs ds → RpAll H ws es → RpAll H (vs ++ ws) (ds ++ es)
  | _, _, _, _, .nil, s => s
  | _, _, _, _, .cons r t, s => .cons r (RpAll.append t s)
/-! ### plans, as the document tells -/
def tyName : PyData → String
  | .none => "NoneType" | .bool _ => "bool" | .int _ => "int" | .str _ => "str" | .list _ => "list" | .tuple _ => "tuple" | .dict _ => "dict"
def rowsD : PyData → Option (List PyData)
  | .list xs => some xs
  | .tuple xs => some xs
  | _ => none
def isRow (d : PyData) : Bool := (rowsD d).isSome
def isWhole : PyData → Bool
  | .int _ => true
  | _ => false
def isIntB : PyData → Bool
  | .int _ => true
  | .bool _ => true
  | _ => false
def isBoolB : PyData → Bool
  | .bool _ => true
  | _ => false
def isNone : PyData → Bool
  | .none => true
  | _ => false
abbrev GREAT : Int := 1000000000000000000000000000000
def isPatience : PyData → Bool
  | .none => true
  | .int i => decide (0 ≤ i) && decide (i ≤ GREAT)
  | _ => false
def isTurns (d : PyData) : Bool := match rowsD d with
  | some ds => decide (1 ≤ ds.length) && decide (ds.length ≤ 8) && ds.all isPatience
  | none => false
def isMany : PyData → Bool
  | .none => true
  | .int i => decide (0 ≤ i)
  | _ => false
def isPiece (d : PyData) : Bool := match rowsD d with
  | some [t, m] => isTurns t && isMany m
  | _ => false
def sndD (d : PyData) : PyData := match rowsD d with
  | some [_, m] => m
  | _ => .none
def worth : PyData → Int
  | .int i => i
  | _ => 0
def sumSnd (ds : List PyData) : Int := (ds.map fun d => worth (sndD d)).sum
def isPlanL (ds : List PyData) : Bool := decide (1 ≤ ds.length) && decide (ds.length ≤ 8) && ds.all isPiece && !((ds.take (ds.length - 1)).any fun d => isNone (sndD d)) && decide (sumSnd ds ≤ GREAT)
def isPlan (d : PyData) : Bool := match rowsD d with
  | some ds => isPlanL ds
  | none => false
theorem Rp.ty {K : PySem.W.Frag} {H : Hp} {v : V} {d : PyData} (h : Rp H v d) : TyX K H v (.type (tyName d)) := by
  cases h with
  | non => exact .base .non
  | bl b => exact .base (.bl b)
  | int i => exact .base (.int i)
  | str x => exact .base (.str x)
  | lst h _ => exact .base (.lst h)
  | tup h _ => exact .base (.tup h)
  | dct h => exact .base (.dK h)
theorem kit_int {K : PySem.W.Frag} (d : PyData) : PySem.W.kitOne K (.type (tyName d)) (.type "int") = some (isIntB d) := by cases d <;> (refine kit_ty ?_; dsimp only [tyName, isIntB]; decide +kernel)
theorem kit_bool {K : PySem.W.Frag} (d : PyData) : PySem.W.kitOne K (.type (tyName d)) (.type "bool") = some (isBoolB d) := by cases d <;> (refine kit_ty ?_; dsimp only [tyName, isBoolB]; decide +kernel)
theorem kit_list {K : PySem.W.Frag} (d : PyData) : PySem.W.kitOne K (.type (tyName d)) (.type "list") = some (match d with | .list _ => true | _ => false) := by cases d <;> (refine kit_ty ?_; dsimp only [tyName]; decide +kernel)
theorem kit_tuple {K : PySem.W.Frag} (d : PyData) : PySem.W.kitOne K (.type (tyName d)) (.type "tuple") = some (match d with | .tuple _ => true | _ => false) := by cases d <;> (refine kit_ty ?_; dsimp only [tyName]; decide +kernel)
theorem kit_rows {K : PySem.W.Frag} (d : PyData) : PySem.W.kitAny K (.type (tyName d)) [.type "list", .type "tuple"] = some (isRow d) := by
  refine kitAny_cons (kit_list d) (fun h => kitAny_cons (kit_tuple d) (fun h2 => ?_) fun h2 => ?_) fun h => ?_
  · cases d <;> first | exact kitAny_nil | (simp at h; done) | (simp at h2; done)
  · cases d <;> first | rfl | (simp at h; done) | (simp at h2; done)
  · cases d <;> first | rfl | (simp at h; done)
/-- a row's things -/
theorem Rp.rows {H : Hp} {v : V} {d : PyData} {ds : List PyData} (h : Rp H v d) (e : rowsD d = some ds) : ∃ a xs, v = .ref a ∧ RpAll H xs ds ∧ (H a = some (.lst xs) ∨ H a = some (.tup xs)) := by
  cases h with
  | lst h1 h2 => cases e; exact ⟨_, _, rfl, h2, .inl h1⟩
  | tup h1 h2 => cases e; exact ⟨_, _, rfl, h2, .inr h1⟩
  | _ => cases e
/-! ### for x in a list or a tuple -/
structure StSeq (H : Hp) (a : Addr) (xs : List V) : Prop where
  or : H a = some (.lst xs) ∨ H a = some (.tup xs)
theorem StSeq.ex {H H' : Hp} {a : Addr} {xs : List V} (s : StSeq H a xs) (e : Ex H H') : StSeq H' a xs := ⟨s.or.elim (fun h => .inl (e.lst h)) fun h => .inr (e.tup h)⟩
theorem StSeq.sq {K : PySem.W.Frag} {H : Hp} {a : Addr} {xs : List V} (s : StSeq H a xs) : SqL K H a xs ∨ SqT K H a xs := s.or.elim (fun h => .inl (SqL.of h)) fun h => .inr (SqT.of h)
/-- the thing that is walked stands -/
def StandsAs (K : PySem.W.Frag) (a : Addr) (xs : List V) (J : It) (H : Hp) : Prop := (J = Itl K a ∧ SqL K H a xs) ∨ (J = Itt K a ∧ SqT K H a xs)
section
variable {X : Cx} {tg : Expr}
def iSeq (K : PySem.W.Frag) (tl : TE) : TI := fun σ H R => tl σ H fun x H1 => ∃ a xs, x = .ref a ∧ StSeq H1 a xs ∧ ∀ J, (∀ H2, Ex H1 H2 → StandsAs K a xs J H2) → R J H1
theorem pi_seq {l : Expr} {tl : TE} (hl : PE X l tl) : PI X tg l (iSeq X.K tl) := by
  refine ⟨fun pins s σ H R I h => ?_⟩
  refine thn (hl.run pins s σ H _ I h) fun v s1 ⟨x, H1, I1, r1, q1⟩ => ?_
  obtain ⟨a, xs, e, st, q⟩ := q1
  subst e
  cases r1
  have new : ∀ b ∈ [s1.heap.objs.size], FpOk X pins H1 b := fun b hb => by
    rw [List.mem_singleton.mp hb]
    exact I1.fpOk (Nat.le_refl _) (I1.hok.fresh (Nat.le_refl _))
  rcases st.or with hq | hq
  · obtain ⟨its, rv, p, hz⟩ := I1.list (SqL.of hq)
    exact wpAny_pyIter_list p.isList ⟨s1.heap.objs.size, [s1.heap.objs.size], _, _, H1, rfl, I1.kept (t' := s1.toks) fun b o e => Heap.get?_push_of_some _ e, turn_list a _, ⟨_, Heap.get?_push_size _ rfl, rfl, rfl⟩, new, q _ fun H2 e => .inl ⟨rfl, SqL.of (e.lst hq)⟩⟩
  · obtain ⟨its, rv, p, hz⟩ := I1.tuple (SqT.of hq)
    exact wpAny_pyIter_tuple (show s1.heap.IsTuple a its.toArray from p) ⟨s1.heap.objs.size, [s1.heap.objs.size], _, _, H1, rfl, I1.kept (t' := s1.toks) fun b o e => Heap.get?_push_of_some _ e, turn_tuple a _, ⟨_, Heap.get?_push_size _ rfl, rfl, rfl⟩, new, q _ fun H2 e => .inr ⟨rfl, SqT.of (e.tup hq)⟩⟩
end
theorem StandsAs.go {K : PySem.W.Frag} {a : Addr} {xs : List V} {J : It} {H : Hp} {i : Nat} {x : V} (s : StandsAs K a xs J H) (h : xs[i]? = some x) : J.go i H := by
  rcases s with ⟨rfl, q⟩ | ⟨rfl, q⟩ <;> exact ⟨xs, x, q, h⟩
theorem StandsAs.stop {K : PySem.W.Frag} {a : Addr} {xs : List V} {J : It} {H : Hp} {i : Nat} (s : StandsAs K a xs J H) (h : xs.length ≤ i) : J.stop i H := by
  rcases s with ⟨rfl, q⟩ | ⟨rfl, q⟩ <;> exact ⟨xs, q, h⟩
theorem StandsAs.yld {K : PySem.W.Frag} {a : Addr} {xs : List V} {J : It} {H H' : Hp} {i : Nat} {x : V} (s : StandsAs K a xs J H) (h : J.yld i H x H') : H' = H ∧ xs[i]? = some x := by
  rcases s with ⟨rfl, q⟩ | ⟨rfl, q⟩ <;> exact ⟨h.1, h.2 xs q⟩
theorem turn_by {α : Type} {K : PySem.W.Frag} {ad : Addr} {xs : List V} {J : It} {n0 : Nat} {g : TG} {tt : TT} {te : TE} {Out : α → V → Hp → (α → Hp → Prop) → Prop} {Fin : α → Hp → Prop} (Pv : α → Nat → Hp → Prop)
    (stands : ∀ a i H, Pv a i H → StandsAs K ad xs J H)
    (step : ∀ a i x H, xs[i]? = some x → Pv a i H → g x (nones n0) H fun σ2 H2 => tt σ2 H2 fun b H3 => if b = true then te σ2 H3 fun y H4 => Out a y H4 (fun a' H' => Pv a' (i + 1) H') else Pv a (i + 1) H3)
    (done : ∀ a H, Pv a xs.length H → Fin a H) : TurnOf J n0 g tt te Out Fin (fun a i m H => m = xs.length - i ∧ i ≤ xs.length ∧ Pv a i H) := by
  rintro a i m H ⟨rfl, hi, p⟩
  have s := stands a i H p
  by_cases hlt : i < xs.length
  · refine .inr ⟨s.go (List.getElem?_eq_getElem hlt), fun a' H' => Pv a' (i + 1) H', fun a' H' p' => ⟨xs.length - (i + 1), by omega, rfl, hlt, p'⟩, fun x H' y => ?_⟩
    obtain ⟨rfl, hx⟩ := s.yld y
    exact step a i x _ hx p
  · have e : i = xs.length := by omega
    subst e
    exact .inl ⟨s.stop (Nat.le_refl _), done a H p⟩
end CL
set_option Elab.async false
set_option linter.all false
set_option maxRecDepth 100000
set_option maxHeartbeats 4000000
namespace GE
open PySem PySem.Spec PyProof.Rows L2 GenW
open Sem (wp)
/-! ### a generator expression that uses names of the def around it -/
abbrev clC (X : Cx) (scope : Scope) : List (Str × Addr) := cloFrom X.env.cells scope.names []
abbrev ceC (X : Cx) (scope : Scope) (C : Addr) (code : Value) : Env := genEnv scope (clC X scope) C code builtinsNs X.env
structure GSf (X : Cx) (scope : Scope) : Prop where
  kind : scope.kind = .function
  co : scope.isCoroutine = false
  own : ∀ y ∈ scope.names, y.2 ≠ .cell
  dot : scope.names.lookup (".0" : Str) = some NameKind.local
  free : ∀ y ∈ scope.names, y.2 = .free → ∃ c, X.env.cells.lookup y.1 = some c
theorem GSf.cl_of {X : Cx} {scope : Scope} (S : GSf X scope) {x : Str} {c : Addr} (h : (clC X scope).lookup x = some c) : X.env.cells.lookup x = some c := by
  rcases cloFrom_mem (PySem.mem_of_lookup h) with z | ⟨h1, h2⟩
  · cases z
  · obtain ⟨c', e⟩ := S.free _ h1 rfl
    have e' : X.env.cells.lookup x = some c' := e
    rw [e'] at h2
    rw [e', h2]
    rfl
theorem GSf.has {X : Cx} {scope : Scope} (S : GSf X scope) {x : Str} (h : scope.names.lookup x = some .cell ∨ scope.names.lookup x = some .free) : ∃ c, (clC X scope).lookup x = some c := by
  rcases h with h | h
  · exact absurd rfl (S.own _ (PySem.mem_of_lookup h))
  · exact mem_lookup (cloFrom_has (PySem.mem_of_lookup h))
section
variable {X : Cx} {pins : List (Addr × Obj)} {σ : L2.St} {H : Hp} {s : Shared}

theorem ge_startC {A : Around} {N : List Str} {scope : Scope} {code : Value} {fp : List Addr} {go : Obj} {G : Array GenState} {tk : Nat} {h5 : Heap} {m0 : Str → Option Value} (I : Inv X pins σ H s) (S : GSf X scope) (hA : A.handled = none) (hf : A.frames = some X.stack)
    (hfp : ∀ b ∈ fp, FpOk X pins H b ∧ b < s.heap.objs.size) (hG : AllBare G) (hns : h5.Ns s.heap.objs.size m0) (hk : ∀ b o, s.heap.get? b = some o → h5.get? b = some o) (hgo : h5.get? (s.heap.objs.size + 1) = some go) (hgd : ∀ v, go.data ≠ .cell v) :
    Inv (gx X A N s H (ceC X scope s.heap.objs.size code) fp [(s.heap.objs.size + 1, go)]) [] (nones N.length) H { s with gens := G, toks := tk, heap := h5 } := by
  have noc : ∀ x c, (ceC X scope s.heap.objs.size code).cells.lookup x = some c → X.env.cells.lookup x = some c := fun x c e => S.cl_of e
  have stkne : ∀ b, s.heap.objs.size ≤ b → b ∉ frs X.stack := fun b hb z => by
    rcases List.mem_cons.mp (I.stkSub b z) with e | e
    · exact absurd (Nat.lt_of_lt_of_le I.lt (by rw [← e]; exact hb)) (Nat.lt_irrefl _)
    · exact I.nofs hb e
  refine ⟨⟨I.ok.mod, S.kind, I.ok.glob, rfl, Nat.le_refl _, fun x y c h1 h2 => I.ok.inj x y c (noc x c h1) (noc y c h2), fun x hx => S.has hx, fun x c h _ => (by cases h), fun _ => hA, Around.frames_deeper hf, .inr ⟨rfl, rfl⟩, fun b hb => ⟨Nat.ne_of_lt (hfp b hb).2, fun x c e => ((hfp b hb).1.2.2.2.2.1 x c (noc x c e))⟩,
    I.bs, Nat.le_trans I.ok.bsz I.sz, fun b o e hb => ?_, fun b hb z => ?_, I.stack, I.stkFree⟩, rfl, hG, Un.kept hk, ⟨m0, hns, fun i x v _ h2 _ => (nones_some h2).elim⟩, fun x c e => (I.cell x c (noc x c e)).imp fun v hv => hv.keeps hk, I.hok.fresh (Nat.le_refl _), fun x c e => I.freeC x c (noc x c e), fun p hp => ?_, I.hok.kept hk, List.length_replicate⟩
  · rcases (hfp b hb).1.2.2.2.1 with z | z
    · exact I.ok.noex b o e z
    · exact absurd (Nat.lt_of_lt_of_le (Heap.lt_size e) (Nat.le_trans I.ok.bsz z)) (Nat.lt_irrefl _)
  · rcases List.mem_cons.mp (I.stkSub b z) with e | e
    · exact (hfp b hb).1.2.1 e
    · exact (hfp b hb).1.2.2.1 e
  · have hp' : p ∈ [(s.heap.objs.size + 1, go)] := by simpa using hp
    rw [List.mem_singleton.mp hp']
    exact ⟨hgo, I.hok.fresh (Nat.le_succ _), Nat.succ_ne_self _, stkne _ (Nat.le_succ _), hgd⟩


theorem gen_makeC {c P : Addr} {elt tg iter : Expr} {ifs : List Expr} {gpos : Pos} {scope : Scope} {wi : TI} {k : Nat} {Q' : Value → Shared → Prop} {R : It → Hp → Prop}
    (hr : Room k X.A) (TB : GxR.TabB X.base X.mg c P) (hcode : X.env.code = .ref c) (S : GSf X scope) (hi : PI X tg iter wi) (hs : ∀ v, genFold iter X.env v = pure v) (I : Inv X pins σ H s) (h : wi σ H fun J H1 => GxR.TabG H1 P ∧ R J H1)
    (hQ : ∀ J H1 H2 s4 s5 code fp it tn go g, R J H1 → GxR.Tabbed P H1 H2 → Inv X pins σ H2 s4 → (∀ b ∈ fp, FpOk X pins H2 b ∧ b < s4.heap.objs.size) → Turn X.prog X.w X.K tg J fp it tn → tn 0 s5.heap →
      (∀ A N, A.handled = none → A.frames = some X.stack → Inv (gx X A N s4 H2 (ceC X scope s4.heap.objs.size code) fp [(s4.heap.objs.size + 1, go)]) [] (nones N.length) H2 s5) →
      (∀ h : Heap, h.get? (s4.heap.objs.size + 1) = some go → h.IsGen (s4.heap.objs.size + 1) g) →
      s5.gens[g]? = some (.fresh (.compStart (.GeneratorExp elt [⟨tg, iter, ifs, 0⟩] scope gpos) 0 (.ref it) .none (ceC X scope s4.heap.objs.size code))) → Q' (.ref (s4.heap.objs.size + 1)) s5) :
    wpAny (model X.prog X.w) X.A (eval (.GeneratorExp elt [⟨tg, iter, ifs, 0⟩] scope gpos) X.env) Q' X.xe s := by
  have hcl : closureFor scope X.env = pure (clC X scope) := closure_ok S.free
  refine wpAny_GeneratorExp_make S.co hcl S.own S.dot S.kind (by have := hr.dp; omega) (thn (hi.run pins s σ H _ I h) fun xv s1 hx => thn hx fun itv s2 h2 => ?_) hs
  obtain ⟨it, fp, tn, J, H1, e, I2, T, st2, f2, ⟨ps, hP, ht⟩, q1⟩ := h2
  subst e
  have hPs : s2.heap.get? P = some { cls := .none, data := .fields ps } := I2.hok P _ hP
  have cd : PySem.W.CodeHd s2.heap c P := TB.code.keeps fun b u e => I2.bk b u e
  have nfp : ∀ b ∈ fp, b ≠ P := fun b hb z => by
    have := (f2 b hb).1
    rw [z, hP] at this
    cases this
  have szf : ∀ b ∈ fp, b < s2.heap.objs.size := fun b hb => by
    obtain ⟨o, e, _⟩ := T.obj _ _ st2 b hb
    exact Heap.lt_size e
  have cont : ∀ (code : Value) (h3 : Heap) (tk : Nat) (ps' : Array Value), Heap.ExtBut P s2.heap h3 → s2.heap.objs.size ≤ h3.objs.size → h3.get? P = some { cls := .none, data := .fields ps' } → (∃ more, ps' = ps ++ more) → TriplesOk ps'.toList →
      wpAny (model X.prog X.w) X.A (builtinsFor X.env.globals X.env.builtins) (fun bi s4 =>
        ∀ h', h'.Ns s4.heap.objs.size (fun y => if y = ".0" then some (.ref it) else none) → Heap.SameBut s4.heap.objs.size (s4.heap.push { cls := .type "frame", data := .dict #[] }) h' →
          Q' (.ref h'.objs.size) { s4 with
            gens := s4.gens.push (.fresh (.compStart (.GeneratorExp elt [⟨tg, iter, ifs, 0⟩] scope gpos) 0 (.ref it) .none (genEnv scope (clC X scope) s4.heap.objs.size code bi X.env))),
            toks := s4.toks + 1 + 1 + 1,
            heap := h'.push { cls := .type "generator", data := .fields #[.int s4.gens.size 0, .str "<genexpr>" (s4.toks + 1), .str (X.env.qual ++ "<genexpr>") (s4.toks + 1 + 1)] } }) X.xe { s2 with heap := h3, toks := tk } := by
    intro code h3 tk ps' hx hsz hP3 hmore ht3
    obtain ⟨bm, ob, e1, e2, e3, e4, e5, e6, e7, e8⟩ := TB.bm
    obtain ⟨more, rfl⟩ := hmore
    have I3 : Inv X pins σ (upd H1 P (.tbl (ps ++ more))) { s2 with heap := h3, toks := tk } := GxR.inv_tab (more := more) (g' := s2.gens) (d' := s2.drawn) I2 hP (fun b u hb e => hx b u hb e) hP3 I2.bare
    have tab : GxR.Tabbed P H1 (upd H1 P (.tbl (ps ++ more))) := ⟨⟨_, upd_same, ht3⟩, fun b hb => upd_ne hb⟩
    have st3 : tn 0 h3 := T.keep _ _ _ st2 fun b hb o e => hx b o (nfp b hb) e
    have f3 : ∀ b ∈ fp, FpOk X pins (upd H1 P (.tbl (ps ++ more))) b ∧ b < h3.objs.size := fun b hb =>
      ⟨⟨by rw [upd_ne (nfp b hb)]; exact (f2 b hb).1, (f2 b hb).2⟩, Nat.lt_of_lt_of_le (szf b hb) hsz⟩
    refine wpAny_builtinsFor (m := X.mg) (by rw [I3.ok.glob]; exact I3.mod.glob.keeps I3.bk) e1 e2 (I3.bk _ _ e5) e6 e7 e8 ?_
    intro h' hns hsb
    have hsz' : h'.objs.size = h3.objs.size + 1 := by rw [hsb.1, Heap.size_push]
    have keep' : ∀ b o, h3.get? b = some o → h'.get? b = some o := fun b o e => hsb.extBut b o (Nat.ne_of_lt (Heap.lt_size e)) (Heap.get?_push_of_some _ e)
    have main : ∀ (go : Obj), go.cls = .type "generator" → (∃ nm qn, go.data = .fields #[.int s2.gens.size 0, nm, qn]) → go.slots = #[] → (∀ h : Heap, (h.push go).get? h.objs.size = some go) → ∀ t',
        Q' (.ref h'.objs.size) { s2 with heap := h'.push go, toks := t', gens := s2.gens.push (.fresh (.compStart (.GeneratorExp elt [⟨tg, iter, ifs, 0⟩] scope gpos) 0 (.ref it) .none (genEnv scope (clC X scope) h3.objs.size code builtinsNs X.env))) } := by
      intro go gc ⟨nm, qn, gd⟩ gsl gp t'
      have hgp := gp h'
      rw [hsz'] at hgp ⊢
      have keep5 : ∀ b o, h3.get? b = some o → (h'.push go).get? b = some o := fun b o e => Heap.get?_push_of_some _ (keep' b o e)
      refine hQ J H1 (upd H1 P (.tbl (ps ++ more))) { s2 with heap := h3, toks := tk } _ code fp it tn go s2.gens.size q1 tab I3 f3 T (T.keep _ _ _ st3 fun b _ o e => keep5 b o e) (fun A N hA hf => ?_) (fun h e => ⟨go, nm, qn, e, gc, gd, gsl⟩) (Array.getElem?_push_size ..)
      exact ge_startC (s := { s2 with heap := h3, toks := tk }) I3 S hA hf f3 (I2.bare.push rfl) (hns.push _) keep5 hgp (fun v z => by rw [gd] at z; cases z)
    exact main _ rfl ⟨_, _, rfl⟩ rfl (fun h => Heap.get?_push_size _ rfl) _
  refine ⟨I2.nolimit, ?_⟩
  cases hf : codeAmong gpos ps.toList with
  | none =>
    refine wpAny_genexprCodeX hcode (cd.code hPs ht) (cd.tab hPs) hf fun c' h' tk hx hge hlt hco' _ htab' _ => ?_
    obtain ⟨o1, vs, f1, tf, fl, tg', inF, tx, tt, op, _, _, _, _, _, _, _, _, _, htr, _⟩ := hco'
    exact cont _ h' tk _ hx (Nat.le_trans hge (Nat.le_of_lt hlt)) htab'.2 ⟨_, rfl⟩ htr
  | some cv =>
    refine wpAny_genexprCode_hit hcode (cd.code hPs ht) hf ?_
    exact cont cv s2.heap s2.toks ps (Heap.ExtBut.refl _ _) (Nat.le_refl _) hPs ⟨#[], by simp⟩ ht



theorem pe_allC {N : List Str} {c P : Addr} {elt tg iter : Expr} {ifs : List Expr} {p pos gpos : Pos} {scope : Scope} {wi : TI} {g : TG} {tt : TT} {te : TE} {k : Nat}
    (hr : Room (k + 1) X.A) (hgl : Gl X "all") (hm : X.mg "all" = none) (TB : GxR.TabB X.base X.mg c P) (hcode : X.env.code = .ref c) (S : GSf X scope) (hi : PI X tg iter wi)
    (hg : ∀ (A : Around) (s : Shared) (H : Hp) (C : Addr) (code : Value) (fp : List Addr) (pn : List (Addr × Obj)), Room k (A.deeper (ceC X scope C code)) → PG (gx X A N s H (ceC X scope C code) fp pn) tg g)
    (ht : ∀ (A : Around) (s : Shared) (H : Hp) (C : Addr) (code : Value) (fp : List Addr) (pn : List (Addr × Obj)), Room k (A.deeper (ceC X scope C code)) → PTs (gx X A N s H (ceC X scope C code) fp pn) ifs tt)
    (he : ∀ (A : Around) (s : Shared) (H : Hp) (C : Addr) (code : Value) (fp : List Addr) (pn : List (Addr × Obj)), Room k (A.deeper (ceC X scope C code)) → PE (gx X A N s H (ceC X scope C code) fp pn) elt te)
    (hs : ∀ v, genFold iter X.env v = pure v := by intro _; rfl)
    (hb : bootBuiltins "all" = some (.builtin "all") := by decide +kernel)
    (hst : starEach [.GeneratorExp elt [⟨tg, iter, ifs, 0⟩] scope gpos] X.env = (false, eval (.GeneratorExp elt [⟨tg, iter, ifs, 0⟩] scope gpos) X.env) :: starEach [] X.env := by rfl) :
    PE X (.Call (.Name "all" p) [.GeneratorExp elt [⟨tg, iter, ifs, 0⟩] scope gpos] [] pos) (tGen P N.length wi g tt te outAll true) := by
  refine ⟨fun pins s σ H Q I h => ?_⟩
  refine wpAny_Call_Name_kw (ld_blt I hgl hm hb ?_)
  refine PyProof.Rows.callWith_builtin1 ?_ hst (by rfl)
  rw [hst]
  show wpAny _ _ (spliced ((false, eval (.GeneratorExp elt [⟨tg, iter, ifs, 0⟩] scope gpos) X.env) :: backTo pos (starEach [] X.env))) _ _ s
  refine Calls.spliced_cons (gen_makeC hr TB hcode S hi hs I h fun J H1 H2 s4 s5 code fp it tn go gn hR tab I4 f4 T st5 mk hgo hgs => ?_)
  refine Calls.spliced_nil ?_
  obtain ⟨W, ⟨m0, w0⟩, turn⟩ := hR H2 tab
  have rY := room3 hr (ceC X scope s4.heap.objs.size code)
  have I5 := mk X.A.in1.in1 N hr.hd I.ok.frames
  generalize hpn : [(s4.heap.objs.size + 1, go)] = pn at I5
  have hpm : (s4.heap.objs.size + 1, go) ∈ pn := by rw [← hpn]; exact List.mem_singleton.mpr rfl
  have hpf : ∀ p ∈ pn, p.1 ∉ fp := fun p hp z => by
    rw [← hpn] at hp
    rw [List.mem_singleton.mp hp] at z
    exact absurd (f4 _ z).2 (Nat.not_lt.mpr (Nat.le_succ _))
  have gi0 : GI (gx X X.A.in1.in1 N s4 H2 (ceC X scope s4.heap.objs.size code) fp pn) conU fp tn () 0 H2 s5 := ⟨I5, trivial, st5, fun b hb => (f4 b hb).1.1⟩
  have isg := hgo _ (I5.pin _ (List.mem_append_left _ hpm)).1
  refine call_function_tree F.kind_all F.plain_all F.entry_all (F.args_all1 _) ?_
  unfold Builtin.«all»
  refine wpAny_bind (m := oneArg "all" _) (wpAny_pure ?_)
  refine wpAny_bind (wpAny_pyIter_gen isg ?_)
  refine wpAny_pure ⟨plainId_quiet F.plain_all_loop _, ?_⟩
  refine all_loop (Y := gx X X.A.in1.in1 N s4 H2 (ceC X scope s4.heap.objs.size code) fp pn) (A := X.A) (g := gn) (QB := fun b H => Q (.bl b) H) hr.hd hr.depth hpm hgo (fun b s' H' I' q => ?_) (m0 + 1) 0 H2 (fun a H => W a 0 m0 H) s5 _ hgs gi0 w0 (fun a' s'' gi' w' => ?_)
  · exact ⟨.bl b, H', ge_back I4 f4 I', rfl, q⟩
  · exact ⟨rfl, seg_start (Y := gx X X.A.in1.in1 N s4 H2 (ceC X scope s4.heap.objs.size code) fp pn) conU_ok rfl T (hg _ _ _ _ _ _ _ rY) (ht _ _ _ _ _ _ _ rY) (he _ _ _ _ _ _ _ rY) rfl (fun b hb => hb) (fun b hb => nomatch hb) hpf rfl S.co turn m0 a' (m0 + 1) H2 s'' (Nat.lt_succ_self _) w' gi'⟩
end
end GE
set_option Elab.async false
set_option linter.all false
set_option maxRecDepth 100000
set_option maxHeartbeats 1000000
namespace GV
open PySem PySem.Spec PyProof.Rows L2 GenW GE
open Sem (wp)
/-! ### a generator expression that reads names of the def around it: ζ holds their values -/
def Keeps (ζ σ : L2.St) : Prop := ∀ (j : Nat) (v : V), ζ[j]? = some (some v) → σ[j]? = some (some v)
section
variable {α : Type}
def GI (ζ : L2.St) (Y : Cx) (C : Con α) (fpI : List Addr) (tn : Nat → Heap → Prop) (a : α) (i : Nat) (H : Hp) (s : Shared) : Prop :=
  Inv Y (pinsAt C.fp s.heap) (ζ) H s ∧ C.at_ a s.heap ∧ tn i s.heap ∧ ∀ b ∈ fpI, H b = none
def GP (ζ : L2.St) (Y : Cx) (C : Con α) (fpI : List Addr) (tn : Nat → Heap → Prop) (Out : α → V → Hp → (α → Hp → Prop) → Prop) : Protocol := fun _ s₀ v s kap =>
  ∃ a i H y Nx, RelV y v ∧ GI ζ Y C fpI tn a i H s ∧ Out a y H Nx ∧ (∀ b ∈ C.fp, ∀ o, s₀.heap.get? b = some o → s.heap.get? b = some o) ∧ ∀ a' s'', GI ζ Y C fpI tn a' i H s'' → Nx a' H → kap (.send .none) s''
def GF (ζ : L2.St) (Y : Cx) (C : Con α) (Fin : α → Hp → Prop) : Nat → Shared → Shared → Prop := fun _ s₀ s₁ =>
  ∃ a H, Inv Y (pinsAt C.fp s₁.heap) (ζ) H s₁ ∧ C.at_ a s₁.heap ∧ (∀ b ∈ C.fp, ∀ o, s₀.heap.get? b = some o → s₁.heap.get? b = some o) ∧ Fin a H
abbrev GRr (ζ : L2.St) (Y : Cx) (C : Con α) (Fin : α → Hp → Prop) : GenEnd := fun n s₀ r s₁ => r = .ok .next ∧ GF ζ Y C Fin n s₀ s₁
def TurnV (J : It) (ζ : L2.St) (g : TG) (tt : TT) (te : TE) (Out : α → V → Hp → (α → Hp → Prop) → Prop) (Fin : α → Hp → Prop) (W : α → Nat → Nat → Hp → Prop) : Prop :=
  ∀ a i m H, W a i m H → (J.stop i H ∧ Fin a H) ∨ (J.go i H ∧ ∃ Nx : α → Hp → Prop, (∀ a' H', Nx a' H' → ∃ m', m' < m ∧ W a' (i + 1) m' H') ∧
    ∀ x H', J.yld i H x H' → g x ζ H' fun σ2 H2 => Keeps ζ σ2 ∧ tt σ2 H2 fun b H3 => if b = true then te σ2 H3 fun y H4 => Out a y H4 Nx else Nx a H3)

section
variable {ζ : L2.St} {Y : Cx} {C : Con α} {tg elt iter : Expr} {ifs : List Expr} {scope : Scope} {pos : Pos} {J : It} {fpI : List Addr} {it : Addr} {tn : Nat → Heap → Prop} {g : TG} {tt : TT} {te : TE}
  {Out : α → V → Hp → (α → Hp → Prop) → Prop} {Fin : α → Hp → Prop} {W : α → Nat → Nat → Hp → Prop} {A : Around}
/-- the loop of a generator expression -/
theorem seg_loop (CO : ConOk C) (hcalm : Y.calm = true) (T : Turn Y.prog Y.w Y.K tg J fpI it tn) (hg : PG Y tg g) (ht : PTs Y ifs tt) (he : PE Y elt te) (hA : A.deeper Y.env = Y.A)
    (hex : ∀ b ∈ fpI, b ∈ Y.ex) (hdis : ∀ b ∈ C.fp, b ∉ fpI) (hpn : ∀ p ∈ Y.pn, p.1 ∉ fpI) (hxe : Y.xe = fun _ _ => False) (hco : Y.env.scope.isCoroutine = false) (hz : ζ.length = Y.N.length) (turn : TurnV J ζ g tt te Out Fin W) :
    ∀ (m : Nat) (a : α) (i n : Nat) (H : Hp) (s₀ s : Shared), m < n → W a i m H → GI ζ Y C fpI tn a i H s → (∀ b ∈ C.fp, ∀ o, s₀.heap.get? b = some o → s.heap.get? b = some o) →
      Seg (model Y.prog Y.w) A (GRr ζ Y C Fin) (GP ζ Y C fpI tn Out) n s₀ (.compLoop (.GeneratorExp elt [⟨tg, iter, ifs, 0⟩] scope pos) 0 (.ref it) .none Y.env)
        ((model Y.prog Y.w).den (.compLoop (.GeneratorExp elt [⟨tg, iter, ifs, 0⟩] scope pos) 0 (.ref it) .none Y.env)) [] s := by
  have ov : A.over (.compLoop (.GeneratorExp elt [⟨tg, iter, ifs, 0⟩] scope pos) 0 (.ref it) .none Y.env) [] = Y.A := over_loopG.trans hA
  have stat : ∀ {pins : List (Addr × Obj)} {σ' : L2.St} {H' : Hp} {s' : Shared}, Inv Y pins σ' H' s' → (∀ p ∈ pins, p.1 ∉ fpI) → (∀ b ∈ fpI, H' b = none) → ∀ b ∈ fpI, FpOk Y pins H' b := fun {pins σ' H' s'} I' hp hn b hb =>
    ⟨hn b hb, (I'.ok.exf b (hex b hb)).1, I'.ok.exfs b (hex b hb), .inl (hex b hb), fun x c e => (I'.ok.exf b (hex b hb)).2 x c e, fun p hp' z => (List.mem_append.mp hp').elim (fun q => hpn p q (z ▸ hb)) fun q => hp p q (z ▸ hb)⟩
  have pinN : ∀ h : Heap, ∀ p ∈ pinsAt C.fp h, p.1 ∉ fpI := fun h p hp => hdis p.1 (of_pinsAt hp).1
  intro m
  induction m using Nat.strongRecOn with
  | ind m ih =>
    intro a i n H s₀ s hmn hw hGI since
    obtain ⟨I, hat, st, hn0⟩ := hGI
    show Seg _ A _ _ n s₀ _ ((compTurn (.GeneratorExp elt [⟨tg, iter, ifs, 0⟩] scope pos) 0 (.ref it) .none Y.env).onRaise (leaving Y.env)) [] s
    rw [compTurn_gen, Sem.onRaise_eq_wrap]
    refine seg_bind_wrap (wpAny_standAt ?_)
    have sf := stat I (pinN s.heap) hn0
    rcases turn a i m H hw with ⟨stop, fin⟩ | ⟨go, Nx, hNx, step⟩
    · refine seg_bind_wrap ?_
      rw [ov]
      refine thnF (T.done Y rfl rfl rfl hcalm i _ s _ H (fun _ _ => False) I sf st stop) fun r s1 ⟨hr, I1⟩ => ?_
      subst hr
      have hk : ∀ b ∈ C.fp, ∀ o, s.heap.get? b = some o → s1.heap.get? b = some o := fun b hb o e => (I1.pin (b, o) (List.mem_append_right _ (mem_pinsAt hb e))).1
      refine seg_end (.ok .next) ⟨rfl, a, H, I1.pins_of fun p hp => ?_, CO.keep _ _ _ hat hk, fun b hb o e => hk b hb o (since b hb o e), fin⟩
      obtain ⟨hb, e⟩ := of_pinsAt hp
      obtain ⟨o, e2, _⟩ := CO.obj _ _ hat p.1 hb
      have e3 := hk p.1 hb o e2
      rw [e] at e3
      cases e3
      exact I1.pin (p.1, p.2) (List.mem_append_right _ (mem_pinsAt hb e2))
    · refine seg_bind_wrap ?_
      rw [ov]
      refine thnF (T.item Y rfl rfl rfl hcalm i _ s _ H (fun _ _ => False) I sf st go) fun r s1 ⟨u, hr, h1⟩ => ?_
      subst hr
      refine seg_bind_wrap ?_
      rw [ov]
      refine thnF h1 fun _ s2 ⟨x, H2, I2, r2, y2, st2, n2⟩ => ?_
      have I2' := I2.pinned (stat I2 (pinN s.heap) n2) (T.obj _ _ st2)
      refine seg_bind_wrap ?_
      rw [ov]
      have xf : ∀ {β : Type} {t : Sem β} {P P' : β → Shared → Prop} {E' : Value → Shared → Prop} {z : Shared}, wpAny (model Y.prog Y.w) Y.A t P Y.xe z → (∀ a s, P a s → P' a s) → wpAny (model Y.prog Y.w) Y.A t P' E' z := fun {β t P P' E' z} q hq => by
        rw [hxe] at q
        exact thnF q hq
      refine xf (hg.run _ s2 _ H2 x u _ I2' r2 (step x H2 y2)) fun _ s3 ⟨σ3, H3, I3, kz, q3⟩ => ?_
      refine seg_bind_wrap ?_
      rw [ov]
      refine xf (ht.run _ s3 σ3 H3 _ I3 q3) fun ok s4 ⟨H4, I4, q4⟩ => ?_
      -- what stands at a turn's end
      have fin : ∀ {s' : Shared} {H' : Hp}, Inv Y (pinsAt C.fp s.heap ++ pinsAt fpI s2.heap) σ3 H' s' →
          GI ζ Y C fpI tn a (i + 1) H' s' ∧ ∀ b ∈ C.fp, ∀ o, s₀.heap.get? b = some o → s'.heap.get? b = some o := fun {s' H'} I' => by
        have hk : ∀ b ∈ C.fp, ∀ o, s.heap.get? b = some o → s'.heap.get? b = some o := fun b hb o e => (I'.pin (b, o) (List.mem_append_right _ (List.mem_append_left _ (mem_pinsAt hb e)))).1
        have pin' : ∀ b ∈ fpI, ∀ o, s2.heap.get? b = some o → s'.heap.get? b = some o ∧ H' b = none := fun b hb o e =>
          let z := I'.pin (b, o) (List.mem_append_right _ (List.mem_append_right _ (mem_pinsAt hb e)))
          ⟨z.1, z.2.1⟩
        have I1 : Inv Y (pinsAt C.fp s'.heap) σ3 H' s' := I'.pins_of fun p hp => by
          obtain ⟨hb, e⟩ := of_pinsAt hp
          obtain ⟨o, e2, _⟩ := CO.obj _ _ hat p.1 hb
          have e3 := hk p.1 hb o e2
          rw [e] at e3
          cases e3
          exact I'.pin (p.1, p.2) (List.mem_append_right _ (List.mem_append_left _ (mem_pinsAt hb e2)))
        refine ⟨⟨I1.weak (by rw [I1.len, hz]) kz, CO.keep _ _ _ hat hk, T.keep _ _ _ st2 fun b hb o e => (pin' b hb o e).1, fun b hb => ?_⟩, fun b hb o e => hk b hb o (since b hb o e)⟩
        obtain ⟨o, e, _⟩ := T.obj _ _ st2 b hb
        exact (pin' b hb o e).2
      cases ok with
      | false =>
        simp only [Bool.false_eq_true, if_false] at q4 ⊢
        obtain ⟨f1, f2⟩ := fin I4
        obtain ⟨m', hm', w'⟩ := hNx a H4 q4
        exact seg_again rfl (ih m' hm' a (i + 1) n H4 s₀ s4 (by omega) w' f1 f2)
      | true =>
        simp only [if_true] at q4 ⊢
        obtain ⟨n', rfl⟩ : ∃ n', n = n' + 1 := ⟨n - 1, by omega⟩
        have hy : ∀ v, yieldOut Y.env v = yieldValue v := fun v => by simp only [yieldOut, hco, Bool.false_eq_true, if_false]
        simp only [hy]
        rw [Sem.bind_eq_wrap', Sem.bind_eq_wrap', Sem.wrap_wrap, Sem.wrap_wrap]
        refine seg_wrap ?_
        rw [ov]
        refine xf (he.run _ s4 σ3 H4 _ I4 q4) fun y s5 ⟨yv, H5, I5, r5, o5⟩ => ?_
        obtain ⟨f1, f2⟩ := fin I5
        refine seg_at (seg_yield rfl rfl rfl ⟨a, i + 1, H5, yv, Nx, r5, f1, o5, f2, fun a' s'' hGI' hN' => ?_⟩)
        obtain ⟨m', hm', w'⟩ := hNx a' H5 hN'
        exact seg_again rfl (ih m' hm' a' (i + 1) n' H5 s'' s'' (by omega) w' hGI' fun _ _ _ e => e)

/-- .. and its start -/
theorem seg_start (CO : ConOk C) (hcalm : Y.calm = true) (T : Turn Y.prog Y.w Y.K tg J fpI it tn) (hg : PG Y tg g) (ht : PTs Y ifs tt) (he : PE Y elt te) (hA : A.deeper Y.env = Y.A)
    (hex : ∀ b ∈ fpI, b ∈ Y.ex) (hdis : ∀ b ∈ C.fp, b ∉ fpI) (hpn : ∀ p ∈ Y.pn, p.1 ∉ fpI) (hxe : Y.xe = fun _ _ => False) (hco : Y.env.scope.isCoroutine = false) (hz : ζ.length = Y.N.length) (turn : TurnV J ζ g tt te Out Fin W)
    (m : Nat) (a : α) (n : Nat) (H : Hp) (s : Shared) (hm : m < n) (hw : W a 0 m H) (hGI : GI ζ Y C fpI tn a 0 H s) :
      Seg (model Y.prog Y.w) A (GRr ζ Y C Fin) (GP ζ Y C fpI tn Out) n s (.compStart (.GeneratorExp elt [⟨tg, iter, ifs, 0⟩] scope pos) 0 (.ref it) .none Y.env)
        ((model Y.prog Y.w).den (.compStart (.GeneratorExp elt [⟨tg, iter, ifs, 0⟩] scope pos) 0 (.ref it) .none Y.env)) [] s := by
  have loop := seg_loop (iter := iter) (scope := scope) (pos := pos) CO hcalm T hg ht he hA hex hdis hpn hxe hco hz turn m a 0 n H s s hm hw hGI fun _ _ _ e => e
  show Seg _ A _ _ _ s _ ((compStart (.GeneratorExp elt [⟨tg, iter, ifs, 0⟩] scope pos) 0 (.ref it) .none Y.env).onRaise (leaving Y.env)) [] s
  unfold compStart
  rw [Sem.onRaise_eq_wrap]
  show Seg _ A _ _ _ s _ ((ask >>= _).wrap _ _ _ _) [] s
  refine seg_bind_wrap (wpAny_askSetting ?_)
  split
  · exact seg_again rfl loop
  · first
      | exact seg_bind_wrap (wpAny_rule (seg_bind_wrap (wpAny_standAt (seg_bind_wrap (T.self _ 0 s _ _ hGI.2.2.1 (seg_again rfl loop))))))
      | (refine seg_bind_wrap (wpAny_rule ?_); show Seg _ A _ _ _ s _ ((standAt iter.pos >>= _).wrap _ _ _ _) [] s; exact seg_bind_wrap (wpAny_standAt (seg_bind_wrap (T.self _ 0 s _ _ hGI.2.2.1 (seg_again rfl loop)))))

/-- one item of such a generator -/
theorem next_ge {A : Around} {ga : Addr} {go : Obj} {g i n : Nat} {gs : GenState} {a : α} {H : Hp} {Nx : α → Hp → Prop} {s : Shared} {Q : Option Value → Shared → Prop} {E : Value → Shared → Prop}
    (CO : ConOk C) (hh : A.handled = none) (hd : A.depth < recursionLimit) (hpn : (ga, go) ∈ Y.pn) (hgo : ∀ h : Heap, h.get? ga = some go → h.IsGen ga g) (hgs : s.gens[g]? = some gs)
    (gi : GI ζ Y C fpI tn a i H s) (hN : Nx a H)
    (goes : ∀ a' s'', GI ζ Y C fpI tn a' i H s'' → Nx a' H → gs.Goes (model Y.prog Y.w) A.in1 (GRr ζ Y C Fin) (GP ζ Y C fpI tn Out) n (.send .none) s'')
    (hsome : ∀ i1 H1 y v Nx1 s1 gs1, RelV y v → GI ζ Y C fpI tn a i1 H1 s1 → Out a y H1 Nx1 → s1.gens[g]? = some gs1 →
      GoOn (model Y.prog Y.w) A.in1 (GRr ζ Y C Fin) (GP ζ Y C fpI tn Out) (fun a' s'' => GI ζ Y C fpI tn a' i1 H1 s'') (fun a' => Nx1 a' H1) gs1 n → Q (some v) s1)
    (hnone : ∀ H1 s1, Inv Y (pinsAt C.fp s1.heap) (ζ) H1 s1 → C.at_ a s1.heap → Fin a H1 → Q none s1) :
    wpAny (model Y.prog Y.w) A (pyNext (.ref ga)) Q E s := by
  obtain ⟨I, hat, st, hn0⟩ := id gi
  have hlt : g < s.gens.size := by
    rcases Nat.lt_or_ge g s.gens.size with h' | h'
    · exact h'
    · rw [Array.getElem?_eq_none h'] at hgs; cases hgs
  refine wpAny_gsz (n := g + 1) hlt ?_
  have gi' : GI ζ Y C fpI tn a i H (s.setGen g .running) := ⟨Inv.gensG I (bare_setGen I.bare rfl), hat, st, hn0⟩
  have hig : s.heap.IsGen ga g := hgo _ (I.pin (ga, go) (List.mem_append_left _ hpn)).1
  refine wpAny_pyNext_genexpQ (P := GF ζ Y C Fin) (Y := GP ζ Y C fpI tn Out) hh I.nolimit hd hig hgs (goes a _ gi' hN) (fun v s1 gs1 hb hv => ?_) (fun s1 hp h' hk => ?_)
  · obtain ⟨a1, i1, H1, y, Nx1, rv, gi1, o1, since, kap⟩ := hv
    have hat1 : C.at_ a s1.heap := CO.keep _ _ _ hat since
    have ea : a1 = a := CO.inj _ _ _ gi1.2.1 hat1
    subst ea
    intro hsz
    have hlt1 : g < s1.gens.size := by
      rw [setGen_size] at hsz
      exact hsz
    have gi2 : GI ζ Y C fpI tn a1 i1 H1 (s1.setGen g gs1) := ⟨Inv.gensG gi1.1 (bare_setGen gi1.1.bare hb), gi1.2.1, gi1.2.2.1, gi1.2.2.2⟩
    refine hsome i1 H1 y v Nx1 _ gs1 rv gi2 o1 (by simp [Shared.setGen, hlt1]) ?_
    cases n with
    | zero => exact fun a' s'' q1 q2 => kap a' s'' q1 q2
    | succ n1 => exact fun a' s'' q1 q2 => kap a' s'' q1 q2
  · obtain ⟨a1, H1, I1, hat1, since, fin⟩ := hp
    have ea : a1 = a := CO.inj _ _ _ hat1 (CO.keep _ _ _ hat since)
    subst ea
    intro _
    have I2 : Inv Y (pinsAt C.fp s1.heap) (ζ) H1 { s1.setGen g .finished with heap := h' } := (Inv.gensG I1 (bare_setGen (x := .finished) (g := g) I1.bare rfl)).kept (t' := s1.toks) hk
    exact hnone H1 _ (GE.repin CO hat1 I2 fun b _ o e => hk b o e) (CO.keep _ _ _ hat1 fun b _ o e => hk b o e) fin
end
end

section
variable {ζ : L2.St} {Y : Cx} {fpI : List Addr} {tn : Nat → Heap → Prop}
theorem all_loop {A : Around} {ga : Addr} {go : Obj} {g : Nat} {QB : Bool → Hp → Prop} {R : Result → Shared → Prop} (hh : A.handled = none) (hd : A.depth < recursionLimit) (hpn : (ga, go) ∈ Y.pn) (hgo : ∀ h : Heap, h.get? ga = some go → h.IsGen ga g)
    (hR : ∀ b s' H', Inv Y [] (ζ) H' s' → QB b H' → R (.ok (.ret (.bool b))) s') :
    ∀ (n i : Nat) (H : Hp) (Nx : Unit → Hp → Prop) (s : Shared) (gs : GenState), s.gens[g]? = some gs → GI ζ Y conU fpI tn () i H s → Nx () H →
      (∀ a' s'', GI ζ Y conU fpI tn a' i H s'' → Nx a' H → gs.Goes (model Y.prog Y.w) A.in1.in1 (GRr ζ Y conU fun _ H => QB true H) (GP ζ Y conU fpI tn (outAll QB)) n (.send .none) s'') →
      codeAny (model Y.prog Y.w) A (.builtin "all.loop" ⟨[.ref ga], []⟩) R s := by
  intro n
  induction n with
  | zero =>
    intro i H Nx s gs hgs gi hN goes
    refine codeAny_builtin F.entry_all_loop ?_
    rw [Around.under_plainId F.plain_all_loop _]
    show wpAny _ A.in1 (pyNext (.ref ga) >>= _) _ _ s
    refine wpAny_bind (next_ge (A := A.in1) conU_ok hh hd hpn hgo hgs gi hN goes (fun i1 H1 y v Nx1 s1 gs1 rv gi1 o1 hg1 go1 => ?_) (fun H1 s1 I1 _ fin => ?_))
    · obtain ⟨c, rfl, hc⟩ := o1
      cases (show v = Value.bool c from rv)
      refine wpAny_bind (wpAny_holding (wpAny_truthy_bool ?_))
      refine wpAny_bind (wpAny_letGo ?_)
      cases c with
      | true => exact (go1 () s1 gi1 hc).elim
      | false =>
        simp only [Bool.false_eq_true, if_false]
        exact wpAny_bind (wpAny_rule (wpAny_pure (hR false s1 H1 gi1.1 hc)))
    · exact wpAny_bind (wpAny_rule (wpAny_pure (hR true s1 H1 I1 fin)))
  | succ n ih =>
    intro i H Nx s gs hgs gi hN goes
    refine codeAny_builtin F.entry_all_loop ?_
    rw [Around.under_plainId F.plain_all_loop _]
    show wpAny _ A.in1 (pyNext (.ref ga) >>= _) _ _ s
    refine wpAny_bind (next_ge (A := A.in1) conU_ok hh hd hpn hgo hgs gi hN goes (fun i1 H1 y v Nx1 s1 gs1 rv gi1 o1 hg1 go1 => ?_) (fun H1 s1 I1 _ fin => ?_))
    · obtain ⟨c, rfl, hc⟩ := o1
      cases (show v = Value.bool c from rv)
      refine wpAny_bind (wpAny_holding (wpAny_truthy_bool ?_))
      refine wpAny_bind (wpAny_letGo ?_)
      cases c with
      | true =>
        simp only [if_true]
        exact wpAny_pure ⟨plainId_quiet F.plain_all_loop _, ih i1 H1 Nx1 s1 gs1 hg1 gi1 hc go1⟩
      | false =>
        simp only [Bool.false_eq_true, if_false]
        exact wpAny_bind (wpAny_rule (wpAny_pure (hR false s1 H1 gi1.1 hc)))
    · exact wpAny_bind (wpAny_rule (wpAny_pure (hR true s1 H1 I1 fin)))
end
section
variable {X : Cx} {pins : List (Addr × Obj)} {σ : L2.St} {H : Hp} {s : Shared}

/-- what is read in it of the def's own names -/
structure Capt (X : Cx) (scope : Scope) (N : List Str) (caps : List (Option Nat)) : Prop where
  len : caps.length = N.length
  at_ : ∀ (i k : Nat), caps[i]? = some (some k) → ∃ (x : Str) (c : Addr), N[i]? = some x ∧ X.N[k]? = some x ∧ scope.names.lookup x = some .free ∧ (X.env.kindOf x = some .cell ∨ X.env.kindOf x = some .free) ∧ X.env.cells.lookup x = some c ∧ (clC X scope).lookup x = some c
def zet (caps : List (Option Nat)) (σ : L2.St) : L2.St := caps.map fun o => o.bind fun k => (σ[k]?).join
theorem zet_at {caps : List (Option Nat)} {σ : L2.St} {i : Nat} {v : V} (h : (zet caps σ)[i]? = some (some v)) : ∃ k, caps[i]? = some (some k) ∧ σ[k]? = some (some v) := by
  unfold zet at h
  rw [List.getElem?_map] at h
  cases e : caps[i]? with
  | none => rw [e] at h; cases h
  | some o =>
    rw [e] at h
    cases o with
    | none => simp at h
    | some k =>
      refine ⟨k, rfl, ?_⟩
      simp at h
      cases e2 : σ[k]? with
      | none => rw [e2] at h; simp at h
      | some w => rw [e2] at h; simp at h; rw [h]
theorem ge_startV {caps : List (Option Nat)} {A : Around} {N : List Str} {scope : Scope} {code : Value} {fp : List Addr} {go : Obj} {G : Array GenState} {tk : Nat} {h5 : Heap} {m0 : Str → Option Value} (I : Inv X pins σ H s) (S : GSf X scope) (cp : Capt X scope N caps) (hA : A.handled = none) (hf : A.frames = some X.stack)
    (hfp : ∀ b ∈ fp, FpOk X pins H b ∧ b < s.heap.objs.size) (hG : AllBare G) (hns : h5.Ns s.heap.objs.size m0) (hk : ∀ b o, s.heap.get? b = some o → h5.get? b = some o) (hgo : h5.get? (s.heap.objs.size + 1) = some go) (hgd : ∀ v, go.data ≠ .cell v) :
    Inv (gx X A N s H (ceC X scope s.heap.objs.size code) fp [(s.heap.objs.size + 1, go)]) [] (zet caps σ) H { s with gens := G, toks := tk, heap := h5 } := by
  have noc : ∀ x c, (ceC X scope s.heap.objs.size code).cells.lookup x = some c → X.env.cells.lookup x = some c := fun x c e => S.cl_of e
  have stkne : ∀ b, s.heap.objs.size ≤ b → b ∉ frs X.stack := fun b hb z => by
    rcases List.mem_cons.mp (I.stkSub b z) with e | e
    · exact absurd (Nat.lt_of_lt_of_le I.lt (by rw [← e]; exact hb)) (Nat.lt_irrefl _)
    · exact I.nofs hb e
  refine ⟨⟨I.ok.mod, S.kind, I.ok.glob, rfl, Nat.le_refl _, fun x y c h1 h2 => I.ok.inj x y c (noc x c h1) (noc y c h2), fun x hx => S.has hx, fun x c h _ => (by cases h), fun _ => hA, Around.frames_deeper hf, .inr ⟨rfl, rfl⟩, fun b hb => ⟨Nat.ne_of_lt (hfp b hb).2, fun x c e => ((hfp b hb).1.2.2.2.2.1 x c (noc x c e))⟩,
    I.bs, Nat.le_trans I.ok.bsz I.sz, fun b o e hb => ?_, fun b hb z => ?_, I.stack, I.stkFree⟩, rfl, hG, Un.kept hk, ⟨m0, hns, fun i x v h1 h2 _ => by
      obtain ⟨k, hk1, hk2⟩ := zet_at h2
      obtain ⟨x', c, e1, e2, e3, e4, e5, e6⟩ := cp.at_ i k hk1
      have e1' := e1.symm.trans h1
      cases e1'
      obtain ⟨m1, _, look⟩ := I.loc
      obtain ⟨u, ru, lk⟩ := look k x v e2 hk2 (e4.elim (fun z => .inr (.inl z)) fun z => .inr (.inr z))
      refine ⟨u, ru, .inr ⟨.inr e3, c, e6, ?_⟩⟩
      rcases lk with ⟨z, _⟩ | ⟨_, c', z1, z2⟩
      · rcases e4 with y | y <;> (rw [y] at z; cases z)
      · rw [e5] at z1
        cases z1
        exact z2.keeps hk⟩, fun x c e => (I.cell x c (noc x c e)).imp fun v hv => hv.keeps hk, I.hok.fresh (Nat.le_refl _), fun x c e => I.freeC x c (noc x c e), fun p hp => ?_, I.hok.kept hk, by show (zet caps σ).length = N.length; unfold zet; rw [List.length_map]; exact cp.len⟩
  · rcases (hfp b hb).1.2.2.2.1 with z | z
    · exact I.ok.noex b o e z
    · exact absurd (Nat.lt_of_lt_of_le (Heap.lt_size e) (Nat.le_trans I.ok.bsz z)) (Nat.lt_irrefl _)
  · rcases List.mem_cons.mp (I.stkSub b z) with e | e
    · exact (hfp b hb).1.2.1 e
    · exact (hfp b hb).1.2.2.1 e
  · have hp' : p ∈ [(s.heap.objs.size + 1, go)] := by simpa using hp
    rw [List.mem_singleton.mp hp']
    exact ⟨hgo, I.hok.fresh (Nat.le_succ _), Nat.succ_ne_self _, stkne _ (Nat.le_succ _), hgd⟩


theorem gen_makeV {caps : List (Option Nat)} {N : List Str} {c P : Addr} {elt tg iter : Expr} {ifs : List Expr} {gpos : Pos} {scope : Scope} {wi : TI} {k : Nat} {Q' : Value → Shared → Prop} {R : It → Hp → Prop}
    (hr : Room k X.A) (TB : GxR.TabB X.base X.mg c P) (hcode : X.env.code = .ref c) (S : GSf X scope) (cp : Capt X scope N caps) (hi : PI X tg iter wi) (hs : ∀ v, genFold iter X.env v = pure v) (I : Inv X pins σ H s) (h : wi σ H fun J H1 => GxR.TabG H1 P ∧ R J H1)
    (hQ : ∀ J H1 H2 s4 s5 code fp it tn go g, R J H1 → GxR.Tabbed P H1 H2 → Inv X pins σ H2 s4 → (∀ b ∈ fp, FpOk X pins H2 b ∧ b < s4.heap.objs.size) → Turn X.prog X.w X.K tg J fp it tn → tn 0 s5.heap →
      (∀ A, A.handled = none → A.frames = some X.stack → Inv (gx X A N s4 H2 (ceC X scope s4.heap.objs.size code) fp [(s4.heap.objs.size + 1, go)]) [] (zet caps σ) H2 s5) →
      (∀ h : Heap, h.get? (s4.heap.objs.size + 1) = some go → h.IsGen (s4.heap.objs.size + 1) g) →
      s5.gens[g]? = some (.fresh (.compStart (.GeneratorExp elt [⟨tg, iter, ifs, 0⟩] scope gpos) 0 (.ref it) .none (ceC X scope s4.heap.objs.size code))) → Q' (.ref (s4.heap.objs.size + 1)) s5) :
    wpAny (model X.prog X.w) X.A (eval (.GeneratorExp elt [⟨tg, iter, ifs, 0⟩] scope gpos) X.env) Q' X.xe s := by
  have hcl : closureFor scope X.env = pure (clC X scope) := closure_ok S.free
  refine wpAny_GeneratorExp_make S.co hcl S.own S.dot S.kind (by have := hr.dp; omega) (thn (hi.run pins s σ H _ I h) fun xv s1 hx => thn hx fun itv s2 h2 => ?_) hs
  obtain ⟨it, fp, tn, J, H1, e, I2, T, st2, f2, ⟨ps, hP, ht⟩, q1⟩ := h2
  subst e
  have hPs : s2.heap.get? P = some { cls := .none, data := .fields ps } := I2.hok P _ hP
  have cd : PySem.W.CodeHd s2.heap c P := TB.code.keeps fun b u e => I2.bk b u e
  have nfp : ∀ b ∈ fp, b ≠ P := fun b hb z => by
    have := (f2 b hb).1
    rw [z, hP] at this
    cases this
  have szf : ∀ b ∈ fp, b < s2.heap.objs.size := fun b hb => by
    obtain ⟨o, e, _⟩ := T.obj _ _ st2 b hb
    exact Heap.lt_size e
  have cont : ∀ (code : Value) (h3 : Heap) (tk : Nat) (ps' : Array Value), Heap.ExtBut P s2.heap h3 → s2.heap.objs.size ≤ h3.objs.size → h3.get? P = some { cls := .none, data := .fields ps' } → (∃ more, ps' = ps ++ more) → TriplesOk ps'.toList →
      wpAny (model X.prog X.w) X.A (builtinsFor X.env.globals X.env.builtins) (fun bi s4 =>
        ∀ h', h'.Ns s4.heap.objs.size (fun y => if y = ".0" then some (.ref it) else none) → Heap.SameBut s4.heap.objs.size (s4.heap.push { cls := .type "frame", data := .dict #[] }) h' →
          Q' (.ref h'.objs.size) { s4 with
            gens := s4.gens.push (.fresh (.compStart (.GeneratorExp elt [⟨tg, iter, ifs, 0⟩] scope gpos) 0 (.ref it) .none (genEnv scope (clC X scope) s4.heap.objs.size code bi X.env))),
            toks := s4.toks + 1 + 1 + 1,
            heap := h'.push { cls := .type "generator", data := .fields #[.int s4.gens.size 0, .str "<genexpr>" (s4.toks + 1), .str (X.env.qual ++ "<genexpr>") (s4.toks + 1 + 1)] } }) X.xe { s2 with heap := h3, toks := tk } := by
    intro code h3 tk ps' hx hsz hP3 hmore ht3
    obtain ⟨bm, ob, e1, e2, e3, e4, e5, e6, e7, e8⟩ := TB.bm
    obtain ⟨more, rfl⟩ := hmore
    have I3 : Inv X pins σ (upd H1 P (.tbl (ps ++ more))) { s2 with heap := h3, toks := tk } := GxR.inv_tab (more := more) (g' := s2.gens) (d' := s2.drawn) I2 hP (fun b u hb e => hx b u hb e) hP3 I2.bare
    have tab : GxR.Tabbed P H1 (upd H1 P (.tbl (ps ++ more))) := ⟨⟨_, upd_same, ht3⟩, fun b hb => upd_ne hb⟩
    have st3 : tn 0 h3 := T.keep _ _ _ st2 fun b hb o e => hx b o (nfp b hb) e
    have f3 : ∀ b ∈ fp, FpOk X pins (upd H1 P (.tbl (ps ++ more))) b ∧ b < h3.objs.size := fun b hb =>
      ⟨⟨by rw [upd_ne (nfp b hb)]; exact (f2 b hb).1, (f2 b hb).2⟩, Nat.lt_of_lt_of_le (szf b hb) hsz⟩
    refine wpAny_builtinsFor (m := X.mg) (by rw [I3.ok.glob]; exact I3.mod.glob.keeps I3.bk) e1 e2 (I3.bk _ _ e5) e6 e7 e8 ?_
    intro h' hns hsb
    have hsz' : h'.objs.size = h3.objs.size + 1 := by rw [hsb.1, Heap.size_push]
    have keep' : ∀ b o, h3.get? b = some o → h'.get? b = some o := fun b o e => hsb.extBut b o (Nat.ne_of_lt (Heap.lt_size e)) (Heap.get?_push_of_some _ e)
    have main : ∀ (go : Obj), go.cls = .type "generator" → (∃ nm qn, go.data = .fields #[.int s2.gens.size 0, nm, qn]) → go.slots = #[] → (∀ h : Heap, (h.push go).get? h.objs.size = some go) → ∀ t',
        Q' (.ref h'.objs.size) { s2 with heap := h'.push go, toks := t', gens := s2.gens.push (.fresh (.compStart (.GeneratorExp elt [⟨tg, iter, ifs, 0⟩] scope gpos) 0 (.ref it) .none (genEnv scope (clC X scope) h3.objs.size code builtinsNs X.env))) } := by
      intro go gc ⟨nm, qn, gd⟩ gsl gp t'
      have hgp := gp h'
      rw [hsz'] at hgp ⊢
      have keep5 : ∀ b o, h3.get? b = some o → (h'.push go).get? b = some o := fun b o e => Heap.get?_push_of_some _ (keep' b o e)
      refine hQ J H1 (upd H1 P (.tbl (ps ++ more))) { s2 with heap := h3, toks := tk } _ code fp it tn go s2.gens.size q1 tab I3 f3 T (T.keep _ _ _ st3 fun b _ o e => keep5 b o e) (fun A hA hf => ?_) (fun h e => ⟨go, nm, qn, e, gc, gd, gsl⟩) (Array.getElem?_push_size ..)
      exact ge_startV (s := { s2 with heap := h3, toks := tk }) I3 S cp hA hf f3 (I2.bare.push rfl) (hns.push _) keep5 hgp (fun v z => by rw [gd] at z; cases z)
    exact main _ rfl ⟨_, _, rfl⟩ rfl (fun h => Heap.get?_push_size _ rfl) _
  refine ⟨I2.nolimit, ?_⟩
  cases hf : codeAmong gpos ps.toList with
  | none =>
    refine wpAny_genexprCodeX hcode (cd.code hPs ht) (cd.tab hPs) hf fun c' h' tk hx hge hlt hco' _ htab' _ => ?_
    obtain ⟨o1, vs, f1, tf, fl, tg', inF, tx, tt, op, _, _, _, _, _, _, _, _, _, htr, _⟩ := hco'
    exact cont _ h' tk _ hx (Nat.le_trans hge (Nat.le_of_lt hlt)) htab'.2 ⟨_, rfl⟩ htr
  | some cv =>
    refine wpAny_genexprCode_hit hcode (cd.code hPs ht) hf ?_
    exact cont cv s2.heap s2.toks ps (Heap.ExtBut.refl _ _) (Nat.le_refl _) hPs ⟨#[], by simp⟩ ht



def tGenV (P : Addr) (caps : List (Option Nat)) (wi : TI) (g : TG) (tt : TT) (te : TE) (Out : (Bool → Hp → Prop) → Unit → V → Hp → (Unit → Hp → Prop) → Prop) (fin : Bool) : TE := fun σ H Q => wi σ H fun J H1 => GxR.TabG H1 P ∧ ∀ H2, GxR.Tabbed P H1 H2 →
  ∃ W : Unit → Nat → Nat → Hp → Prop, (∃ m, W () 0 m H2) ∧ TurnV J (zet caps σ) g tt te (Out fun b H => Q (.bl b) H) (fun _ H => Q (.bl fin) H) W
theorem pe_allV {caps : List (Option Nat)} {N : List Str} {c P : Addr} {elt tg iter : Expr} {ifs : List Expr} {p pos gpos : Pos} {scope : Scope} {wi : TI} {g : TG} {tt : TT} {te : TE} {k : Nat}
    (hr : Room (k + 1) X.A) (hgl : Gl X "all") (hm : X.mg "all" = none) (TB : GxR.TabB X.base X.mg c P) (hcode : X.env.code = .ref c) (S : GSf X scope) (cp : Capt X scope N caps) (hi : PI X tg iter wi)
    (hg : ∀ (A : Around) (s : Shared) (H : Hp) (C : Addr) (code : Value) (fp : List Addr) (pn : List (Addr × Obj)), Room k (A.deeper (ceC X scope C code)) → PG (gx X A N s H (ceC X scope C code) fp pn) tg g)
    (ht : ∀ (A : Around) (s : Shared) (H : Hp) (C : Addr) (code : Value) (fp : List Addr) (pn : List (Addr × Obj)), Room k (A.deeper (ceC X scope C code)) → PTs (gx X A N s H (ceC X scope C code) fp pn) ifs tt)
    (he : ∀ (A : Around) (s : Shared) (H : Hp) (C : Addr) (code : Value) (fp : List Addr) (pn : List (Addr × Obj)), Room k (A.deeper (ceC X scope C code)) → PE (gx X A N s H (ceC X scope C code) fp pn) elt te)
    (hs : ∀ v, genFold iter X.env v = pure v := by intro _; rfl)
    (hb : bootBuiltins "all" = some (.builtin "all") := by decide +kernel)
    (hst : starEach [.GeneratorExp elt [⟨tg, iter, ifs, 0⟩] scope gpos] X.env = (false, eval (.GeneratorExp elt [⟨tg, iter, ifs, 0⟩] scope gpos) X.env) :: starEach [] X.env := by rfl) :
    PE X (.Call (.Name "all" p) [.GeneratorExp elt [⟨tg, iter, ifs, 0⟩] scope gpos] [] pos) (tGenV P caps wi g tt te outAll true) := by
  refine ⟨fun pins s σ H Q I h => ?_⟩
  refine wpAny_Call_Name_kw (ld_blt I hgl hm hb ?_)
  refine PyProof.Rows.callWith_builtin1 ?_ hst (by rfl)
  rw [hst]
  show wpAny _ _ (spliced ((false, eval (.GeneratorExp elt [⟨tg, iter, ifs, 0⟩] scope gpos) X.env) :: backTo pos (starEach [] X.env))) _ _ s
  refine Calls.spliced_cons (gen_makeV hr TB hcode S cp hi hs I h fun J H1 H2 s4 s5 code fp it tn go gn hR tab I4 f4 T st5 mk hgo hgs => ?_)
  refine Calls.spliced_nil ?_
  obtain ⟨W, ⟨m0, w0⟩, turn⟩ := hR H2 tab
  have rY := room3 hr (ceC X scope s4.heap.objs.size code)
  have I5 := mk X.A.in1.in1 hr.hd I.ok.frames
  generalize hpn : [(s4.heap.objs.size + 1, go)] = pn at I5
  have hpm : (s4.heap.objs.size + 1, go) ∈ pn := by rw [← hpn]; exact List.mem_singleton.mpr rfl
  have hpf : ∀ p ∈ pn, p.1 ∉ fp := fun p hp z => by
    rw [← hpn] at hp
    rw [List.mem_singleton.mp hp] at z
    exact absurd (f4 _ z).2 (Nat.not_lt.mpr (Nat.le_succ _))
  have gi0 : GI (zet caps σ) (gx X X.A.in1.in1 N s4 H2 (ceC X scope s4.heap.objs.size code) fp pn) conU fp tn () 0 H2 s5 := ⟨I5, trivial, st5, fun b hb => (f4 b hb).1.1⟩
  have isg := hgo _ (I5.pin _ (List.mem_append_left _ hpm)).1
  refine call_function_tree F.kind_all F.plain_all F.entry_all (F.args_all1 _) ?_
  unfold Builtin.«all»
  refine wpAny_bind (m := oneArg "all" _) (wpAny_pure ?_)
  refine wpAny_bind (wpAny_pyIter_gen isg ?_)
  refine wpAny_pure ⟨plainId_quiet F.plain_all_loop _, ?_⟩
  refine all_loop (ζ := zet caps σ) (Y := gx X X.A.in1.in1 N s4 H2 (ceC X scope s4.heap.objs.size code) fp pn) (A := X.A) (g := gn) (QB := fun b H => Q (.bl b) H) hr.hd hr.depth hpm hgo (fun b s' H' I' q => ?_) (m0 + 1) 0 H2 (fun a H => W a 0 m0 H) s5 _ hgs gi0 w0 (fun a' s'' gi' w' => ?_)
  · exact ⟨.bl b, H', ge_back I4 f4 I', rfl, q⟩
  · exact ⟨rfl, seg_start (ζ := zet caps σ) (Y := gx X X.A.in1.in1 N s4 H2 (ceC X scope s4.heap.objs.size code) fp pn) conU_ok rfl T (hg _ _ _ _ _ _ _ rY) (ht _ _ _ _ _ _ _ rY) (he _ _ _ _ _ _ _ rY) rfl (fun b hb => hb) (fun b hb => nomatch hb) hpf rfl S.co (by show (zet caps σ).length = N.length; unfold zet; rw [List.length_map]; exact cp.len) turn m0 a' (m0 + 1) H2 s'' (Nat.lt_succ_self _) w' gi'⟩
end
end GV
set_option Elab.async false
set_option linter.all false
set_option maxRecDepth 100000
set_option maxHeartbeats 4000000
namespace CL
open PySem PySem.Spec PyProof.Rows L2 GE
def topS (i : Nat) : Stmt := PySem.Challenge.pw_comersline_k38_whole_great_orders.main.body.getD i (.Pass ⟨0, 0, 0, 0⟩)
abbrev sWhole : Stmt := topS 5
abbrev sRow : Stmt := topS 6
theorem scWhole : FnScope ["thing"] ["thing"] (defScope sWhole) := ⟨rfl, rfl, rfl, by decide +kernel, rfl, by decide +kernel, by decide +kernel⟩
theorem scRow : FnScope ["thing"] ["thing"] (defScope sRow) := ⟨rfl, rfl, rfl, by decide +kernel, rfl, by decide +kernel, by decide +kernel⟩
/-- a def whose code object is known -/
structure FunC (K : PySem.W.Frag) (x qual : Str) (st : Stmt) (f : Addr) (fd : FuncData) (c : Addr) : Prop where
  ex : ∃ (oc : Value) (od : Option Addr) (kV doc pm : Value) (an : Option Addr) (ct : Value) (osl : Array (Option Value)),
    fd = PySem.W.fnOf x qual (defArgs st) (defBody st) (defScope st) .none kV doc pm an (.ref c) ct ∧ K.lookup f = some ⟨oc, od, .func fd, osl⟩ ∧ PySem.W.codeIn K (.ref c) qual = true
  kp : PySem.W.keepIn K (.ref f) = true
theorem FunC.ok {P : Program} {w : World} {K : PySem.W.Frag} {mg : Str → Option Value} {base : Heap} {x qual : Str} {st : Stmt} {f c : Addr} {fd : FuncData} {N ps : List Str} {k : Nat} {sp : Sp} (F : FunC K x qual st f fd c) (S : FnScope N ps (defScope st)) (len : ∀ vs H Q E, sp vs H Q E → vs.length = ps.length)
    (hbody : ∀ (A : Around) (outer : List Env) (s : Shared) (H : Hp) (vs : List V) (Q : VK) (E : XK), Room k (A.deeper (envOfC qual (defScope st) s.heap.objs.size f (.ref c))) → sp vs H Q E →
      ∃ t, PSs (cxOf CX0 P w K mg base N qual (defScope st) f (.ref c) A outer s H E).nox (defBody st) t ∧ t { nx := fun _ H' => Q .non H', rt := Q } (start N vs) H) : FnOk P w K mg base CX0 (k + 1) f fd ps sp := by
  obtain ⟨oc, od, kV, doc, pm, an, ct, osl, rfl, lk, hcd⟩ := F.ex
  refine fn_of lk hcd S len fun A outer s H vs Q E hr hsp => ?_
  obtain ⟨t, h, q⟩ := hbody A outer s H vs Q E hr hsp
  exact ⟨t, h.nox, q⟩
/-- a def that may be called by its name -/
structure Cal (P : Program) (w : World) (K : PySem.W.Frag) (mg : Str → Option Value) (base : Heap) (k : Nat) (x : Str) (ps : List Str) (sp : Sp) : Prop where
  ex : ∃ f fd, mg x = some (.ref f) ∧ PySem.W.keepIn K (.ref f) = true ∧ Binds K fd ps [] ∧ FnOk P w K mg base CX0 k f fd ps sp
theorem pe_cal {X : Cx} {k : Nat} {x : Str} {ps : List Str} {sp : Sp} {p pos : Pos} {e : Expr} {es : List Expr} {t : TA} (C : Cal X.prog X.w X.K X.mg X.base k x ps sp) (hr : Room k X.A) (hg : Gl X x) (ha : PA X (e :: es) t) (hdb : (x == ("__debug__" : Str)) = false := by decide)
    (he : starEach (e :: es) X.env = (false, eval e X.env) :: starEach es X.env := by rfl) (hpl : (backTo pos (starEach es X.env)).any (·.1) = false := by rfl) : PE X (.Call (.Name x p) (e :: es) [] pos) (tCall sp [] E0 t) := by
  obtain ⟨f, fd, h1, h2, h3, h4⟩ := C.ex
  exact pe_call h4 hr hg h1 h2 h3 .nil pass0 ha hdb he hpl
theorem Cal.mono {P : Program} {w : World} {K : PySem.W.Frag} {mg : Str → Option Value} {base : Heap} {j k : Nat} {x : Str} {ps : List Str} {sp : Sp} (C : Cal P w K mg base j x ps sp) (h : j ≤ k) : Cal P w K mg base k x ps sp := by
  obtain ⟨f, fd, h1, h2, h3, h4⟩ := C.ex
  exact ⟨f, fd, h1, h2, h3, h4.mono h⟩
/-- names that are still the built-in ones, and constants -/
structure Nm (mg : Str → Option Value) : Prop where
  isi : mg "isinstance" = none
  len : mg "len" = none
  all : mg "all" = none
  int : mg "int" = none
  bool : mg "bool" = none
  list : mg "list" = none
  tuple : mg "tuple" = none
  range : mg "range" = none
  sorted : mg "sorted" = none
  enum : mg "enumerate" = none
  repr : mg "repr" = none
  min : mg "min" = none
  most : ∃ t, mg "MOST_PEOPLE" = some (.int 60 t)
theorem tabG_same {P : Addr} {H H' : Hp} (s : Same H H') (h : GxR.TabG H P) : GxR.TabG H' P := by
  obtain ⟨ps, e, t⟩ := h
  exact ⟨ps, s _ _ e, t⟩
theorem ex_tabbed {P : Addr} {H H' : Hp} (g : GxR.TabG H P) (t : GxR.Tabbed P H H') : Ex H H' := fun b o e => by
  by_cases hb : b = P
  · subst hb
    obtain ⟨ps, h1, _⟩ := g
    obtain ⟨⟨qs, h2, hq⟩, _⟩ := t
    rw [h1] at e
    cases e
    exact .inr ⟨ps, qs, rfl, h2, hq⟩
  · exact .inl (by rw [t.2 b hb]; exact e)
theorem tabG_ex {P : Addr} {H H' : Hp} (h : GxR.TabG H P) (e : Ex H H') : GxR.TabG H' P := by
  obtain ⟨ps, h1, h2⟩ := h
  rcases e P _ h1 with q | ⟨_, qs, _, q, t⟩
  · exact ⟨ps, q, h2⟩
  · exact ⟨qs, q, t⟩
def spOne (g : PyData → Bool) : Sp := fun vs H Q _ => ∃ v d, vs = [v] ∧ Rp H v d ∧ ∀ H', Same H H' → Q (.bl (g d)) H'
theorem spOne_len {g : PyData → Bool} : ∀ vs H Q E, spOne g vs H Q E → vs.length = 1 := fun vs H Q E ⟨v, d, e, _⟩ => by rw [e]; rfl
section
variable {P : Program} {w : World} {K : PySem.W.Frag} {mg : Str → Option Value} {base : Heap}
theorem ok_whole {f : Addr} {fd : FuncData} (F : Fun K "is_whole" "is_whole" sWhole f fd) (T : Nm mg) : FnOk P w K mg base CX0 1 f fd ["thing"] (spOne isWhole) := by
  refine F.ok scWhole spOne_len (fun cdv A outer s H vs Q E hr h => ?_)
  obtain ⟨v, d, rfl, hR, q⟩ := h
  refine ⟨_, pss_one (ps_ret (pe_and (pe_callB call_isi (by rfl) T.isi (by decide +kernel) (pa_cons (pv 0) (pa_cons (pe_bltn (v := .ty "int") (by rfl) T.int PyProof.Rows.boot_int rfl) pa_nil)))
    (pe_one (pe_not (pe_callB call_isi (by rfl) T.isi (by decide +kernel) (pa_cons (pv 0) (pa_cons (pe_bltn (v := .ty "bool") (by rfl) T.bool PyProof.Rows.boot_bool rfl) pa_nil))))))), ?_⟩
  refine ⟨v, rfl, v, .ty "int", _, _, isIntB d, rfl, .ty _, hR.ty, kit_int d, isIntB d, rfl, ite2 (fun e => ?_) (fun e => ?_)⟩
  · refine ⟨v, rfl, v, .ty "bool", _, _, isBoolB d, rfl, .ty _, hR.ty, kit_bool d, isBoolB d, rfl, ?_⟩
    have z : (!isBoolB d) = isWhole d := by cases d <;> first | rfl | (exact absurd e Bool.false_ne_true)
    rw [z]
    exact q H (Same.refl H)
  · have z : isWhole d = false := by cases d <;> first | rfl | (exact absurd rfl e)
    have q' := q H (Same.refl H)
    rw [z] at q'
    exact q'
theorem ok_row {f : Addr} {fd : FuncData} (F : Fun K "is_row" "is_row" sRow f fd) (T : Nm mg) : FnOk P w K mg base CX0 1 f fd ["thing"] (spOne isRow) := by
  refine F.ok scRow spOne_len (fun cdv A outer s H vs Q E hr h => ?_)
  obtain ⟨v, d, rfl, hR, q⟩ := h
  refine ⟨_, pss_one (ps_ret (pe_callB call_isiT (by rfl) T.isi (by decide +kernel) (pa_cons (pv 0) (pa_cons (pe_tup (pa_cons (pe_bltn (v := .ty "list") (by rfl) T.list PyProof.Rows.boot_list rfl) (pa_cons (pe_bltn (v := .ty "tuple") (by rfl) T.tuple PyProof.Rows.boot_tuple rfl) pa_nil))) pa_nil)))), ?_⟩
  refine ⟨v, rfl, by show 2 ≤ sizeLine; decide, fun p np => ⟨v, p, [.ty "list", .ty "tuple"], _, _, isRow d, rfl, upd_same, .cons (.ty _) (.cons (.ty _) .nil), (Rp.ex (Ex.new np) d v hR).ty, kit_rows d, q _ (same_upd np)⟩⟩
end
theorem all_take {p : PyData → Bool} {ds : List PyData} {i : Nat} {d : PyData} (h : ds[i]? = some d) : (ds.take (i + 1)).all p = ((ds.take i).all p && p d) := by
  rw [List.take_add_one, h, List.all_append]
  simp
theorem any_take {p : PyData → Bool} {ds : List PyData} {i : Nat} {d : PyData} (h : ds[i]? = some d) : (ds.take (i + 1)).any p = ((ds.take i).any p || p d) := by
  rw [List.take_add_one, h, List.any_append]
  simp
theorem all_false {p : PyData → Bool} {ds : List PyData} {i : Nat} {d : PyData} (h : ds[i]? = some d) (e : p d = false) : ds.all p = false := by
  rw [List.all_eq_false]
  exact ⟨d, List.mem_of_getElem? h, by rw [e]; exact Bool.false_ne_true⟩
theorem any_true {p : PyData → Bool} {ds : List PyData} {i : Nat} {d : PyData} (h : ds[i]? = some d) (e : p d = true) : ds.any p = true := by
  rw [List.any_eq_true]
  exact ⟨d, List.mem_of_getElem? h, e⟩
theorem rix_of {K : PySem.W.Frag} {H : Hp} {a : Addr} {xs : List V} {i : Nat} {v : V} {Q : VK} (s : StSeq H a xs) (e : xs[i]? = some v) (q : Q v H) : rIx K (.ref a) (.int (i : Int)) H Q := by
  rcases s.or with h | h
  · exact .inl ⟨a, xs, (i : Int), v, rfl, rfl, SqL.of h, atI_nat e, q⟩
  · exact .inr (.inl ⟨a, xs, (i : Int), v, rfl, rfl, SqT.of h, atI_nat e, q⟩)
theorem name_yes {i : Nat} {x : V} {σ : L2.St} {H : Hp} {A B : L2.St → Hp → Prop} (h : A (σ.set i (some x)) H) : gName i x σ H (fun σ2 H2 => tYes σ2 H2 fun b H3 => if b = true then A σ2 H3 else B σ2 H3) := by
  show if true = true then A (σ.set i (some x)) H else B (σ.set i (some x)) H
  exact iteT h
theorem nd1 {x : Str} : [x].Nodup := by simp
theorem p18 : (10 : Int) ^ (18 : Int).toNat = 1000000000000000000 := by decide +kernel
theorem p30 : (10 : Int) ^ (30 : Int).toNat = GREAT := by decide +kernel
theorem same_ne {H H' : Hp} (s : Same H H') {p b : Addr} (np : H' p = none) (hb : H b ≠ none) : b ≠ p := fun z => by
  rw [z] at hb
  cases q : H p with
  | none => exact hb q
  | some o =>
    rw [s p o q] at np
    cases np
theorem ints_dp {K : PySem.W.Frag} {H : Hp} : ∀ gs : List Int, DpAll K H (gs.map V.int) (gs.map PyData.int)
  | [] => .nil
  | x :: gs => .cons (.int x) (ints_dp gs)
theorem ints_lay : ∀ gs : List Int, PyData.canLayAll0 (gs.map PyData.int) = true
  | [] => by simp [PyData.canLayAll0]
  | x :: gs => by
    have := ints_lay gs
    simp [PyData.canLayAll0, PyData.canLay0, this]
theorem ints_depth : ∀ gs : List Int, PyData.depthAll (gs.map PyData.int) = 0
  | [] => rfl
  | x :: gs => by
    have := ints_depth gs
    show max 0 (PyData.depthAll (gs.map PyData.int)) = 0
    rw [this]
    rfl
theorem ints_shaped (gs : List Int) : SeqAt.shaped (.list (gs.map PyData.int)) = true := by
  unfold SeqAt.shaped
  have h1 : PyData.canLay0 (.list (gs.map PyData.int)) = true := by
    have := ints_lay gs
    simp [PyData.canLay0, this]
  have h2 : PyData.depth (.list (gs.map PyData.int)) = 1 := by
    show PyData.depthAll (gs.map PyData.int) + 1 = 1
    rw [ints_depth]
  rw [h1, h2]
  rfl
theorem ints_take (gs : List Int) (k : Nat) : (gs.map V.int).take k = (gs.take k).map V.int := List.map_take.symm
theorem cut_to (xs : List V) (k : Nat) : cutV xs none (some (k : Int)) = xs.take k := by
  unfold cutV
  have e0 : HT.sIx xs.length 0 none = 0 := rfl
  have e1 : HT.sIx xs.length xs.length (some (k : Int)) = min k xs.length := HT.sIx_nat _ _ _
  rw [e0, e1, List.drop_zero, Nat.sub_zero]
  rcases Nat.le_total k xs.length with h | h
  · rw [Nat.min_eq_left h]
  · rw [Nat.min_eq_right h, List.take_of_length_le h, List.take_of_length_le (Nat.le_refl _)]
theorem cut_from (xs : List V) (k : Nat) : cutV xs (some (k : Int)) none = xs.drop k := by
  unfold cutV
  have e0 : HT.sIx xs.length 0 (some (k : Int)) = min k xs.length := HT.sIx_nat _ _ _
  have e1 : HT.sIx xs.length xs.length none = xs.length := rfl
  rw [e0, e1]
  rcases Nat.le_total k xs.length with h | h
  · rw [Nat.min_eq_left h]
    exact List.take_of_length_le (by rw [List.length_drop]; exact Nat.le_refl _)
  · rw [Nat.min_eq_right h, List.drop_of_length_le (Nat.le_refl _), List.drop_of_length_le h]
    simp
theorem small_add {a b : Nat} (ha : a ≤ 1000) (hb : b ≤ 1000) : a + b ≤ sizeLine := by
  have : 2000 ≤ sizeLine := by decide
  omega
theorem small_le {a : Nat} (ha : a ≤ 1000) : a ≤ sizeLine := by
  have : 1000 ≤ sizeLine := by decide
  omega
theorem yesT {σ : L2.St} {H : Hp} {A B : Hp → Prop} (h : A H) : tYes σ H (fun b H3 => if b = true then A H3 else B H3) := by
  show if true = true then A H else B H
  exact iteT h
open Classical in
noncomputable def Hw (W : Addr → Prop) (H : Hp) : Hp := fun b => if W b then none else H b
theorem Hw.at {W : Addr → Prop} {H : Hp} {b : Addr} (n : ¬ W b) : Hw W H b = H b := by
  unfold Hw
  rw [if_neg n]
theorem Hw.ne {W : Addr → Prop} {H : Hp} {b : Addr} {o : HO} (e : Hw W H b = some o) : ¬ W b := fun z => by
  unfold Hw at e
  rw [if_pos z] at e
  cases e
theorem Hw.sub (W : Addr → Prop) (H : Hp) : Same (Hw W H) H := fun b o e => by rw [Hw.at (Hw.ne e)] at e; exact e
theorem Hw.less {W W' : Addr → Prop} {H : Hp} (h : ∀ b, W b → W' b) : Same (Hw W' H) (Hw W H) := fun b o e => by
  rw [Hw.at fun z => Hw.ne e (h b z)]
  exact Hw.sub W' H b o e
theorem Hw.more {W W' : Addr → Prop} {H : Hp} (h : ∀ b, W' b → W b ∨ H b = none) : Same (Hw W H) (Hw W' H) := fun b o e => by
  have e1 := Hw.sub W H b o e
  rw [Hw.at fun z => (h b z).elim (Hw.ne e) fun q => by rw [q] at e1; cases e1]
  exact e1
theorem hw_upd {W : Addr → Prop} {a : Addr} {H : Hp} {o : HO} (h : W a) : Hw W (upd H a o) = Hw W H := by
  funext b
  by_cases hb : W b
  · unfold Hw
    rw [if_pos hb, if_pos hb]
  · rw [Hw.at hb, Hw.at hb, upd_ne fun z => hb (by rw [z]; exact h)]
theorem Same.hw {W : Addr → Prop} {H H' : Hp} (m : Same H H') : Same (Hw W H) (Hw W H') := fun b o e => by
  rw [Hw.at (Hw.ne e)]
  exact m b o (Hw.sub W H b o e)
theorem Rp.sm {H H' : Hp} (s : Same H H') {v : V} {d : PyData} (h : Rp H v d) : Rp H' v d := Rp.ex (Ex.of s) d v h
theorem RpAll.sm {H H' : Hp} (s : Same H H') {vs : List V} {ds : List PyData} (h : RpAll H vs ds) : RpAll H' vs ds := RpAll.ex (Ex.of s) ds vs h
theorem RpAll.snoc {H : Hp} : ∀ {vs : List V} {ds : List PyData} {v : V} {d : PyData}, RpAll H vs ds → Rp H v d → RpAll H (vs ++ [v]) (ds ++ [d])
  | _, _, _, _, .nil, h => .cons h .nil
  | _, _, _, _, .cons a b, h => .cons a (RpAll.snoc b h)
theorem cut_last (xs : List V) : cutV xs none (some (-1)) = xs.take (xs.length - 1) := by
  unfold cutV
  have e0 : HT.sIx xs.length 0 none = 0 := rfl
  have e1 : HT.sIx xs.length xs.length (some (-1)) = xs.length - 1 := by
    show (if (-1 : Int) < 0 then ((-1 : Int) + (xs.length : Int)).toNat else min (-1 : Int).toNat xs.length) = _
    rw [if_pos (by decide)]
    omega
  rw [e0, e1, List.drop_zero, Nat.sub_zero]
theorem ix_gx {X : Cx} {A : Around} {N : List Str} {s : Shared} {H : Hp} {cenv : Env} {fp : List Addr} {pn : List (Addr × Obj)} : IxR (gx X A N s H cenv fp pn) (rIx X.K) := ix_seq
end CL
set_option Elab.async false
set_option linter.all false
set_option maxRecDepth 100000
set_option maxHeartbeats 4000000
namespace CL
open PySem PySem.Spec PyProof.Rows L2 GE
abbrev sBag : Stmt := topS 19
abbrev sStir : Stmt := topS 20
abbrev sDraw : Stmt := topS 21
theorem scBag : FnScope ["script", "total", "cell"] ["script"] (defScope sBag) := ⟨rfl, rfl, rfl, by decide +kernel, rfl, by decide +kernel, by decide +kernel⟩
theorem scStir : FnScope ["number", "place", "one", "two"] ["number", "place"] (defScope sStir) := ⟨rfl, rfl, rfl, by decide +kernel, rfl, by decide +kernel, by decide +kernel⟩
theorem scDraw : FnScope ["bag", "many", "cell", "found"] ["bag", "many"] (defScope sDraw) := ⟨rfl, rfl, rfl, by decide +kernel, rfl, by decide +kernel, by decide +kernel⟩
abbrev MSP : Int := 2305843009213693951
theorem t64 : (2 : Int) ^ 64 = 18446744073709551616 := by decide +kernel
abbrev M60 : Nat := 1000000000000000000
/-- a bag's place, and its cells' -/
structure Bg where
  a : Addr
  c : Addr
/-- the bag: the cells, which is next, what is left of one, how many draws (n at most), a number mixed -/
structure BagAt (n : Nat) (H : Hp) (r : Bg) : Prop where
  ex : ∃ (ns : List Int) (i : Nat) (b k t : Int), H r.a = some (.lst [.ref r.c, .int i, .int b, .int k, .int t]) ∧ H r.c = some (.lst (ns.map V.int)) ∧ i ≤ ns.length ∧ 0 ≤ b ∧ 0 ≤ k ∧ k ≤ n ∧ 0 ≤ t ∧ t < MSP
/-- all but the bag stays -/
structure Mv (r : Bg) (H H' : Hp) : Prop where
  keep : ∀ b o, b ≠ r.a → H b = some o → H' b = some o
theorem Mv.refl (r : Bg) (H : Hp) : Mv r H H := ⟨fun _ _ _ h => h⟩
theorem Mv.of {r : Bg} {H H' : Hp} (s : Same H H') : Mv r H H' := ⟨fun b o _ h => s b o h⟩
theorem Mv.trans {r : Bg} {H H1 H2 : Hp} (a : Mv r H H1) (b : Mv r H1 H2) : Mv r H H2 := ⟨fun c o n h => b.keep c o n (a.keep c o n h)⟩
theorem Mv.upd {r : Bg} {p : Addr} {H H' : Hp} {o : HO} (m : Mv r H H') (hn : H p = none) : Mv r H (upd H' p o) := ⟨fun b x nb e => by
  rw [upd_ne (ne_of_none e hn)]
  exact m.keep b x nb e⟩
theorem BagAt.mono {n m : Nat} {H : Hp} {r : Bg} (h : BagAt n H r) (l : n ≤ m) : BagAt m H r := by
  obtain ⟨ns, i, b, k, t, er, ec, hi, hb, hk, hn, ht⟩ := h
  exact ⟨ns, i, b, k, t, er, ec, hi, hb, hk, by omega, ht⟩
theorem BagAt.same {n : Nat} {r : Bg} {H H' : Hp} (s : Same H H') (hr : BagAt n H r) : BagAt n H' r := by
  obtain ⟨ns, i, b, k, t, er, ec, h⟩ := hr
  exact ⟨ns, i, b, k, t, s _ _ er, s _ _ ec, h⟩
theorem BagAt.some {n : Nat} {r : Bg} {H : Hp} (hr : BagAt n H r) : H r.a ≠ none := by
  obtain ⟨ns, i, b, k, t, er, h⟩ := hr
  rw [er]
  exact nofun
theorem BagAt.someC {n : Nat} {r : Bg} {H : Hp} (hr : BagAt n H r) : H r.c ≠ none := by
  obtain ⟨ns, i, b, k, t, er, ec, h⟩ := hr
  rw [ec]
  exact nofun
/-- a place that is neither -/
structure Off (r : Bg) (p : Addr) : Prop where
  a : p ≠ r.a
  c : p ≠ r.c
theorem BagAt.new {n : Nat} {r : Bg} {p : Addr} {H : Hp} (hr : BagAt n H r) (np : H p = none) : Off r p := ⟨fun z => hr.some (by rw [← z]; exact np), fun z => hr.someC (by rw [← z]; exact np)⟩
theorem BagAt.store {n : Nat} {r : Bg} {p : Addr} {H : Hp} {o : HO} (hr : BagAt n H r) (f : Off r p) : BagAt n (upd H p o) r := by
  obtain ⟨ns, i, b, k, t, er, ec, h⟩ := hr
  exact ⟨ns, i, b, k, t, by rw [upd_ne (Ne.symm f.a)]; exact er, by rw [upd_ne (Ne.symm f.c)]; exact ec, h⟩
theorem BagAt.kx {n : Nat} {r : Bg} {H H' : Hp} (h : BagAt n H r) (e : Ex H H') : BagAt n H' r := by
  obtain ⟨ns, i, b, k, t, er, ec, h⟩ := h
  exact ⟨ns, i, b, k, t, e.lst er, e.lst ec, h⟩
theorem bag_ne {c r : Addr} {H : Hp} {ns : List Int} {vs : List V} (er : H r = some (.lst (.ref c :: vs))) (ec : H c = some (.lst (ns.map V.int))) : c ≠ r := fun z => by
  rw [z, er] at ec
  cases ns with
  | nil => simp at ec
  | cons x ns => simp at ec
theorem mem_keep {r : Bg} {b : Addr} {H H' : Hp} (m : Mv r H H') (n : b ≠ r.a) (h : H b ≠ none) : H' b ≠ none := fun z => by
  cases q : H b with
  | none => exact h q
  | some o =>
    rw [m.keep b o n q] at z
    cases z
def spStir : Sp := fun vs H Q _ => ∃ a b : Int, vs = [.int a, .int b] ∧ 0 ≤ a ∧ a < MSP ∧ 0 ≤ b ∧ b ≤ (M60 : Int) ∧ ∀ x, Q (.int x) H
def spDraw (r : Bg) : Sp := fun vs H Q _ => ∃ (m : Int) (n : Nat), vs = [.ref r.a, .int m] ∧ BagAt n H r ∧ n < M60 ∧ 1 ≤ m ∧ m < 2 ^ 140 ∧ ∀ x H', BagAt (n + 1) H' r → Mv r H H' → 0 ≤ x → x < m → Q (.int x) H'
def spBag (K : PySem.W.Frag) : Sp := fun vs H Q _ => ∃ (a : Addr) (ns : List Int), vs = [.ref a] ∧ SqL K H a (ns.map V.int) ∧ ∀ (r : Bg) H', Same H H' → H r.a = none → BagAt 0 H' r → Q (.ref r.a) H'
section
variable {P : Program} {w : World} {K : PySem.W.Frag} {mg : Str → Option Value} {base : Heap}
theorem ok_stir {f : Addr} {fd : FuncData} (F : Fun K "_law_stir" "_law_stir" sStir f fd) : FnOk P w K mg base CX0 1 f fd ["number", "place"] spStir := by
  refine F.ok scStir (fun vs H Q E ⟨a, b, e, _⟩ => by rw [e]; rfl) (fun cdv A outer s H vs Q E hr h => ?_)
  obtain ⟨a, b, rfl, a0, a1, b0, b1, q⟩ := h
  have nd := scStir.nd
  refine ⟨_, pss_cons (ps_set (i := 2) nd rfl (.inl rfl) (pe_op op_mod (pe_op op_add (pe_op op_add (pe_op op_mul (pv 0) pe_int) (pe_op op_mul (pv 1) pe_int)) pe_int) pe_int))
    (pss_cons (ps_set (i := 3) nd rfl (.inl rfl) (pe_op op_mod (pe_op op_mul (pv 2) (pv 2)) pe_int))
    (pss_one (ps_ret (pe_op op_fdiv (pe_op op_mod (pe_op op_add (pe_op op_add (pe_op op_mul (pv 3) pe_int) (pe_op op_mul (pe_op op_mul (pv 1) (pv 1)) pe_int)) (pe_op op_fdiv (pv 2) pe_int)) pe_int) pe_int)))), ?_⟩
  have a1' : a < 2305843009213693951 := a1
  have b1' : b ≤ 1000000000000000000 := b1
  refine ⟨.int a, rfl, a, 998244353, rfl, rfl, .inr ⟨by decide, by decide⟩, .int b, rfl, b, 1000000007, rfl, rfl, .inr ⟨by decide, by decide⟩, _, _, rfl, rfl, _, 5, rfl, rfl, _, _, rfl, rfl, (by show (0 : Int) < 2305843009213693951; decide), ?_⟩
  show tSeq _ _ _ [some (.int a), some (.int b), some (.int ((a * 998244353 + b * 1000000007 + 5) % 2305843009213693951)), none] H
  generalize hz : (a * 998244353 + b * 1000000007 + 5) % 2305843009213693951 = z
  have z0 : 0 ≤ z := by rw [← hz]; exact Int.emod_nonneg _ (by decide)
  have z1 : z < 2305843009213693951 := by rw [← hz]; exact Int.emod_lt_of_pos _ (by decide)
  refine ⟨.int z, rfl, .int z, rfl, z, z, rfl, rfl, .inl ⟨by rw [t64]; omega, by rw [t64]; omega⟩, _, _, rfl, rfl, (by show (0 : Int) < 2305843009213693951; decide), ?_⟩
  refine ⟨.int (z * z % 2305843009213693951), rfl, z * z % 2305843009213693951, 2860486313, rfl, rfl, .inr ⟨by decide, by decide⟩, .int b, rfl, .int b, rfl, b, b, rfl, rfl, .inl ⟨by rw [t64]; omega, by rw [t64]; omega⟩, _, 48271, rfl, rfl, .inr ⟨by decide, by decide⟩, _, _, rfl, rfl, .int z, rfl, z, 3, rfl, rfl, ⟨by decide, by decide⟩, _, _, rfl, rfl, _, _, rfl, rfl, (by show (0 : Int) < 2305843009213693921; decide), _, _, rfl, rfl, ⟨by decide, by decide⟩, ?_⟩
  exact q _
theorem ok_draw {f : Addr} {r : Bg} {fd : FuncData} (F : Fun K "_law_draw" "_law_draw" sDraw f fd) (hlen : mg "len" = none) (CS : Cal P w K mg base 1 "_law_stir" ["number", "place"] spStir) : FnOk P w K mg base CX0 2 f fd ["bag", "many"] (spDraw r) := by
  refine F.ok scDraw (fun vs H Q E ⟨m, n, e, _⟩ => by rw [e]; rfl) (fun cdv A outer s H vs Q E hr h => ?_)
  obtain ⟨m, n, rfl, ⟨ns, i, b, k, t, er, ec, hi, hb, hk, hn, ht0, ht1⟩, hn1, m1, m2, q⟩ := h
  have nd := scDraw.nd
  refine ⟨_, pss_cons (ps_if (pt_cmpR op_eq (pv 1) pe_int (nomark _)) (pss_one (ps_ret pe_int)) pss_nil)
    (pss_cons (ps_asg (pe_op op_add (pe_ix ix_list (pv 0) pe_int (fun _ _ => rfl)) pe_int) (pg_sub (pv 0) pe_int set_list))
    (pss_cons (ps_if (PW.pt (pw_and (pt_cmpR op_lt (pe_ix ix_list (pv 0) pe_int (fun _ _ => rfl)) pe_int (nomark _)) (pw_and1 (pt_cmpR op_eq (pe_ix ix_list (pv 0) pe_int (fun _ _ => rfl)) (pe_callB call_len_seq (by rfl) hlen PySem.boot_len (pa_cons (pe_ix ix_list (pv 0) pe_int (fun _ _ => rfl)) pa_nil)) (nomark _)))))
      (pss_one (ps_ret (pe_op op_mod (pe_cal CS hr (by rfl) (pa_cons (pe_ix ix_list (pv 0) pe_int (fun _ _ => rfl)) (pa_cons (pe_ix ix_list (pv 0) pe_int (fun _ _ => rfl)) pa_nil))) (pv 1)))) pss_nil)
    (pss_cons (ps_if (pt_cmpR op_lt (pe_ix ix_list (pv 0) pe_int (fun _ _ => rfl)) pe_int (nomark _))
      (pss_cons (ps_set (i := 2) nd rfl (.inl rfl) (pe_ix ix_list (pe_ix ix_list (pv 0) pe_int (fun _ _ => rfl)) (pe_ix ix_list (pv 0) pe_int (fun _ _ => rfl)) (fun _ _ => rfl)))
      (pss_cons (ps_asg (pe_op op_add (pe_ix ix_list (pv 0) pe_int (fun _ _ => rfl)) pe_int) (pg_sub (pv 0) pe_int set_list))
      (pss_cons (ps_if (pt_cmpR op_lt (pv 2) (pe_op op_pow pe_int pe_int) (nomark _)) (pss_one (ps_ret (pe_op op_mod (pe_cal CS hr (by rfl) (pa_cons (pe_op op_mod (pv 2) pe_int) (pa_cons (pe_ix ix_list (pv 0) pe_int (fun _ _ => rfl)) pa_nil))) (pv 1)))) pss_nil)
      (pss_one (ps_asg (pe_op op_sub (pv 2) (pe_op op_pow pe_int pe_int)) (pg_sub (pv 0) pe_int set_list)))))) pss_nil)
    (pss_cons (ps_set (i := 3) nd rfl (.inl rfl) (pe_op op_mod (pe_ix ix_list (pv 0) pe_int (fun _ _ => rfl)) (pv 1)))
    (pss_cons (ps_asg (pe_op op_fdivW (pe_ix ix_list (pv 0) pe_int (fun _ _ => rfl)) (pv 1)) (pg_sub (pv 0) pe_int set_list))
    (pss_one (ps_ret (pv 3)))))))), ?_⟩
  have hcr := bag_ne er ec
  have mdiv : ∀ f : Int, CDivW f m := fun f => wide_div (b := 140) (by omega) (by omega) (by decide) (by decide)
  have mp : (0 : Int) < m := by omega
  refine ⟨.int m, rfl, rfl, _, rfl, ite2 (fun e => ?_) (fun _ => ?_)⟩
  · exact q 0 H (BagAt.mono (n := n) ⟨ns, i, b, k, t, er, ec, hi, hb, hk, hn, ht0, ht1⟩ (Nat.le_succ n)) (Mv.refl r H) (Int.le_refl 0) mp
  -- the counter
  refine ⟨.ref r.a, rfl, r.a, _, 3, .int k, rfl, rfl, SqL.of er, atI_nat (j := 3) rfl, k, 1, rfl, rfl, .ref r.a, rfl, r.a, _, 3, 3, rfl, rfl, er, rfl, ?_⟩
  show tSeq _ _ _ _ (upd H r.a (.lst [.ref r.c, .int i, .int b, .int (k + 1), .int t]))
  have m1' : Mv r H (upd H r.a (.lst [.ref r.c, .int i, .int b, .int (k + 1), .int t])) := ⟨fun b o nb e => by rw [upd_ne nb]; exact e⟩
  have er1 : (upd H r.a (.lst [.ref r.c, .int i, .int b, .int (k + 1), .int t])) r.a = some (.lst [.ref r.c, .int i, .int b, .int (k + 1), .int t]) := upd_same
  generalize upd H r.a (.lst [.ref r.c, .int i, .int b, .int (k + 1), .int t]) = H1 at m1' er1
  have ec1 := m1'.keep r.c _ hcr ec
  have fin1 : ∀ x : Int, Q (.int (x % m)) H1 := fun x => q _ H1 ⟨ns, i, b, k + 1, t, er1, ec1, hi, hb, by omega, by omega, ht0, ht1⟩ m1' (Int.emod_nonneg _ (by omega)) (Int.emod_lt_of_pos _ mp)
  have last : ∀ (H2 : Hp) (i2 : Nat) (b2 : Int) (y : Option V), Mv r H H2 → H2 r.a = some (.lst [.ref r.c, .int i2, .int b2, .int (k + 1), .int t]) → i2 ≤ ns.length → 0 ≤ b2 → ∀ x : Int, x = b2 % m → Q (.int x) (upd H2 r.a (.lst [.ref r.c, .int i2, .int (b2 / m), .int (k + 1), .int t])) := fun H2 i2 b2 y mv e2 hi2 hb2 x hx => by
    rw [hx]
    exact q _ _ ⟨ns, i2, b2 / m, k + 1, t, upd_same, by rw [upd_ne hcr]; exact mv.keep r.c _ hcr ec, hi2, Int.ediv_nonneg hb2 (by omega), by omega, by omega, ht0, ht1⟩ ⟨fun b o nb e => by rw [upd_ne nb]; exact mv.keep b o nb e⟩ (Int.emod_nonneg _ (by omega)) (Int.emod_lt_of_pos _ mp)
  refine ⟨.ref r.a, rfl, r.a, _, 2, .int b, rfl, rfl, SqL.of er1, atI_nat (j := 2) rfl, b, 2, rfl, rfl, decide (b < 2), rfl, ?_⟩
  by_cases hb2 : b < 2
  · rw [decide_eq_true hb2]
    refine iteT ⟨.ref r.a, rfl, r.a, _, 1, .int i, rfl, rfl, SqL.of er1, atI_nat (j := 1) rfl, .ref r.a, rfl, r.a, _, 0, .ref r.c, rfl, rfl, SqL.of er1, atI_nat (j := 0) rfl, r.c, _, rfl, .inl (SqL.of ec1), rfl, _, rfl, ite2 (fun e => ?_) (fun e => ?_)⟩
    · refine ⟨.ref r.a, rfl, r.a, _, 4, .int t, rfl, rfl, SqL.of er1, atI_nat (j := 4) rfl, .ref r.a, rfl, r.a, _, 3, .int (k + 1), rfl, rfl, SqL.of er1, atI_nat (j := 3) rfl, t, k + 1, rfl, ht0, ht1, by omega, by omega, fun x => ?_⟩
      exact ⟨.int m, rfl, x, m, rfl, rfl, mp, fin1 x⟩
    · have hi2 : i < ns.length := by
        rcases Nat.lt_or_ge i ns.length with z | z
        · exact z
        · refine absurd ?_ e
          have : i = ns.length := by omega
          rw [this, List.length_map]
          exact decide_eq_true rfl
      refine ⟨.ref r.a, rfl, r.a, _, 2, .int b, rfl, rfl, SqL.of er1, atI_nat (j := 2) rfl, b, 2, rfl, rfl, decide (b < 2), rfl, ?_⟩
      rw [decide_eq_true hb2]
      refine iteT ?_
      refine ⟨.ref r.a, rfl, r.a, _, 0, .ref r.c, rfl, rfl, SqL.of er1, atI_nat (j := 0) rfl, .ref r.a, rfl, r.a, _, 1, .int i, rfl, rfl, SqL.of er1, atI_nat (j := 1) rfl, r.c, _, i, .int ns[i], rfl, rfl, SqL.of ec1, atI_nat (j := i) (by rw [List.getElem?_map, List.getElem?_eq_getElem hi2]; rfl), ?_⟩
      refine ⟨.ref r.a, rfl, r.a, _, 1, .int i, rfl, rfl, SqL.of er1, atI_nat (j := 1) rfl, i, 1, rfl, rfl, .ref r.a, rfl, r.a, _, 1, 1, rfl, rfl, er1, rfl, ?_⟩
      show tSeq _ _ _ _ (upd H1 r.a (.lst [.ref r.c, .int (i + 1 : Int), .int b, .int (k + 1), .int t]))
      have m2' : Mv r H (upd H1 r.a (.lst [.ref r.c, .int (i + 1 : Int), .int b, .int (k + 1), .int t])) := ⟨fun b o nb e => by rw [upd_ne nb]; exact m1'.keep b o nb e⟩
      have er2 : (upd H1 r.a (.lst [.ref r.c, .int (i + 1 : Int), .int b, .int (k + 1), .int t])) r.a = some (.lst [.ref r.c, .int ((i + 1 : Nat) : Int), .int b, .int (k + 1), .int t]) := by rw [upd_same]; rfl
      generalize upd H1 r.a (.lst [.ref r.c, .int (i + 1 : Int), .int b, .int (k + 1), .int t]) = H2 at m2' er2
      generalize hcell : ns[i] = cell
      have ec2 := m2'.keep r.c _ hcr ec
      refine ⟨.int cell, rfl, 10, 18, rfl, rfl, ⟨by decide, by decide, by decide⟩, cell, _, rfl, rfl, _, rfl, ?_⟩
      rw [show (10 : Int) ^ (18 : Int).toNat = 1000000000000000000 from p18]
      refine ite2 (fun e1 => ?_) (fun e1 => ?_)
      · refine ⟨.int cell, rfl, cell, 2305843009213693951, rfl, rfl, (by show (0 : Int) < 2305843009213693951; decide), .ref r.a, rfl, r.a, _, 3, .int (k + 1), rfl, rfl, SqL.of er2, atI_nat (j := 3) rfl, cell % 2305843009213693951, k + 1, rfl, Int.emod_nonneg _ (by decide), Int.emod_lt_of_pos _ (by decide), by omega, by omega, fun x => ?_⟩
        exact ⟨.int m, rfl, x, m, rfl, rfl, mp, q _ H2 ⟨ns, i + 1, b, k + 1, t, er2, ec2, hi2, hb, by omega, by omega, ht0, ht1⟩ m2' (Int.emod_nonneg _ (by omega)) (Int.emod_lt_of_pos _ mp)⟩
      · have hc18 : 1000000000000000000 ≤ cell := by
          rcases Int.lt_or_le cell 1000000000000000000 with z | z
          · exact absurd (decide_eq_true z) e1
          · exact z
        refine ⟨.int cell, rfl, 10, 18, rfl, rfl, ⟨by decide, by decide, by decide⟩, cell, _, rfl, rfl, .ref r.a, rfl, r.a, _, 2, 2, rfl, rfl, er2, rfl, ?_⟩
        show tSeq _ _ _ _ (upd H2 r.a (.lst [.ref r.c, .int ((i + 1 : Nat) : Int), .int (cell - (10 : Int) ^ (18 : Int).toNat), .int (k + 1), .int t]))
        rw [show (10 : Int) ^ (18 : Int).toNat = 1000000000000000000 from p18]
        have m3' : Mv r H (upd H2 r.a (.lst [.ref r.c, .int ((i + 1 : Nat) : Int), .int (cell - 1000000000000000000), .int (k + 1), .int t])) := ⟨fun b o nb e => by rw [upd_ne nb]; exact m2'.keep b o nb e⟩
        have er3 : (upd H2 r.a (.lst [.ref r.c, .int ((i + 1 : Nat) : Int), .int (cell - 1000000000000000000), .int (k + 1), .int t])) r.a = some (.lst [.ref r.c, .int ((i + 1 : Nat) : Int), .int (cell - 1000000000000000000), .int (k + 1), .int t]) := upd_same
        have hb3 : 0 ≤ cell - 1000000000000000000 := by omega
        generalize cell - 1000000000000000000 = b2 at m3' er3 hb3
        generalize upd H2 r.a (.lst [.ref r.c, .int ((i + 1 : Nat) : Int), .int b2, .int (k + 1), .int t]) = H3 at m3' er3
        exact ⟨.ref r.a, rfl, r.a, _, 2, .int b2, rfl, rfl, SqL.of er3, atI_nat (j := 2) rfl, .int m, rfl, b2, m, rfl, rfl, mp, .ref r.a, rfl, r.a, _, 2, .int b2, rfl, rfl, SqL.of er3, atI_nat (j := 2) rfl, .int m, rfl, b2, m, rfl, rfl, mdiv b2, .ref r.a, rfl, r.a, _, 2, 2, rfl, rfl, er3, rfl, .int (b2 % m), rfl, last H3 (i + 1) b2 none m3' er3 hi2 hb3 _ rfl⟩
  · rw [decide_eq_false hb2]
    refine iteF ⟨.ref r.a, rfl, r.a, _, 2, .int b, rfl, rfl, SqL.of er1, atI_nat (j := 2) rfl, b, 2, rfl, rfl, decide (b < 2), rfl, ?_⟩
    rw [decide_eq_false hb2]
    exact iteF ⟨.ref r.a, rfl, r.a, _, 2, .int b, rfl, rfl, SqL.of er1, atI_nat (j := 2) rfl, .int m, rfl, b, m, rfl, rfl, mp, .ref r.a, rfl, r.a, _, 2, .int b, rfl, rfl, SqL.of er1, atI_nat (j := 2) rfl, .int m, rfl, b, m, rfl, rfl, mdiv b, .ref r.a, rfl, r.a, _, 2, 2, rfl, rfl, er1, rfl, .int (b % m), rfl, last H1 i b none m1' er1 hi hb _ rfl⟩
theorem ok_bag {f : Addr} {fd : FuncData} (F : Fun K "_law_bag" "_law_bag" sBag f fd) (hlist : mg "list" = none) : FnOk P w K mg base CX0 1 f fd ["script"] (spBag K) := by
  refine F.ok scBag (fun vs H Q E ⟨a, ns, e, _⟩ => by rw [e]; rfl) (fun cdv A outer s H vs Q E hr h => ?_)
  obtain ⟨a, ns, rfl, hS, q⟩ := h
  have nd := scBag.nd
  refine ⟨_, pss_cons (ps_set (i := 1) nd rfl (.inl rfl) pe_int)
    (pss_cons (ps_for PassesOwn.never rfl (pi_list (pv 0)) (pg_name (i := 2) nd rfl (.inl rfl))
      (pss_one (ps_set (i := 1) nd rfl (.inl rfl) (pe_op op_mod (pe_op op_add (pe_op op_add (pe_op op_mul (pv 1) pe_int) (pe_op op_mod (pv 2) pe_int)) pe_int) pe_int))))
    (pss_one (ps_ret (pe_lst (pa_cons (pe_callTy call_list_of (by rfl) hlist (by decide +kernel) (pa_cons (pv 0) pa_nil)) (pa_cons pe_int (pa_cons pe_int (pa_cons pe_int (pa_cons (pv 1) pa_nil))))))))), ?_⟩
  refine ⟨.ref a, rfl, a, rfl, ⟨_, hS⟩, for_list (xs := ns.map V.int) (fun i σ H2 => H2 = H ∧ ∃ t y2, σ = [some (.ref a), some (.int t), y2] ∧ 0 ≤ t ∧ t < MSP) ⟨rfl, 1, none, rfl, by decide, by decide⟩
    (fun i σ H2 _ ⟨e, _⟩ => by rw [e]; exact hS) (fun i x σ H2 hx ⟨e, t, y2, es, t0, t1⟩ => ?_) (fun σ H2 ⟨e, t, y2, es, t0, t1⟩ => ?_)⟩
  · subst e es
    obtain ⟨c, rfl⟩ : ∃ c, x = .int c := by
      rw [List.getElem?_map] at hx
      cases q : ns[i]? with
      | none => rw [q] at hx; cases hx
      | some c => rw [q] at hx; cases hx; exact ⟨c, rfl⟩
    exact ⟨.int t, rfl, t, 1000003, rfl, rfl, .inr ⟨by decide, by decide⟩, .int c, rfl, c, _, rfl, rfl, (by show (0 : Int) < 2305843009213693951; decide), _, _, rfl, rfl, _, 1, rfl, rfl, _, _, rfl, rfl, (by show (0 : Int) < 2305843009213693951; decide), rfl, _, some (.int c), rfl, Int.emod_nonneg _ (by decide), Int.emod_lt_of_pos _ (by decide)⟩
  · subst e es
    refine ⟨.ref a, rfl, a, _, rfl, .inl hS, fun l nl => ⟨.int t, rfl, small_le (by show 5 ≤ 1000; decide), fun r nr => ?_⟩⟩
    have s1 : Same H2 (upd H2 l (.lst (ns.map V.int))) := same_upd nl
    have lr : l ≠ r := fun z => by rw [← z, upd_same] at nr; cases nr
    exact q ⟨r, l⟩ _ (s1.trans (same_upd nr)) (s1.free nr) ⟨ns, 0, 0, 0, t, upd_same, by rw [upd_ne lr]; exact upd_same, Nat.zero_le _, Int.le_refl 0, Int.le_refl 0, Int.le_refl 0, t0, t1⟩
end
end CL
set_option Elab.async false
set_option linter.all false
set_option maxRecDepth 100000
set_option maxHeartbeats 4000000
namespace CL
open PySem PySem.Spec PyProof.Rows L2 GE
abbrev sCame : Stmt := topS 23
abbrev sQueue : Stmt := topS 24
abbrev nCame : List Str := ["stand", "rest", "number", "patience", "at"]
abbrev nQueue : List Str := ["patiences", "stand", "rest", "number", "patience"]
theorem scCame : FnScope nCame ["stand", "rest", "number", "patience"] (defScope sCame) := ⟨rfl, rfl, rfl, by decide +kernel, rfl, by decide +kernel, by decide +kernel⟩
theorem scQueue : FnScope nQueue ["patiences"] (defScope sQueue) := ⟨rfl, rfl, rfl, by decide +kernel, rfl, by decide +kernel, by decide +kernel⟩
abbrev RF := Nat → Option Int
/-! ### who comes goes past all that let it -/
def goes : Nat → List (Option Int) → Nat × List (Option Int)
  | 0, l => (0, l)
  | p + 1, l => match l[p]? with
    | some (some k) => if k = 0 then (p + 1, l) else goes p (l.set p (some (k - 1)))
    | some none => goes p l
    | none => (p + 1, l)
theorem goes_le : ∀ (p : Nat) (l : List (Option Int)), (goes p l).1 ≤ p ∧ (goes p l).2.length = l.length
  | 0, l => ⟨Nat.le_refl 0, rfl⟩
  | p + 1, l => by
    unfold goes
    split
    · split
      · exact ⟨Nat.le_refl _, rfl⟩
      · have h := goes_le p (l.set p (some (‹Int› - 1)))
        exact ⟨Nat.le_succ_of_le h.1, by rw [h.2, List.length_set]⟩
    · have h := goes_le p l
      exact ⟨Nat.le_succ_of_le h.1, h.2⟩
    · exact ⟨Nat.le_refl _, rfl⟩
abbrev Sta := List Nat × List (Option Int)
def put (st : Sta) (who : Nat) (e : Option Int) : Sta :=
  (st.1.take (goes st.1.length st.2).1 ++ who :: st.1.drop (goes st.1.length st.2).1, (goes st.1.length st.2).2.take (goes st.1.length st.2).1 ++ e :: (goes st.1.length st.2).2.drop (goes st.1.length st.2).1)
/-- the queue of the first so many -/
def lin (ps : List (Option Int)) : Nat → Sta
  | 0 => ([], [])
  | n + 1 => put (lin ps n) n (ps.getD n none)
def queueF (ps : List (Option Int)) : List Nat := (lin ps ps.length).1
theorem lin_perm (ps : List (Option Int)) : ∀ n, (lin ps n).1.Perm (List.range n) ∧ (lin ps n).2.length = n
  | 0 => ⟨.refl _, rfl⟩
  | n + 1 => by
    obtain ⟨h1, h2⟩ := lin_perm ps n
    have l1 := h1.length_eq
    rw [List.length_range] at l1
    obtain ⟨g1, g2⟩ := goes_le (lin ps n).1.length (lin ps n).2
    refine ⟨?_, ?_⟩
    · have h := List.perm_middle (a := n) (l₁ := (lin ps n).1.take (goes (lin ps n).1.length (lin ps n).2).1) (l₂ := (lin ps n).1.drop (goes (lin ps n).1.length (lin ps n).2).1)
      rw [List.take_append_drop] at h
      exact (h.trans (h1.cons n)).trans (by rw [List.range_succ]; exact (List.perm_append_singleton n (List.range n)).symm)
    · show (_ ++ _ :: _).length = n + 1
      rw [List.length_append, List.length_cons, List.length_take, List.length_drop, g2, h2]
      omega
/-- how one that comes is put -/
structure CameX (f f' : RF) (xs : List Nat) (n k : Nat) (p : Option Int) : Prop where
  k : k = (goes xs.length (xs.map f)).1
  l : xs.map f' = (goes xs.length (xs.map f)).2
  n : f' n = p
theorem CameX.put {f f' : RF} {xs : List Nat} {n k : Nat} {p : Option Int} (c : CameX f f' xs n k p) : put (xs, xs.map f) n p = (xs.take k ++ n :: xs.drop k, (xs.take k ++ n :: xs.drop k).map f') := by
  unfold CL.put
  rw [← c.k, ← c.l, List.map_append, List.map_cons, c.n, List.map_take, List.map_drop]
theorem map_set {xs : List Nat} {g : RF} {k : Nat} {o : Option Int} (nd : xs.Nodup) (hk : k < xs.length) : xs.map (fun x => if x = xs[k] then o else g x) = (xs.map g).set k o := by
  refine List.ext_getElem (by rw [List.length_set, List.length_map, List.length_map]) fun i h1 h2 => ?_
  rw [List.length_map] at h1
  rw [List.getElem_map, List.getElem_set]
  by_cases e : k = i
  · subst e
    rw [if_pos rfl, if_pos rfl]
  · rw [if_neg e, if_neg (fun z => e ?_), List.getElem_map]
    rcases Nat.lt_trichotomy k i with h | h | h
    · exact absurd z.symm (List.pairwise_iff_getElem.mp nd k i hk h1 h)
    · exact h
    · exact absurd z (List.pairwise_iff_getElem.mp nd i k h1 hk h)
def optD : Option Int → PyData
  | some i => .int i
  | none => .none
def optV : Option Int → V
  | some i => .int i
  | none => .non
theorem optV_dp {K : PySem.W.Frag} {H : Hp} : ∀ o : Option Int, Dp K H (optV o) (optD o)
  | none => .non
  | some i => .int i
theorem optD_shaped : ∀ o : Option Int, SeqAt.shaped (optD o) = true
  | none => by decide
  | some i => by unfold SeqAt.shaped; simp [optD, PyData.canLay0, PyData.depth]
theorem optV_ne0 : ∀ o : Option Int, (!PyData.eqv (optD o) (.int 0)) = !decide (o = some 0)
  | none => by simp [optD, PyData.eqv]
  | some i => by
    by_cases h : i = 0
    · subst h; simp [optD, PyData.eqv]
    · simp [optD, PyData.eqv, h]
theorem ixN_nat {n j : Nat} (h : j < n) : ixN n (j : Int) = some j := by
  unfold ixN
  rw [if_pos (by omega)]
  simp [h]
/-- people by their numbers, as values -/
def ppl (xs : List Nat) : List V := xs.map fun x : Nat => V.int (x : Int)
theorem small_lt {a n : Nat} (h : a ≤ n) (hn : n ≤ 300) : a < sizeLine := by
  have : 1000 ≤ sizeLine := by decide
  omega
theorem ppl_len (xs : List Nat) : (ppl xs).length = xs.length := List.length_map ..
theorem ppl_get {xs : List Nat} {i : Nat} (h : i < xs.length) : (ppl xs)[i]? = some (.int (xs[i] : Int)) := by
  unfold ppl
  rw [List.getElem?_map, List.getElem?_eq_getElem h]
  rfl
/-- what each of so many has left -/
def RestF (H : Hp) (D : Addr) (n : Nat) (f : RF) : Prop := ∃ kvs : List (Key × V), H D = some (.dK kvs) ∧ kvs.length ≤ n ∧ ∀ x < n, valV kvs (Sum.inl (x : Int)) = some (optV (f x))
/-- all but one object stays -/
def But (D : Addr) (H H' : Hp) : Prop := ∀ b o, b ≠ D → H b = some o → H' b = some o
theorem But.upd {D : Addr} {H H' : Hp} {o : HO} (b : But D H H') : But D H (upd H' D o) := fun c x nc e => by rw [upd_ne nc]; exact b c x nc e
theorem But.new {D p : Addr} {H H' : Hp} {o : HO} (b : But D H H') (hp : H' p = none) : But D H (L2.upd H' p o) := fun c x nc e => by
  have e2 := b c x nc e
  rw [upd_ne (ne_of_none e2 hp)]
  exact e2
theorem But.none {D p : Addr} {H H' : Hp} (b : But D H H') (n : p ≠ D) (hp : H' p = none) : H p = none := by
  cases q : H p with
  | none => rfl
  | some o => rw [b p o n q] at hp; cases hp
def spCame : Sp := fun vs H Q _ => ∃ (S D : Addr) (xs : List Nat) (n : Nat) (p : Option Int) (f : RF), vs = [.ref S, .ref D, .int n, optV p] ∧ H S = some (.lst (ppl xs)) ∧ RestF H D n f ∧ (∀ x ∈ xs, x < n) ∧ xs.Nodup ∧ xs.length ≤ 300 ∧ n ≤ 300 ∧
  ∀ T H' k f', CameX f f' xs n k p → But D H H' → H' T = some (.lst (ppl (xs.take k ++ n :: xs.drop k))) → H T = none → RestF H' D (n + 1) f' → Q (.ref T) H'
def spQueue : Sp := fun vs H Q _ => ∃ (A : Addr) (ps : List (Option Int)), vs = [.ref A] ∧ H A = some (.lst (ps.map optV)) ∧ ps.length ≤ 300 ∧ ∀ T H', Same H H' → H' T = some (.lst (ppl (queueF ps))) → H T = none → Q (.ref T) H'
theorem came_end {K : PySem.W.Frag} {H H4 : Hp} {S D : Addr} {xs : List Nat} {n k : Nat} {p : Option Int} {Q : VK} {f f' : RF} (eS : H S = some (.lst (ppl xs))) (hSD : S ≠ D) (hl : xs.length ≤ 300) (hk : k ≤ xs.length) (b4 : But D H H4) (r4 : RestF H4 D (n + 1) f') (hc : CameX f f' xs n k p)
    (q : ∀ T H' k f', CameX f f' xs n k p → But D H H' → H' T = some (.lst (ppl (xs.take k ++ n :: xs.drop k))) → H T = none → RestF H' D (n + 1) f' → Q (.ref T) H') :
    tOp rCat (tOp rCat (tSl (rSlL K) (tVar 0) tNoPart (tPart (tVar 4))) (tLst (tCons (tVar 2) tNil))) (tSl (rSlL K) (tVar 0) (tPart (tVar 4)) tNoPart) [some (.ref S), some (.ref D), some (.int n), some (optV p), some (.int (k : Int))] H4 Q := by
  have e4 := b4 S _ hSD eS
  have nD : ∀ {G : Hp} {t : Addr}, RestF G D (n + 1) f' → G t = none → t ≠ D := fun {G t} ⟨_, e, _⟩ nt z => by rw [z, e] at nt; cases nt
  have keep : ∀ {G : Hp} {t : Addr} {o : HO}, RestF G D (n + 1) f' → G t = none → RestF (upd G t o) D (n + 1) f' := fun {G t o} ⟨kvs, e, h⟩ nt => ⟨kvs, by rw [upd_ne (ne_of_none e nt)]; exact e, h⟩
  have pl := ppl_len xs
  refine ⟨.ref S, rfl, .int k, rfl, k, rfl, S, _, rfl, SqL.of e4, fun p1 n1 => ⟨.int n, rfl, small_le (by show 1 ≤ 1000; decide), fun p2 n2 => ?_⟩⟩
  rw [cut_to]
  rw [cut_to] at n2
  have b5 : But D H (upd H4 p1 (.lst ((ppl xs).take k))) := b4.new n1
  have r5 := keep (o := .lst ((ppl xs).take k)) r4 n1
  have e5 : (upd H4 p1 (.lst ((ppl xs).take k))) p1 = some (.lst ((ppl xs).take k)) := upd_same
  generalize upd H4 p1 (.lst ((ppl xs).take k)) = H5 at b5 r5 e5 n2
  have b6 : But D H (upd H5 p2 (.lst [.int (n : Int)])) := b5.new n2
  have r6 := keep (o := .lst [.int (n : Int)]) r5 n2
  have e6 : (upd H5 p2 (.lst [.int (n : Int)])) p2 = some (.lst [.int (n : Int)]) := upd_same
  have e61 : (upd H5 p2 (.lst [.int (n : Int)])) p1 = some (.lst ((ppl xs).take k)) := by rw [upd_ne (ne_of_none e5 n2)]; exact e5
  generalize upd H5 p2 (.lst [.int (n : Int)]) = H6 at b6 r6 e6 e61
  refine ⟨p1, p2, _, _, rfl, rfl, e61, e6, small_add (by rw [List.length_take]; omega) (by show 1 ≤ 1000; decide), fun p3 n3 => ?_⟩
  have b7 : But D H (upd H6 p3 (.lst ((ppl xs).take k ++ [.int (n : Int)]))) := b6.new n3
  have r7 := keep (o := .lst ((ppl xs).take k ++ [.int (n : Int)])) r6 n3
  have e7 : (upd H6 p3 (.lst ((ppl xs).take k ++ [.int (n : Int)]))) p3 = some (.lst ((ppl xs).take k ++ [.int (n : Int)])) := upd_same
  generalize upd H6 p3 (.lst ((ppl xs).take k ++ [.int (n : Int)])) = H7 at b7 r7 e7
  refine ⟨.ref S, rfl, .int k, rfl, k, rfl, S, _, rfl, SqL.of (b7 S _ hSD eS), fun p4 n4 => ?_⟩
  rw [cut_from]
  have b8 : But D H (upd H7 p4 (.lst ((ppl xs).drop k))) := b7.new n4
  have r8 := keep (o := .lst ((ppl xs).drop k)) r7 n4
  have e8 : (upd H7 p4 (.lst ((ppl xs).drop k))) p4 = some (.lst ((ppl xs).drop k)) := upd_same
  have e83 : (upd H7 p4 (.lst ((ppl xs).drop k))) p3 = some (.lst ((ppl xs).take k ++ [.int (n : Int)])) := by rw [upd_ne (ne_of_none e7 n4)]; exact e7
  generalize upd H7 p4 (.lst ((ppl xs).drop k)) = H8 at b8 r8 e8 e83
  refine ⟨p3, p4, _, _, rfl, rfl, e83, e8, small_add (by rw [List.length_append, List.length_take]; show _ + 1 ≤ _; omega) (by rw [List.length_drop]; omega), fun p5 n5 => ?_⟩
  have n0 := b8.none (nD r8 n5) n5
  refine q p5 _ k f' hc (b8.new n5) ?_ n0 (keep r8 n5)
  rw [upd_same]
  unfold ppl
  rw [List.map_append, List.map_cons, List.map_take, List.map_drop, List.append_assoc]
  rfl
section
variable {P : Program} {w : World} {K : PySem.W.Frag} {mg : Str → Option Value} {base : Heap}
theorem ok_came {fa : Addr} {fd : FuncData} (F : Fun K "_law_came" "_law_came" sCame fa fd) (hlen : mg "len" = none) : FnOk P w K mg base CX0 1 fa fd ["stand", "rest", "number", "patience"] spCame := by
  refine F.ok scCame (fun vs H Q E ⟨S, D, xs, n, p, f, e, _⟩ => by rw [e]; rfl) (fun cdv A outer s H vs Q E hr h => ?_)
  obtain ⟨S, D, xs, n, p, f, rfl, eS, hR, hx, hnd, hl, hn, q⟩ := h
  have nd := scCame.nd
  have hu := hu_of hr
  refine ⟨_, (pss_cons (ps_set (i := 4) nd rfl (.inl rfl) (pe_callB call_len_seq (by rfl) hlen PySem.boot_len (pa_cons (pv 0) pa_nil)))
    (pss_cons (ps_while PassesOwn.never (PW.pt (pw_and (pt_cmpR op_gt (pv 4) pe_int (nomark _)) (pw_and1 (pt_cmpR (op_neD hr.units) (pe_dget hu (pv 1) (pe_ix ix_list (pv 0) (pe_op op_sub (pv 4) pe_int) (fun _ _ => rfl)) (fun _ _ => rfl)) pe_int (nomark _)))))
      (pss_cons (ps_set (i := 4) nd rfl (.inl rfl) (pe_op op_sub (pv 4) pe_int))
      (pss_one (ps_if (pt_cmp (pc_notN (pe_dget hu (pv 1) (pe_ix ix_list (pv 0) (pv 4) (fun _ _ => rfl)) (fun _ _ => rfl))))
        (pss_one (ps_dput hu (pv 1) (pe_ix ix_list (pv 0) (pv 4) (fun _ _ => rfl)) (pe_op op_sub (pe_dget hu (pv 1) (pe_ix ix_list (pv 0) (pv 4) (fun _ _ => rfl)) (fun _ _ => rfl)) pe_int) rfl)) pss_nil))))
    (pss_cons (ps_dput hu (pv 1) (pv 2) (pv 3) rfl)
    (pss_one (ps_ret (pe_op op_cat (pe_op op_cat (pe_slice sl_list (pv 0) po_none (po_some (pv 4))) (pe_lst (pa_cons (pv 2) pa_nil))) (pe_slice sl_list (pv 0) (po_some (pv 4)) po_none))))))), ?_⟩
  have hSD : S ≠ D := fun z => by
    obtain ⟨kvs, e, _⟩ := hR
    rw [← z, eS] at e
    cases e
  refine ⟨.ref S, rfl, S, _, rfl, .inl (SqL.of eS), ?_⟩
  rw [ppl_len]
  refine ⟨fun k σ H3 => σ = [some (.ref S), some (.ref D), some (.int n), some (optV p), some (.int (k : Int))] ∧ But D H H3 ∧ k ≤ xs.length ∧ ∃ g : RF, RestF H3 D n g ∧ goes k (xs.map g) = goes xs.length (xs.map f),
    ⟨xs.length, rfl, fun _ _ _ e => e, Nat.le_refl _, f, hR, rfl⟩, fun k σ H3 hW => ?_⟩
  obtain ⟨rfl, hB, hk, g, ⟨kvs, hkv, hkl, hkx⟩, hgo0⟩ := hW
  have hfn : xs.map (fun x => if x = n then p else g x) = xs.map g := List.map_congr_left fun x hx' => if_neg (by have := hx x hx'; omega)
  have e3 := hB S _ hSD eS
  cases k with
  | zero =>
    refine ⟨.int ((0 : Nat) : Int), rfl, ((0 : Nat) : Int), 0, rfl, rfl, decide ((0 : Int) < ((0 : Nat) : Int)), rfl, iteF ?_⟩
    refine ⟨optV p, rfl, .ref D, rfl, .int n, rfl, D, _, rfl, DPut.k (k := Sum.inl (n : Int)) hkv (small_lt hkl hn), ?_⟩
    have b4 : But D H (upd H3 D (.dK (putK kvs (Sum.inl (n : Int)) (optV p)))) := hB.upd
    have r4 : RestF (upd H3 D (.dK (putK kvs (Sum.inl (n : Int)) (optV p)))) D (n + 1) (fun x => if x = n then p else g x) := ⟨_, upd_same, Nat.le_trans (length_putK _ _ _) (Nat.succ_le_succ hkl), fun x hx => by
      rw [valV_put]
      by_cases hxn : x = n
      · rw [if_pos (by rw [hxn])]; exact congrArg (fun z => some (optV z)) (if_pos hxn).symm
      · rw [if_neg (fun z => hxn (by have := Sum.inl.inj z; omega))]
        rw [hkx x (by omega)]; exact congrArg (fun z => some (optV z)) (if_neg hxn).symm⟩
    exact came_end eS hSD hl hk b4 r4 ⟨by rw [← hgo0]; rfl, by rw [hfn, ← hgo0]; rfl, if_pos rfl⟩ q
  | succ k' =>
    have hk' : k' < xs.length := by omega
    have hi1 : ((k' + 1 : Nat) : Int) - 1 = (k' : Int) := by omega
    have hat : atI (ppl xs) (((k' + 1 : Nat) : Int) - 1) = some (.int (xs[k'] : Int)) := by rw [hi1]; exact atI_nat (ppl_get hk')
    have hat2 : atI (ppl xs) (k' : Int) = some (.int (xs[k'] : Int)) := atI_nat (ppl_get hk')
    have ho := hkx xs[k'] (hx _ (List.getElem_mem hk'))
    generalize hgo : g xs[k'] = o at ho
    have dg : DGet H3 D (.int (xs[k'] : Int)) (some (optV o)) := by rw [← ho]; exact DGet.k (k := Sum.inl (xs[k'] : Int)) hkv
    refine ⟨.int ((k' + 1 : Nat) : Int), rfl, ((k' + 1 : Nat) : Int), 0, rfl, rfl, decide ((0 : Int) < ((k' + 1 : Nat) : Int)), rfl, ?_⟩
    rw [decide_eq_true (by omega : (0 : Int) < ((k' + 1 : Nat) : Int))]
    refine iteT ⟨.ref D, rfl, .ref S, rfl, .int ((k' + 1 : Nat) : Int), rfl, ((k' + 1 : Nat) : Int), 1, rfl, rfl, S, _, ((k' + 1 : Nat) : Int) - 1, .int (xs[k'] : Int), rfl, rfl, SqL.of e3, hat, D, optV o, rfl, dg, optD o, .int 0, optV_dp o, .int 0, optD_shaped o, optD_shaped (some 0), _, rfl, ?_⟩
    rw [optV_ne0]
    by_cases hz : o = some 0
    · rw [decide_eq_true hz]
      refine iteF ⟨optV p, rfl, .ref D, rfl, .int n, rfl, D, _, rfl, DPut.k (k := Sum.inl (n : Int)) hkv (small_lt hkl hn), ?_⟩
      have b4 : But D H (upd H3 D (.dK (putK kvs (Sum.inl (n : Int)) (optV p)))) := hB.upd
      have r4 : RestF (upd H3 D (.dK (putK kvs (Sum.inl (n : Int)) (optV p)))) D (n + 1) (fun x => if x = n then p else g x) := ⟨_, upd_same, Nat.le_trans (length_putK _ _ _) (Nat.succ_le_succ hkl), fun x hx => by
        rw [valV_put]
        by_cases hxn : x = n
        · rw [if_pos (by rw [hxn])]; exact congrArg (fun z => some (optV z)) (if_pos hxn).symm
        · rw [if_neg (fun z => hxn (by have := Sum.inl.inj z; omega))]
          rw [hkx x (by omega)]; exact congrArg (fun z => some (optV z)) (if_neg hxn).symm⟩
      have hg2 : goes (k' + 1) (xs.map g) = (k' + 1, xs.map g) := by
        unfold goes
        rw [List.getElem?_map, List.getElem?_eq_getElem hk', Option.map_some, hgo, hz]
        rfl
      exact came_end eS hSD hl hk b4 r4 ⟨by rw [← hgo0, hg2], by rw [hfn, ← hgo0, hg2], if_pos rfl⟩ q
    · rw [decide_eq_false hz]
      cases o with
      | none =>
        have hg2 : goes k' (xs.map g) = goes xs.length (xs.map f) := by
          rw [← hgo0]
          conv => rhs; unfold goes
          rw [List.getElem?_map, List.getElem?_eq_getElem hk', Option.map_some, hgo]
        refine iteT ⟨fun σ' H'' => σ' = [some (.ref S), some (.ref D), some (.int n), some (optV p), some (.int (((k' + 1 : Nat) : Int) - 1))] ∧ H'' = H3, fun σ' H'' z => ⟨k', Nat.lt_succ_self k', by rw [z.1, hi1], by rw [z.2]; exact hB, by omega, g, by rw [z.2]; exact ⟨kvs, hkv, hkl, hkx⟩, hg2⟩, ?_⟩
        exact ⟨.int ((k' + 1 : Nat) : Int), rfl, ((k' + 1 : Nat) : Int), 1, rfl, rfl, .ref D, rfl, .ref S, rfl, .int (((k' + 1 : Nat) : Int) - 1), rfl, S, _, ((k' + 1 : Nat) : Int) - 1, .int (xs[k'] : Int), rfl, rfl, SqL.of e3, hat, D, optV none, rfl, dg, _, rfl, iteF ⟨rfl, rfl⟩⟩
      | some j =>
        have hg2 : goes k' (xs.map (fun x => if x = xs[k'] then some (j - 1) else g x)) = goes xs.length (xs.map f) := by
          rw [← hgo0, map_set hnd hk']
          conv => rhs; unfold goes
          rw [List.getElem?_map, List.getElem?_eq_getElem hk', Option.map_some, hgo]
          exact (if_neg (fun y => hz (by rw [y]))).symm
        refine iteT ⟨fun σ' H'' => σ' = [some (.ref S), some (.ref D), some (.int n), some (optV p), some (.int (((k' + 1 : Nat) : Int) - 1))] ∧ But D H H'' ∧ RestF H'' D n (fun x => if x = xs[k'] then some (j - 1) else g x), fun σ' H'' z => ⟨k', Nat.lt_succ_self k', by rw [z.1, hi1], z.2.1, by omega, _, z.2.2, hg2⟩, ?_⟩
        refine ⟨.int ((k' + 1 : Nat) : Int), rfl, ((k' + 1 : Nat) : Int), 1, rfl, rfl, .ref D, rfl, .ref S, rfl, .int (((k' + 1 : Nat) : Int) - 1), rfl, S, _, ((k' + 1 : Nat) : Int) - 1, .int (xs[k'] : Int), rfl, rfl, SqL.of e3, hat, D, optV (some j), rfl, dg, _, rfl, iteT ?_⟩
        refine ⟨.ref D, rfl, .ref S, rfl, .int (((k' + 1 : Nat) : Int) - 1), rfl, S, _, ((k' + 1 : Nat) : Int) - 1, .int (xs[k'] : Int), rfl, rfl, SqL.of e3, hat, D, optV (some j), rfl, dg, j, 1, rfl, rfl, .ref D, rfl, .ref S, rfl, .int (((k' + 1 : Nat) : Int) - 1), rfl, S, _, ((k' + 1 : Nat) : Int) - 1, .int (xs[k'] : Int), rfl, rfl, SqL.of e3, hat, D, _, rfl, DPut.k (k := Sum.inl (xs[k'] : Int)) hkv (small_lt hkl hn), rfl, hB.upd, _, upd_same, ?_, fun x hx' => ?_⟩
        · have hsome : (valV kvs (Sum.inl (xs[k'] : Int))).isSome = true := by rw [ho]; rfl
          unfold putK
          rw [if_pos (by rw [valV_any]; exact hsome), List.length_map]
          exact hkl
        · rw [valV_put]
          by_cases hxk : (x : Int) = (xs[k'] : Int)
          · have hxk' : x = xs[k'] := by omega
            rw [if_pos (by rw [hxk])]
            show some (optV (some (j - 1))) = some (optV (if x = xs[k'] then some (j - 1) else g x))
            rw [if_pos hxk']
          · have hxk' : ¬ x = xs[k'] := fun z => hxk (congrArg (fun y : Nat => (y : Int)) z)
            rw [if_neg (fun z => hxk (Sum.inl.inj z)), hkx x hx']
            exact congrArg (fun z => some (optV z)) (if_neg hxk').symm
end
end CL
set_option Elab.async false
set_option linter.all false
set_option maxRecDepth 100000
set_option maxHeartbeats 4000000
namespace CL
open PySem PySem.Spec PyProof.Rows L2 GE
theorem small1000 {n : Nat} (h : n < 1000) : n < sizeLine := by
  have : 1000 ≤ sizeLine := by decide
  omega
theorem range_ppl (m : Nat) : rgV 0 (m : Int) = ppl (List.range m) := by
  unfold rgV ppl
  have e : ((m : Int) - 0).toNat = m := by omega
  rw [e]
  refine List.map_congr_left fun i _ => ?_
  rw [Int.zero_add]
theorem seq_nat {n j : Nat} (h : j < n) : seqIndex? (j : Int) n = some j := by
  unfold seqIndex?
  have h1 : ¬ ((j : Int) < 0) := by omega
  simp [h1, h]
theorem len_blk {X : Cx} {s : Shared} {H : Hp} {scope : Scope} {cenv : Env} {fp : List Addr} : CallR (X.blk s H scope cenv fp) (.builtin "len") (fun xs H Q => ∃ p ys, xs = [.ref p] ∧ (SqL X.K H p ys ∨ SqT X.K H p ys) ∧ Q (.int ys.length) H) := call_len_seq
theorem pop_blk {X : Cx} {s : Shared} {H : Hp} {scope : Scope} {cenv : Env} {fp : List Addr} {o e : Expr} {apos cpos : Pos} {to : TE} {t : TA} (ho : PE (X.blk s H scope cenv fp) o to) (ha : PA (X.blk s H scope cenv fp) [e] t)
    (hbase : attributeBase o "pop" (X.blk s H scope cenv fp).env (eval o (X.blk s H scope cenv fp).env) = eval o (X.blk s H scope cenv fp).env := by rfl)
    (hfew : ((backTo cpos (starEach [e] (X.blk s H scope cenv fp).env)).all (fun x => !x.1) && (backToKw cpos (keywordEach [] (X.blk s H scope cenv fp).env)).all (fun x => x.1.isSome)
      && decide ([e].length + ([] : List Keyword).length + (if ([] : List Keyword).isEmpty then 0 else 1) < 30)) = true := by rfl)
    (hline : (apos.endLine == cpos.line) = true := by rfl) (hs : starEach [e] (X.blk s H scope cenv fp).env = (false, eval e (X.blk s H scope cenv fp).env) :: starEach [] (X.blk s H scope cenv fp).env := by rfl) (hplain : (backTo cpos (starEach [] (X.blk s H scope cenv fp).env)).any (·.1) = false := by rfl) :
    PE (X.blk s H scope cenv fp) (.Call (.Attribute o "pop" apos) [e] [] cpos) (tBM X.K "list" rPopAt to t) :=
  pe_bm PySem.F.plainAttrs_list PySem.F.slot_list_pop PySem.F.type_list_pop mt_popAt ho ha hbase hfew hline hs hplain
theorem erase_ppl : ∀ (xs : List Nat) (j : Nat), (ppl xs).eraseIdx j = ppl (xs.eraseIdx j)
  | [], _ => rfl
  | _ :: _, 0 => rfl
  | x :: xs, j + 1 => congrArg (V.int (x : Int) :: ·) (erase_ppl xs j)
theorem perm_erase {xs : List Nat} : ∀ {j : Nat} (h : j < xs.length), xs.Perm ([xs[j]] ++ xs.eraseIdx j) := by
  induction xs with
  | nil => intro j h; exact absurd h (Nat.not_lt_zero j)
  | cons x xs ih =>
    intro j h
    cases j with
    | zero => exact .refl _
    | succ j => exact ((ih (j := j) (Nat.lt_of_succ_lt_succ h)).cons x).trans (List.Perm.swap _ _ _)
section
variable {P : Program} {w : World} {K : PySem.W.Frag} {mg : Str → Option Value} {base : Heap}
theorem ok_queue {f : Addr} {fd : FuncData} (F : Fun K "_law_queue" "_law_queue" sQueue f fd) (henum : mg "enumerate" = none) (CC : Cal P w K mg base 1 "_law_came" ["stand", "rest", "number", "patience"] spCame) : FnOk P w K mg base CX0 2 f fd ["patiences"] spQueue := by
  refine F.ok scQueue (fun vs H Q E ⟨A, ps, e, _⟩ => by rw [e]; rfl) (fun cdv A' outer s H vs Q E hr h => ?_)
  obtain ⟨A, ps, rfl, eA, hl, q⟩ := h
  have nd := scQueue.nd
  refine ⟨_, (pss_cons (ps_set (i := 1) nd rfl (.inl rfl) (pe_lst pa_nil)) (pss_cons (ps_set (i := 2) nd rfl (.inl rfl) pe_dnewK)
    (pss_cons (ps_for PassesOwn.never rfl (pi_enum (by rfl) henum (pa_cons (pv 0) pa_nil)) (pg_tup rfl (pgs_cons (pg_name (i := 3) nd rfl (.inl rfl)) (pgs_cons (pg_name (i := 4) nd rfl (.inl rfl)) pgs_nil)))
      (pss_one (ps_set (i := 1) nd rfl (.inl rfl) (pe_cal CC hr (by rfl) (pa_cons (pv 1) (pa_cons (pv 2) (pa_cons (pv 3) (pa_cons (pv 4) pa_nil))))))))
    (pss_one (ps_ret (pv 1)))))), ?_⟩
  refine ⟨Nat.zero_le _, fun S nS => fun D nD => ?_⟩
  have s1 := same_upd (o := .lst []) nS
  have e1 : (upd H S (.lst [])) S = some (.lst []) := upd_same
  have nSD : S ≠ D := fun z => by rw [← z, e1] at nD; cases nD
  have nD0 : H D = none := s1.free nD
  have s2 := s1.trans (same_upd (o := .dK []) nD)
  have e2 : (upd (upd H S (.lst [])) D (.dK [])) S = some (.lst []) := by rw [upd_ne nSD]; exact e1
  have d2 : (upd (upd H S (.lst [])) D (.dK [])) D = some (.dK []) := upd_same
  generalize upd (upd H S (.lst [])) D (.dK []) = H2 at s2 e2 d2
  refine ⟨.ref A, rfl, A, _, rfl, SqL.of (s2 _ _ eA), for_it walk_enum (fun i σ H3 => ∃ (S : Addr) (y3 y4 : Option V), σ = [some (.ref A), some (.ref S), some (.ref D), y3, y4] ∧ Same H H3 ∧ H3 S = some (.lst (ppl (lin ps i).1)) ∧ H S = none ∧ ∃ f, RestF H3 D i f ∧ (lin ps i).1.map f = (lin ps i).2)
    ⟨S, none, none, rfl, s2, e2, nS, fun _ => none, ⟨[], d2, Nat.le_refl _, fun x hx => absurd hx (Nat.not_lt_zero x)⟩, rfl⟩
    (fun i σ H3 _ ⟨S, y3, y4, _, s3, _⟩ => SqL.of (s3 _ _ eA)) (fun i x σ H3 H4 hi hP hY => ?_) (fun σ H3 hP => ?_)⟩
  · obtain ⟨S, y3, y4, rfl, s3, e3, nS, f, hR, hfl⟩ := hP
    obtain ⟨T, x, y, rfl, nT, rfl, hx, hy⟩ := hY
    obtain rfl := Option.some.inj hx
    rw [List.length_map] at hi
    obtain rfl : y = optV ps[i] := by
      have hy : (List.map optV ps)[i]? = some y := hy
      rw [List.getElem?_map, List.getElem?_eq_getElem hi] at hy
      exact (Option.some.inj hy).symm
    have s4 : Same H3 (upd H3 T (.tup [.int (i : Int), optV ps[i]])) := same_upd nT
    refine ⟨T, _, rfl, SqT.of upd_same, rfl, .int (i : Int), _, rfl, optV ps[i], _, rfl, rfl, ?_⟩
    generalize upd H3 T (.tup [.int (i : Int), optV ps[i]]) = H4 at s4
    have hR4 : RestF H4 D i f := by obtain ⟨kvs, e, h⟩ := hR; exact ⟨kvs, s4 _ _ e, h⟩
    have hp := (lin_perm ps i).1
    have hxl : ∀ x ∈ (lin ps i).1, x < i := fun x hx => List.mem_range.mp (hp.mem_iff.mp hx)
    refine ⟨.ref S, rfl, .ref D, rfl, .int (i : Int), rfl, optV ps[i], rfl, S, D, (lin ps i).1, i, ps[i], f, rfl, s4 _ _ e3, hR4, hxl, hp.nodup_iff.mpr List.nodup_range, by rw [hp.length_eq, List.length_range]; omega, by omega, fun T5 H5 k f' hc hb e5 n5 hR5 => ?_⟩
    have hst : lin ps (i + 1) = ((lin ps i).1.take k ++ i :: (lin ps i).1.drop k, ((lin ps i).1.take k ++ i :: (lin ps i).1.drop k).map f') := by
      rw [← hc.put]
      show put (lin ps i) i (ps.getD i none) = _
      rw [List.getD_eq_getElem?_getD, List.getElem?_eq_getElem hi, hfl]
      rfl
    exact ⟨T5, _, _, rfl, fun b o e => hb b o (fun z => by rw [z, nD0] at e; cases e) ((s3.trans s4) _ _ e), by rw [hst]; exact e5, (s3.trans s4).free n5, f', hR5, by rw [hst]⟩
  · obtain ⟨S, y3, y4, rfl, s3, e3, nS, f, hR, hfl⟩ := hP
    rw [List.length_map] at e3
    exact ⟨.ref S, rfl, q S H3 s3 e3 nS⟩
end
end CL
set_option Elab.async false
set_option linter.all false
set_option maxRecDepth 100000
set_option maxHeartbeats 4000000
namespace CL
open PySem PySem.Spec PyProof.Rows L2 GE
/-! ### sorted(row) of whole numbers, a list or a tuple -/
section
variable {P : Program} {w : World} {A : Around} {E : Value → Shared → Prop} {t : Shared}
/-- a fresh list of what a tuple holds -/
abbrev taken (h : Heap) (us : List Value) : Heap := Heap.update (Heap.push h (seqObj "list" #[] 0)) h.objs.size (Obj.mapSeq fun z => z ++ us.toArray)
theorem grab_tup {b : Addr} {us : List Value} {R : List Value → Shared → Prop} {ob : Obj} {c : Nat} (hob : t.heap.get? b = some ob) (hcl : ob.cls = .type "tuple") (hda : ob.data = .seq us.toArray c)
    (hle : us.length ≤ sizeLine) (hr : R us { t with heap := taken t.heap us }) : wpAny (model P w) A (collect (.ref b)) R E t := by
  have up : (t.heap.push (seqObj "list" #[] 0)).get? b = some ob := Heap.get?_push_of_some _ hob
  have own : (t.heap.push (seqObj "list" #[] 0)).get? t.heap.objs.size = some (seqObj "list" #[] 0) := Heap.get?_push_size _ rfl
  unfold collect
  refine wpAny_bind (wpAny_runValue (codeAny_builtin entry_proto_collect' (?_ : wpAny _ _ (do again (.builtin "list.__iadd__" ⟨[← newList [], .ref b], []⟩)) _ _ t)))
  refine wpAny_bind (wpAny_newList (wpAny_pure ⟨Code.quiet_builtin _ (by decide +kernel), codeAny_builtin entry_list_iadd' ?_⟩))
  show wpAny _ _ (Builtin.List.listExtendWith (.ref t.heap.objs.size) (.ref b) (.ref t.heap.objs.size)) _ _ { t with heap := Heap.push t.heap (seqObj "list" #[] 0) }
  unfold Builtin.List.listExtendWith
  refine wpAny_bind (wpAny_typeOf (T := "tuple") ⟨ob, up, hcl⟩ ?_)
  have isT : (Value.type "tuple" == Value.type "tuple") = true := by rfl
  rw [if_pos (show (Builtin.List.listSameRef (.ref t.heap.objs.size) (.ref b) || Value.type "tuple" == .type "list" || Value.type "tuple" == .type "tuple") = true by rw [isT, Bool.or_true])]
  refine wpAny_bind (listItems_at up hda (wpAny_bind (listItems_at (n := 0) (xs := #[]) own rfl ?_)))
  rw [if_neg (show ¬ (!(#[] : Array Value).isEmpty && Builtin.List.listTooLong ((#[] : Array Value).size + us.toArray.size)) = true by simp)]
  refine wpAny_bind (listUpdate_at (n := 0) (xs := #[]) own rfl (wpAny_pure ?_) (Nat.zero_le _) (Nat.le_succ_of_le (by simpa using hle)))
  have got : (taken t.heap us).get? t.heap.objs.size = some (Obj.mapSeq (fun z => z ++ us.toArray) (seqObj "list" #[] 0)) := Heap.get?_update_self _ own rfl
  show wpAny (model P w) A (load t.heap.objs.size >>= fun o => match o.data with
    | .seq xs _ => pure xs.toList
    | _ => unsupported "internal:collect") R E { t with heap := taken t.heap us }
  refine wpAny_bind (wpAny_load got ?_)
  have e : ((#[] : Array Value) ++ us.toArray).toList = us := by simp
  show wpAny _ _ (pure ((#[] : Array Value) ++ us.toArray).toList) R E _
  rw [e]
  exact wpAny_pure hr
theorem sorted_tup {b : Addr} {us : List Value} {ns : List Int} {R : Value → Shared → Prop} {ob : Obj} {c : Nat} (hob : t.heap.get? b = some ob) (hcl : ob.cls = .type "tuple") (hda : ob.data = .seq us.toArray c) (hI : IntsAre us ns) (hfew : us.length < 64)
    (hr : ∀ (out : Array Value) (ms : List Int), IntsAre out.toList ms → ms.Perm ns → ms.Pairwise (· ≤ ·) → R (.ref (t.heap.objs.size + 1)) { t with heap := sortedAll t.heap us out }) : wpAny (model P w) A (call (.builtin "sorted") [.ref b]) R E t := by
  have hle : us.length ≤ sizeLine := small64 hfew
  refine Calls.call_function_entry kind_sorted plain_sorted entry_sorted (args_sorted1 (.ref b)) ?_
  unfold Builtin.«sorted»
  refine wpAny_bind (m := checkCount "sorted" 1 1 _) (wpAny_pure (wpAny_bind (grab_tup hob hcl hda hle (wpAny_bind (wpAny_newList ?_ hle)))))
  have sz : (taken t.heap us).objs.size = t.heap.objs.size + 1 := (Heap.size_update ..).trans (size_push' ..)
  have mine : ((taken t.heap us).push (seqObj "list" us.toArray 0)).get? (t.heap.objs.size + 1) = some (seqObj "list" us.toArray 0) := by
    have z : ((taken t.heap us).push (seqObj "list" us.toArray 0)).get? (taken t.heap us).objs.size = some (seqObj "list" us.toArray 0) := Heap.get?_push_size _ rfl
    rwa [sz] at z
  show wpAny _ _ _ _ _ { t with heap := (taken t.heap us).push (seqObj "list" us.toArray 0) }
  rw [sz]
  exact wpAny_bind (wpAny_holding (wpAny_call_entry slot_list_sort ⟨_, mine, rfl⟩ entry_list_sort (list_sort_tree mine hI hfew fun out ms a1 a2 a3 => ⟨_, rfl, wpAny_pure ⟨_, rfl, hr out ms a1 a2 a3⟩⟩) (args_list_sort _)))
end
def rSortedX (K : PySem.W.Frag) : List V → Hp → VK → Prop := fun vs H Q => ∃ (a : Addr) (ns : List Int), vs = [V.ref a] ∧ (SqL K H a (ns.map V.int) ∨ SqT K H a (ns.map V.int)) ∧ ns.length < 64 ∧ ∀ (ms : List Int) (p : Addr), ms.Perm ns → ms.Pairwise (· ≤ ·) → H p = none → Q (.ref p) (upd H p (.lst (ms.map V.int)))
theorem cr_sortedX {X : Cx} : CallR X (.builtin "sorted") (rSortedX X.K) := by
  intro pins s σ H vs us Q I r ⟨a, ns, ev, hs, h64, q⟩
  subst ev
  rcases hs with hs | hs
  · exact cr_sorted pins s σ H _ us Q I r ⟨a, ns, rfl, hs, h64, q⟩
  · obtain ⟨its, rv, ⟨ob, hob, hcl, c, hda⟩, _⟩ := I.tuple hs
    have hi := rv.ints
    rw [Vals.ref1 r]
    refine sorted_tup hob hcl hda hi (by rw [hi.length]; exact h64) fun out ms h1 h2 h3 => ?_
    obtain ⟨ep, he⟩ := PyProof.Rows.sortedAll_at s.heap its out
    have few : (ms.map V.int).length ≤ sizeLine := by rw [List.length_map, h2.length_eq]; exact small64 h64
    have ok : ObjOk X.prog X.w (upd H (s.heap.objs.size + 1) (.lst (ms.map V.int))) (sortedAll s.heap its out) (s.heap.objs.size + 1) (.lst (ms.map V.int)) := ⟨few, out.toList, ep, vals_of_ints h1, he⟩
    exact ⟨.ref (s.heap.objs.size + 1), _, I.laid (t' := s.toks) (fun _ _ => PyProof.Rows.sortedAll_old) (Nat.le_succ _) ok, rfl, q ms _ h2 h3 (I.hok.fresh (Nat.le_succ _))⟩
end CL
set_option Elab.async false
set_option linter.all false
set_option maxRecDepth 100000
set_option maxHeartbeats 4000000
namespace CL
open PySem PySem.Spec PyProof.Rows L2 GE
/-! ### orders, as the document tells -/
theorem eqvAll_ints : ∀ as bs : List Int, PyData.eqvAll (as.map PyData.int) (bs.map PyData.int) = decide (as = bs)
  | [], [] => by simp [PyData.eqvAll]
  | [], b :: bs => by simp [PyData.eqvAll]
  | a :: as, [] => by simp [PyData.eqvAll]
  | a :: as, b :: bs => by
    have ih := eqvAll_ints as bs
    simp only [List.map_cons, PyData.eqvAll, ih, List.cons.injEq, PyData.eqv]
    by_cases h : a = b
    · simp [h]
    · simp [h]
theorem eqv_ints (as bs : List Int) : PyData.eqv (.list (as.map PyData.int)) (.list (bs.map PyData.int)) = decide (as = bs) := by
  have := eqvAll_ints as bs
  simp [PyData.eqv, this]
def up (n : Nat) : List Int := (List.range n).map fun i : Nat => (i : Int)
theorem up_len (n : Nat) : (up n).length = n := by unfold up; rw [List.length_map, List.length_range]
theorem up_mem {n : Nat} {x : Int} : x ∈ up n ↔ ∃ i < n, x = (i : Int) := by
  unfold up
  rw [List.mem_map]
  exact ⟨fun ⟨i, h, e⟩ => ⟨i, List.mem_range.mp h, e.symm⟩, fun ⟨i, h, e⟩ => ⟨i, List.mem_range.mpr h, e.symm⟩⟩
theorem up_pair : ∀ n, (up n).Pairwise (· ≤ ·)
  | 0 => .nil
  | n + 1 => by
    unfold up
    rw [List.range_succ, List.map_append, List.pairwise_append]
    refine ⟨up_pair n, by simp, fun a ha b hb => ?_⟩
    obtain ⟨i, hi, rfl⟩ := up_mem.mp ha
    have hb' : b = (n : Int) := by simpa using hb
    rw [hb']
    omega
theorem up_nodup (n : Nat) : (up n).Nodup := by
  unfold up
  refine List.pairwise_map.mpr ?_
  exact (List.nodup_range (n := n)).imp fun h z => h (by omega)
/-- what holds all of a list without doubles, and is no longer, is the same in another order -/
theorem perm_of_sub {α : Type} [BEq α] [LawfulBEq α] : ∀ {as bs : List α}, as.Nodup → (∀ x ∈ as, x ∈ bs) → bs.length ≤ as.length → bs.Perm as
  | [], bs, _, _, h => by
    obtain rfl := List.eq_nil_of_length_eq_zero (Nat.le_zero.mp h)
    exact .refl _
  | a :: as, bs, nd, h, hl => by
    have hm := h a List.mem_cons_self
    have p := List.perm_cons_erase hm
    obtain ⟨na, nd'⟩ := List.nodup_cons.mp nd
    have l := p.length_eq
    rw [List.length_cons] at l hl
    refine p.trans ((perm_of_sub nd' (fun x hx => ?_) (by omega)).cons a)
    exact (List.mem_erase_of_ne (fun z => na (by rw [← z]; exact hx))).mpr (h x (List.mem_cons_of_mem _ hx))
def isOrderI (ns : List Int) : Bool := (List.range ns.length).all fun i : Nat => decide ((i : Int) ∈ ns)
def isOrderL (ds : List PyData) : Bool := decide (ds.length ≤ 60) && ds.all isWhole && isOrderI (ds.map worth)
def isOrder (d : PyData) : Bool := match rowsD d with
  | some ds => isOrderL ds
  | none => false
theorem sorted_up {ns ms : List Int} (hp : ms.Perm ns) (hs : ms.Pairwise (· ≤ ·)) : decide (ms = up ns.length) = isOrderI ns := by
  have h : ms = up ns.length ↔ isOrderI ns = true := by
    constructor
    · intro e
      unfold isOrderI
      rw [List.all_eq_true]
      intro i hi
      refine decide_eq_true (hp.mem_iff.mp ?_)
      rw [e]
      exact up_mem.mpr ⟨i, List.mem_range.mp hi, rfl⟩
    · intro e
      unfold isOrderI at e
      rw [List.all_eq_true] at e
      have p : ns.Perm (up ns.length) := perm_of_sub (up_nodup _) (fun x hx => by
        obtain ⟨i, hi, rfl⟩ := up_mem.mp hx
        exact of_decide_eq_true (e i (List.mem_range.mpr hi))) (by rw [up_len]; exact Nat.le_refl _)
      exact List.Perm.eq_of_pairwise (fun a b _ _ h1 h2 => Int.le_antisymm h1 h2) hs (up_pair _) (hp.trans p)
  by_cases z : isOrderI ns = true
  · rw [z]; exact decide_eq_true (h.mpr z)
  · rw [Bool.eq_false_iff.mpr z]; exact decide_eq_false fun y => z (h.mp y)
/-- whole numbers, as values -/
theorem rp_ints {H : Hp} : ∀ {ds : List PyData} {vs : List V}, RpAll H vs ds → ds.all isWhole = true → vs = (ds.map worth).map V.int
  | [], _, .nil, _ => rfl
  | d :: ds, _, .cons h t, e => by
    rw [List.all_cons, Bool.and_eq_true] at e
    cases h with
    | int i => exact congrArg (V.int i :: ·) (rp_ints t e.2)
    | _ => exact absurd e.1 Bool.false_ne_true
theorem range_up (n : Nat) : rgV 0 (n : Int) = (up n).map V.int := by
  unfold rgV up
  have e : ((n : Int) - 0).toNat = n := by omega
  rw [e, List.map_map]
  refine List.map_congr_left fun i _ => ?_
  rw [Int.zero_add]
  rfl
abbrev sIsO : Stmt := topS 10
theorem scIsO : FnScope ["thing"] ["thing"] (defScope sIsO) := ⟨rfl, rfl, rfl, by decide +kernel, rfl, by decide +kernel, by decide +kernel⟩
def spIsO (P1 : Addr) : Sp := fun vs H Q _ => ∃ v d, vs = [v] ∧ Rp H v d ∧ GxR.TabG H P1 ∧ ∀ H', Ex H H' → GxR.TabG H' P1 → Q (.bl (isOrder d)) H'
section
variable {P : Program} {w : World} {K : PySem.W.Frag} {mg : Str → Option Value} {base : Heap}
theorem ok_isO {f c P1 : Addr} {fd : FuncData} (F : FunC K "is_order" "is_order" sIsO f fd c) (T : Nm mg) (TB : GxR.TabB base mg c P1) (CR : Cal P w K mg base 1 "is_row" ["thing"] (spOne isRow)) (CW : Cal P w K mg base 1 "is_whole" ["thing"] (spOne isWhole)) :
    FnOk P w K mg base CX0 4 f fd ["thing"] (spIsO P1) := by
  refine F.ok scIsO (fun vs H Q E ⟨v, d, e, _⟩ => by rw [e]; rfl) (fun A outer s H vs Q E hr h => ?_)
  obtain ⟨v, d, rfl, hR, hT, q⟩ := h
  obtain ⟨tl, hmo⟩ := T.most
  refine ⟨_, pss_cons (ps_if (PW.pt (pw_or (pt_not (pt_val (pe_cal (CR.mono (by decide)) hr (by rfl) (pa_cons (pv 0) pa_nil)))) (pw_or1 (pt_cmpR op_gt (pe_callB call_len_seq (by rfl) T.len PySem.boot_len (pa_cons (pv 0) pa_nil)) (pe_glob (v := .int 60) (by rfl) hmo ⟨_, rfl⟩) (nomark _)))))
      (pss_one (ps_ret pe_bl)) pss_nil)
    (pss_one (ps_ret (pe_and (pe_allG (N := ["person"]) hr (by rfl) T.all TB rfl (by exact ⟨rfl, rfl, by decide +kernel, rfl⟩) (pi_seq (pv 0))
        (fun A s H C code fp pn rY => pg_name (i := 0) nd1 rfl (.inl rfl) (.inr rfl)) (fun A s H C code fp pn rY => pts_nil)
        (fun A s H C code fp pn rY => pe_cal (CW.mono (by decide)) rY (by rfl) (pa_cons (pv 0) pa_nil)))
      (pe_one (pe_cmpR (op_eqD hr.units) (pe_callB cr_sortedX (by rfl) T.sorted (by decide +kernel) (pa_cons (pv 0) pa_nil)) (pe_listRg rfl (by rfl) T.list (prg_1 (by rfl) T.range (pe_callB call_len_seq (by rfl) T.len PySem.boot_len (pa_cons (pv 0) pa_nil)))) (nomark _)))))), ?_⟩
  refine ⟨v, rfl, v, d, rfl, hR, fun H1 s1 => ⟨isRow d, rfl, ?_⟩⟩
  have hT1 := tabG_same s1 hT
  have at_ : ∀ {H2 : Hp} {b : Bool}, Ex H1 H2 → GxR.TabG H2 P1 → isOrder d = b → Q (.bl b) H2 := fun {H2 b} e2 t2 z => by
    have q' := q H2 ((Ex.of s1).trans e2) t2
    rw [z] at q'
    exact q'
  cases hds : rowsD d with
  | none =>
    have e0 : isRow d = false := by unfold isRow; rw [hds]; rfl
    rw [e0]
    exact iteT (iteT (at_ (Ex.refl H1) hT1 (by unfold isOrder; rw [hds])))
  | some ds =>
    have e0 : isRow d = true := by unfold isRow; rw [hds]; rfl
    have val : isOrder d = isOrderL ds := by unfold isOrder; rw [hds]
    rw [e0]
    obtain ⟨a, xs, rfl, hA, hso⟩ := (Rp.ex (Ex.of s1) d v hR).rows hds
    have hst : StSeq H1 a xs := ⟨hso⟩
    have hlen := hA.length
    refine iteF ⟨.ref a, rfl, a, xs, rfl, hst.sq, xs.length, 60, rfl, rfl, _, rfl, ite2 (fun e1 => ?_) (fun e1 => ?_)⟩
    · refine at_ (Ex.refl H1) hT1 ?_
      rw [val]
      unfold isOrderL
      have : ¬ ds.length ≤ 60 := by have := of_decide_eq_true e1; omega
      rw [decide_eq_false this]
      rfl
    · have l60 : ds.length ≤ 60 := by
        rcases Nat.lt_or_ge 60 ds.length with z | z
        · exact absurd (decide_eq_true (by omega)) e1
        · exact z
      refine ⟨.ref a, rfl, a, xs, rfl, hst, fun J hJ => ⟨hT1, fun H2 tb => ⟨_, ⟨xs.length, rfl, Nat.zero_le _, ex_tabbed hT1 tb, tb.1, rfl⟩, turn_by (xs := xs) (fun _ i H => Ex H1 H ∧ GxR.TabG H P1 ∧ (ds.take i).all isWhole = true)
          (fun _ i H ⟨eH, _, _⟩ => hJ H eH) (fun _ i x H hx ⟨eH, tH, aH⟩ => ?_) (fun _ H ⟨eH, tH, aH⟩ => ?_)⟩⟩⟩
      · obtain ⟨dx, hdx, hRx⟩ := hA.get hx
        refine name_yes ?_
        refine ⟨x, rfl, x, dx, rfl, Rp.ex eH dx x hRx, fun H4 s4 => ⟨isWhole dx, rfl, ite2 (fun e4 => ?_) (fun e4 => ?_)⟩⟩
        · exact ⟨eH.trans (Ex.of s4), tabG_same s4 tH, by rw [all_take hdx, aH, e4]; rfl⟩
        · refine ⟨false, rfl, iteF (at_ (eH.trans (Ex.of s4)) (tabG_same s4 tH) ?_)⟩
          rw [val]
          unfold isOrderL
          rw [all_false hdx (Bool.eq_false_iff.mpr e4), Bool.and_false, Bool.false_and]
      · rw [hlen, List.take_length] at aH
        have hv := rp_ints hA aH
        have hst2 : StSeq H a xs := hst.ex eH
        refine ⟨true, rfl, iteT ?_⟩
        have lns : (ds.map worth).length = ds.length := List.length_map ..
        refine ⟨.ref a, rfl, a, ds.map worth, rfl, by rw [← hv]; exact hst2.sq, by omega, fun ms p hpm hpw np => ?_⟩
        have s5 : Same H (upd H p (.lst (ms.map V.int))) := same_upd np
        have e5 : (upd H p (.lst (ms.map V.int))) p = some (.lst (ms.map V.int)) := upd_same
        generalize upd H p (.lst (ms.map V.int)) = H5 at s5 e5
        refine ⟨.ref a, rfl, a, xs, rfl, (hst2.ex (Ex.of s5)).sq, xs.length, rfl, RgOk.of_le (by decide) (by omega) (by decide) (by omega), fun p2 np2 => ?_⟩
        rw [range_up, hlen]
        have s6 : Same H5 (upd H5 p2 (.lst ((up ds.length).map V.int))) := same_upd np2
        refine ⟨_, _, .lst (SqL.of (s6 _ _ e5)) (ints_dp ms), .lst (SqL.of upd_same) (ints_dp (up ds.length)), ints_shaped _, ints_shaped _, ?_⟩
        rw [eqv_ints]
        refine at_ (eH.trans (Ex.of (s5.trans s6))) (tabG_same (s5.trans s6) tH) ?_
        rw [val]
        unfold isOrderL
        rw [decide_eq_true l60, aH, ← sorted_up hpm hpw, lns]
        rfl
end
end CL
set_option Elab.async false
set_option linter.all false
set_option maxRecDepth 100000
set_option maxHeartbeats 4000000
namespace CL
open PySem PySem.Spec PyProof.Rows L2 GE
/-! ### a list of anything, and the empty list -/
def rNeE : R2 := fun x y H Q => ∃ (a b : Addr) (xs : List V), x = .ref a ∧ y = .ref b ∧ H a = some (.lst xs) ∧ H b = some (.lst []) ∧ Q (.bl (!xs.isEmpty)) H
theorem op_neE {X : Cx} (hu : X.A.units < cLine) : OpR X (compareOp .NotEq) rNeE := by
  intro pins s σ H x y v u Q I rx ry ⟨a, b, xs, ex, ey, ha, hb, q⟩
  subst ex ey
  obtain ⟨its, rv, p1, _⟩ := I.list (SqL.of ha)
  obtain ⟨jts, rw', p2, _⟩ := I.list (SqL.of hb)
  cases rx
  cases ry
  have l1 := rv.length
  have l2 := rw'.length
  cases xs with
  | nil =>
    have e : its.toArray.size = jts.toArray.size := by rw [List.size_toArray, List.size_toArray, ← l1, ← l2]
    have e0 : its.toArray.size = 0 := by rw [List.size_toArray, ← l1]; rfl
    have z := SeqAt.RcNeAt.lists (A := X.A) (e := fun _ => true) p1.isList p2.isList e hu (fun j h1 => absurd h1 (by rw [e0]; exact Nat.not_lt_zero j))
    refine z X.prog X.w _ _ ⟨.bl _, H, I, ?_, q⟩
    rw [e0]
    rfl
  | cons x xs =>
    have e : (its.toArray.size != jts.toArray.size) = true := by
      rw [List.size_toArray, List.size_toArray, ← l1, ← l2]
      rfl
    exact SeqAt.RcNeAt.lists_lengths (A := X.A) p1.isList p2.isList e hu X.prog X.w _ _ ⟨.bl _, H, I, rfl, q⟩
theorem isi_blk {X : Cx} {s : Shared} {H : Hp} {scope : Scope} {cenv : Env} {fp : List Addr} : CallR (X.blk s H scope cenv fp) (.builtin "isinstance") (rIsi X.K) := call_isi
theorem notin_blk {X : Cx} {s : Shared} {H : Hp} {scope : Scope} {cenv : Env} {fp : List Addr} : OpR (X.blk s H scope cenv fp) (compareOp .NotIn) (rIn X.K true) := op_notIn_seq
/-- a walk over what stands as a list or a tuple -/
theorem walk_seq {K : PySem.W.Frag} {a : Addr} {xs : List V} {J : It} {G : Hp → Prop} (h : ∀ H, G H → StandsAs K a xs J H) : Walk J xs.length G (YAt xs) :=
  ⟨fun i H hi g => (h H g).go (List.getElem?_eq_getElem hi), fun H g => (h H g).stop (Nat.le_refl _), fun i H x H' _ g y => (h H g).yld y⟩
theorem inV_ints (i : Int) : ∀ ns : List Int, inV (.int i) (ns.map V.int) = decide (i ∈ ns)
  | [] => rfl
  | n :: ns => by
    have ih := inV_ints i ns
    unfold inV at ih ⊢
    rw [List.map_cons, List.any_cons, ih]
    show ((n == i) || decide (i ∈ ns)) = decide (i ∈ n :: ns)
    by_cases h : n = i
    · simp [h]
    · have h' : ¬ i = n := fun z => h z.symm
      simp [h, h']
theorem flat_ints : ∀ ns : List Int, (ns.map V.int).all flatV = true
  | [] => rfl
  | _ :: ns => flat_ints ns
theorem all_none {p : PyData → Bool} : ∀ {ds : List PyData}, (ds.filter fun d => !p d).isEmpty = ds.all p
  | [] => rfl
  | d :: ds => by
    have ih := all_none (p := p) (ds := ds)
    rw [List.filter_cons, List.all_cons]
    cases h : p d with
    | true => simpa [h] using ih
    | false => simp [h]
end CL
set_option Elab.async false
set_option linter.all false
set_option maxRecDepth 100000
set_option maxHeartbeats 4000000
namespace CL
open PySem PySem.Spec PyProof.Rows L2 GE
/-! ### how much a thing weighs -/
mutual
def wt : PyData → Nat
  | .none => 4
  | .bool _ => 5
  | .int i => i.natAbs.log2 + 4
  | .str x => (reprText x).length
  | .list xs => wtAll xs + 4
  | .tuple xs => wtAll xs + 4
  | .dict kvs => kvs.length * 100000000 + 2
def wtAll : List PyData → Nat
  | [] => 0
  | x :: xs => wt x + 2 + wtAll xs
end
structure B (k u : Nat) (d : PyData) : Prop where
  dp : d.depth ≤ k
  wt : wt d ≤ u
  sh : d.showable = true
theorem B.mono {k u k' u' : Nat} {d : PyData} (b : B k u d) (hk : k ≤ k') (hu : u ≤ u') : B k' u' d := ⟨Nat.le_trans b.dp hk, Nat.le_trans b.wt hu, b.sh⟩
theorem all_bnd {k u : Nat} : ∀ {ds : List PyData}, (∀ x ∈ ds, B k u x) → PyData.depthAll ds ≤ k ∧ wtAll ds ≤ ds.length * (u + 2) ∧ PyData.showableAll ds = true
  | [], _ => ⟨Nat.zero_le _, by simp [wtAll], by simp [PyData.showableAll]⟩
  | x :: ds, h => by
    obtain ⟨h1, h2, h3⟩ := all_bnd (ds := ds) fun y hy => h y (List.mem_cons_of_mem _ hy)
    have hx := h x List.mem_cons_self
    refine ⟨?_, ?_, ?_⟩
    · show max _ _ ≤ k
      exact Nat.max_le.mpr ⟨hx.dp, h1⟩
    · show wt x + 2 + wtAll ds ≤ _
      rw [List.length_cons, Nat.add_mul]
      have := hx.wt
      omega
    · simp [PyData.showableAll, hx.sh, h3]
theorem B.list {k u n : Nat} {ds : List PyData} (h : ∀ x ∈ ds, B k u x) (hn : ds.length ≤ n) : B (k + 1) (n * (u + 2) + 4) (.list ds) := by
  obtain ⟨h1, h2, h3⟩ := all_bnd h
  have := Nat.mul_le_mul_right (u + 2) hn
  refine ⟨?_, ?_, ?_⟩
  · show PyData.depthAll ds + 1 ≤ k + 1
    omega
  · show wtAll ds + 4 ≤ _
    omega
  · simp [PyData.showable, h3]
theorem B.tuple {k u n : Nat} {ds : List PyData} (h : ∀ x ∈ ds, B k u x) (hn : ds.length ≤ n) : B (k + 1) (n * (u + 2) + 4) (.tuple ds) := by
  obtain ⟨h1, h2, h3⟩ := all_bnd h
  have := Nat.mul_le_mul_right (u + 2) hn
  refine ⟨?_, ?_, ?_⟩
  · show PyData.depthAll ds + 1 ≤ k + 1
    omega
  · show wtAll ds + 4 ≤ _
    omega
  · simp [PyData.showable, h3]
theorem b_none {k : Nat} : B k 200 .none := ⟨Nat.zero_le _, by decide, rfl⟩
theorem b_bool {k : Nat} {b : Bool} : B k 200 (.bool b) := ⟨Nat.zero_le _, by show 5 ≤ 200; decide, rfl⟩
theorem b_int {k : Nat} {i : Int} (h : i.natAbs < 2 ^ 140) : B k 200 (.int i) := by
  have h1 : i.natAbs.log2 < 140 := PySem.Flt.log2_lt_of (by decide) h
  exact ⟨Nat.zero_le _, by show i.natAbs.log2 + 4 ≤ 200; omega, by simp [PyData.showable]; omega⟩
/-- a list of lo to hi things, each P -/
def Ls (lo hi : Nat) (P : PyData → Prop) (d : PyData) : Prop := ∃ ds, d = .list ds ∧ lo ≤ ds.length ∧ ds.length ≤ hi ∧ ∀ x ∈ ds, P x
def Tp (n : Nat) (P : PyData → Prop) (d : PyData) : Prop := ∃ ds, d = .tuple ds ∧ ds.length ≤ n ∧ ∀ x ∈ ds, P x
/-! ### evaluation where nothing but the bag changes, by so many draws -/
theorem BagAt.to {a b : Nat} {H : Hp} {r : Bg} (h : BagAt a H r) (e : a ≤ b := by omega) : BagAt b H r := h.mono e
/-- W is tracked, the bag in it -/
structure Wk (W : Addr → Prop) (H : Hp) (r : Bg) : Prop where
  bag : W r.a
  trk : ∀ b, W b → H b ≠ none
theorem Mv.hw {r : Bg} {W : Addr → Prop} {H H' : Hp} (m : Mv r H H') (h : W r.a) : Same (Hw W H) (Hw W H') := fun b o e => by
  have hb := Hw.ne e
  rw [Hw.at hb]
  exact m.keep b o (fun z => hb (by rw [z]; exact h)) (Hw.sub W H b o e)
theorem Wk.mv {n : Nat} {W : Addr → Prop} {H H' : Hp} {r : Bg} (k : Wk W H r) (re : BagAt n H' r) (m : Mv r H H') : Wk W H' r := ⟨k.bag, fun b hb z => by
  by_cases hr : b = r.a
  · rw [hr] at z
    exact re.some z
  · exact mem_keep m hr (k.trk b hb) z⟩
theorem Wk.out {W : Addr → Prop} {H : Hp} {r : Bg} {p : Addr} (k : Wk W H r) (n : H p = none) : ¬ W p := fun z => k.trk p z n
theorem Wk.add {W : Addr → Prop} {H : Hp} {r : Bg} {p : Addr} (k : Wk W H r) (n : H p ≠ none) : Wk (fun b => W b ∨ b = p) H r := ⟨.inl k.bag, fun b hb => hb.elim (k.trk b) fun z => by rw [z]; exact n⟩
abbrev Gam := List (V × PyData)
def GOk (W : Addr → Prop) (H : Hp) (G : Gam) : Prop := ∀ p ∈ G, Rp (Hw W H) p.1 p.2
theorem GOk.mv {r : Bg} {W : Addr → Prop} {H H' : Hp} {G : Gam} (g : GOk W H G) (m : Mv r H H') (h : W r.a) : GOk W H' G := fun p hp => Rp.sm (m.hw h) (g p hp)
theorem GOk.cons {W : Addr → Prop} {H : Hp} {G : Gam} {v : V} {d : PyData} (g : GOk W H G) (h : Rp (Hw W H) v d) : GOk W H ((v, d) :: G) := fun p hp => by
  rcases List.mem_cons.mp hp with e | hp
  · rw [e]; exact h
  · exact g p hp
structure Se (n : Nat) (r : Bg) (W : Addr → Prop) (G : Gam) (H : Hp) : Prop where
  re : BagAt n H r
  wk : Wk W H r
  ok : GOk W H G
theorem Se.mv {n m : Nat} {r : Bg} {W : Addr → Prop} {G : Gam} {H H' : Hp} (s : Se n r W G H) (re : BagAt m H' r) (mv : Mv r H H') : Se m r W G H' := ⟨re, s.wk.mv re mv, s.ok.mv mv s.wk.bag⟩
theorem Se.same {n : Nat} {r : Bg} {W : Addr → Prop} {G : Gam} {H H' : Hp} (s : Se n r W G H) (m : Same H H') : Se n r W G H' := s.mv (s.re.same m) (Mv.of m)
theorem Se.to {n m : Nat} {r : Bg} {W : Addr → Prop} {G : Gam} {H : Hp} (s : Se n r W G H) (e : n ≤ m := by omega) : Se m r W G H := ⟨s.re.mono e, s.wk, s.ok⟩
theorem rp_list {H : Hp} {v : V} {ds : List PyData} (h : Rp H v (.list ds)) : ∃ p xs, v = .ref p ∧ H p = some (.lst xs) ∧ RpAll H xs ds := by
  cases h with
  | lst h1 h2 => exact ⟨_, _, rfl, h1, h2⟩
theorem RpAll.drop {H : Hp} : ∀ {vs : List V} {ds : List PyData} (n : Nat), RpAll H vs ds → RpAll H (vs.drop n) (ds.drop n)
  | _, _, 0, h => h
  | _, _, _ + 1, .nil => .nil
  | _, _, n + 1, .cons _ t => RpAll.drop n t
theorem rp_intsA {H : Hp} : ∀ ns : List Int, RpAll H (ns.map V.int) (ns.map PyData.int)
  | [] => .nil
  | n :: ns => .cons (.int n) (rp_intsA ns)
section
variable {c c1 c2 c3 : Nat} {r : Bg} {W : Addr → Prop} {G : Gam} {σ : L2.St}
def Ev (c : Nat) (r : Bg) (W : Addr → Prop) (G : Gam) (σ : L2.St) (te : TE) (P : PyData → Prop) : Prop := ∀ n H Q, n + c ≤ M60 → Se n r W G H → (∀ v d H', BagAt (n + c) H' r → Mv r H H' → Rp (Hw W H') v d → P d → Q v H') → te σ H Q
def EvI (c : Nat) (r : Bg) (W : Addr → Prop) (G : Gam) (σ : L2.St) (te : TE) (P : Int → Prop) : Prop := ∀ n H Q, n + c ≤ M60 → Se n r W G H → (∀ i H', BagAt (n + c) H' r → Mv r H H' → P i → Q (.int i) H') → te σ H Q
def EvA (c : Nat) (r : Bg) (W : Addr → Prop) (G : Gam) (σ : L2.St) (ta : TA) (m : Nat) (P : PyData → Prop) : Prop := ∀ n H Q, n + c ≤ M60 → Se n r W G H → (∀ vs ds H', BagAt (n + c) H' r → Mv r H H' → RpAll (Hw W H') vs ds → ds.length = m → (∀ x ∈ ds, P x) → Q vs H') → ta σ H Q
theorem Ev.imp {te : TE} {P P' : PyData → Prop} (e : Ev c r W G σ te P) (h : ∀ d, P d → P' d) : Ev c r W G σ te P' := fun n H Q l s q => e n H Q l s fun v d H' re m rp p => q v d H' re m rp (h d p)
theorem EvI.imp {te : TE} {P P' : Int → Prop} (e : EvI c r W G σ te P) (h : ∀ d, P d → P' d) : EvI c r W G σ te P' := fun n H Q l s q => e n H Q l s fun i H' re m p => q i H' re m (h i p)
theorem EvI.ev {te : TE} {P : Int → Prop} {P' : PyData → Prop} (e : EvI c r W G σ te P) (h : ∀ i, P i → P' (.int i)) : Ev c r W G σ te P' := fun n H Q l s q => e n H Q l s fun i H' re m p => q _ _ H' re m (.int i) (h i p)
theorem ev_int {i : Int} : EvI 0 r W G σ (tC (.int i)) (· = i) := fun n H Q l s q => q i H s.re (Mv.refl r H) rfl
theorem ev_non {P : PyData → Prop} (h : P .none) : Ev 0 r W G σ (tC .non) P := fun n H Q l s q => q _ _ H s.re (Mv.refl r H) .non h
theorem ev_bl {b : Bool} {P : PyData → Prop} (h : P (.bool b)) : Ev 0 r W G σ (tC (.bl b)) P := fun n H Q l s q => q _ _ H s.re (Mv.refl r H) (.bl b) h
theorem ev_str {x : Str} {P : PyData → Prop} (h : P (.str x)) : Ev 0 r W G σ (tC (.str x)) P := fun n H Q l s q => q _ _ H s.re (Mv.refl r H) (.str x) h
theorem ev_dict {P : PyData → Prop} (h : P (.dict [])) : Ev 0 r W G σ tDNewK P := fun n H Q l s q => fun p np => q (.ref p) (.dict []) _ (s.re.same (same_upd np)) (Mv.of (same_upd np)) (.dct (by rw [Hw.at (s.wk.out np)]; exact upd_same)) h
theorem ev_var {i : Nat} {v : V} {d : PyData} {P : PyData → Prop} (h1 : σ[i]? = some (some v)) (h2 : (v, d) ∈ G) (h : P d) : Ev 0 r W G σ (tVar i) P := fun n H Q l s q => ⟨v, h1, q v d H s.re (Mv.refl r H) (s.ok _ h2) h⟩
theorem ev_varI {i : Nat} {x : Int} (h1 : σ[i]? = some (some (.int x))) : EvI 0 r W G σ (tVar i) (· = x) := fun n H Q l s q => ⟨.int x, h1, q x H s.re (Mv.refl r H) rfl⟩
theorem eva_nil {P : PyData → Prop} : EvA 0 r W G σ tNil 0 P := fun n H Q l s q => q [] [] H s.re (Mv.refl r H) .nil rfl (fun _ h => nomatch h)
theorem eva_cons {te : TE} {ta : TA} {m : Nat} {P : PyData → Prop} (e : Ev c1 r W G σ te P) (a : EvA c2 r W G σ ta m P) : EvA (c1 + c2) r W G σ (tCons te ta) (m + 1) P := fun n H Q l s q =>
  e n H _ (by omega) s fun v d H1 re1 m1 rp1 p1 => a (n + c1) H1 _ (by omega) (s.mv re1 m1) fun vs ds H2 re2 m2 rp2 l2 p2 => q (v :: vs) (d :: ds) H2 re2.to (m1.trans m2) (.cons (Rp.sm (m2.hw s.wk.bag) rp1) rp2) (by rw [List.length_cons, l2]) fun x hx => by
    rcases List.mem_cons.mp hx with z | z
    · rw [z]; exact p1
    · exact p2 x z
theorem ev_lst {ta : TA} {m : Nat} {P : PyData → Prop} (a : EvA c r W G σ ta m P) (hn : m ≤ 1000 := by decide) : Ev c r W G σ (tLst ta) (Ls m m P) := fun n H Q l s q =>
  a n H _ l s fun vs ds H1 re1 m1 rp1 l1 p1 => ⟨small_le (by rw [rp1.length]; omega), fun p np => q (.ref p) (.list ds) _ (re1.same (same_upd np)) (m1.trans (Mv.of (same_upd np)))
    (.lst (by rw [Hw.at ((s.wk.mv re1 m1).out np)]; exact upd_same) (RpAll.sm (Same.hw (same_upd np)) rp1)) ⟨ds, rfl, Nat.le_of_eq l1.symm, Nat.le_of_eq l1, p1⟩⟩
theorem ev_tup {ta : TA} {m : Nat} {P : PyData → Prop} (a : EvA c r W G σ ta m P) (hn : m ≤ 1000 := by decide) : Ev c r W G σ (tTup ta) (Tp m P) := fun n H Q l s q =>
  a n H _ l s fun vs ds H1 re1 m1 rp1 l1 p1 => ⟨small_le (by rw [rp1.length]; omega), fun p np => q (.ref p) (.tuple ds) _ (re1.same (same_upd np)) (m1.trans (Mv.of (same_upd np)))
    (.tup (by rw [Hw.at ((s.wk.mv re1 m1).out np)]; exact upd_same) (RpAll.sm (Same.hw (same_upd np)) rp1)) ⟨ds, rfl, Nat.le_of_eq l1, p1⟩⟩
/-- two lists, the one behind the other, by what each is -/
theorem ev_catG {ta tb : TE} {PA PB PC : PyData → Prop} (a : Ev c1 r W G σ ta PA) (b : Ev c2 r W G σ tb PB) (h : ∀ d e, PA d → PB e → ∃ ds es, d = .list ds ∧ e = .list es ∧ ds.length ≤ 1000 ∧ es.length ≤ 1000 ∧ PC (.list (ds ++ es))) : Ev (c1 + c2) r W G σ (tOp rCat ta tb) PC := fun n H Q l s q =>
  a n H _ (by omega) s fun v d H1 re1 m1 rp1 e1 => b (n + c1) H1 _ (by omega) (s.mv re1 m1) fun v2 d2 H2 re2 m2 rp2 e2 => by
    obtain ⟨ds, es, z1, z2, hn, hm, hc⟩ := h d d2 e1 e2
    subst z1 z2
    obtain ⟨p, xs, rfl, hp, hx⟩ := rp_list (Rp.sm (m2.hw s.wk.bag) rp1)
    obtain ⟨p', ys, rfl, hp', hy⟩ := rp_list rp2
    have wk2 := s.wk.mv re2 (m1.trans m2)
    exact ⟨p, p', xs, ys, rfl, rfl, Hw.sub W H2 _ _ hp, Hw.sub W H2 _ _ hp', small_add (by rw [hx.length]; exact hn) (by rw [hy.length]; exact hm), fun t nt => q (.ref t) (.list (ds ++ es)) _ (re2.same (same_upd nt)).to ((m1.trans m2).trans (Mv.of (same_upd nt)))
      (.lst (by rw [Hw.at (wk2.out nt)]; exact upd_same) (RpAll.sm (Same.hw (same_upd nt)) (hx.append hy))) hc⟩
theorem ev_cat {ta tb : TE} {l1 h1 l2 h2 : Nat} {P : PyData → Prop} (a : Ev c1 r W G σ ta (Ls l1 h1 P)) (b : Ev c2 r W G σ tb (Ls l2 h2 P)) (hn : h1 ≤ 1000 := by decide) (hm : h2 ≤ 1000 := by decide) : Ev (c1 + c2) r W G σ (tOp rCat ta tb) (Ls (l1 + l2) (h1 + h2) P) :=
  ev_catG a b fun d e ⟨ds, e1, a1, b1, p1⟩ ⟨es, e2, a2, b2, p2⟩ => ⟨ds, es, e1, e2, by omega, by omega, ds ++ es, rfl, by rw [List.length_append]; omega, by rw [List.length_append]; omega, fun x hx => (List.mem_append.mp hx).elim (p1 x) (p2 x)⟩
theorem part_none : ∀ n H (Q : Option Int → Hp → Prop), n + 0 ≤ M60 → Se n r W G H → (∀ l H', BagAt (n + 0) H' r → Mv r H H' → l = none → Q l H') → tNoPart σ H Q := fun n H Q l s q => q none H s.re (Mv.refl r H) rfl
theorem part_some {te : TE} {P : Int → Prop} (e : EvI c r W G σ te P) : ∀ n H (Q : Option Int → Hp → Prop), n + c ≤ M60 → Se n r W G H → (∀ l H', BagAt (n + c) H' r → Mv r H H' → (∃ i, l = some i ∧ P i) → Q l H') → tPart te σ H Q := fun n H Q l s q => e n H _ l s fun i H' re m p => ⟨i, rfl, q (some i) H' re m ⟨i, rfl, p⟩⟩
/-- a part of a list, by its ends -/
theorem ev_slG {K : PySem.W.Frag} {te : TE} {tl th : TO} {PA PC : PyData → Prop} {PL PH : Option Int → Prop} (a : Ev c1 r W G σ te PA) (hl : ∀ n H Q, n + c2 ≤ M60 → Se n r W G H → (∀ l H', BagAt (n + c2) H' r → Mv r H H' → PL l → Q l H') → tl σ H Q) (hh : ∀ n H Q, n + c3 ≤ M60 → Se n r W G H → (∀ l H', BagAt (n + c3) H' r → Mv r H H' → PH l → Q l H') → th σ H Q)
    (h : ∀ d l u, PA d → PL l → PH u → ∃ ds, d = .list ds ∧ PC (.list ((ds.drop (HT.sIx ds.length 0 l)).take (HT.sIx ds.length ds.length u - HT.sIx ds.length 0 l)))) :
    Ev (c1 + c2 + c3) r W G σ (tSl (rSlL K) te tl th) PC := fun n H Q l s q =>
  a n H _ (by omega) s fun v d H1 re1 m1 rp1 e1 => hl (n + c1) H1 _ (by omega) (s.mv re1 m1) fun l H2 re2 m2 pl => hh (n + c1 + c2) H2 _ (by omega) (s.mv re2 (m1.trans m2)) fun u H3 re3 m3 pu => by
    obtain ⟨ds, z, hc⟩ := h d l u e1 pl pu
    subst z
    obtain ⟨p, xs, rfl, hp, hx⟩ := rp_list (Rp.sm ((m2.trans m3).hw s.wk.bag) rp1)
    have m13 := m1.trans (m2.trans m3)
    have wk3 := s.wk.mv re3 m13
    have lx := hx.length
    refine ⟨p, xs, rfl, SqL.of (Hw.sub W H3 _ _ hp), fun t nt => q (.ref t) _ _ (re3.same (same_upd nt)).to (m13.trans (Mv.of (same_upd nt)))
      (.lst (by rw [Hw.at (wk3.out nt)]; exact upd_same) (RpAll.sm (Same.hw (same_upd nt)) ((hx.drop _).take _))) ?_⟩
    rw [lx]
    exact hc
theorem ev_sl {K : PySem.W.Frag} {te : TE} {tl th : TO} {lo hi : Nat} {P : PyData → Prop} {PL PH : Option Int → Prop} (a : Ev c1 r W G σ te (Ls lo hi P)) (hl : ∀ n H Q, n + c2 ≤ M60 → Se n r W G H → (∀ l H', BagAt (n + c2) H' r → Mv r H H' → PL l → Q l H') → tl σ H Q) (hh : ∀ n H Q, n + c3 ≤ M60 → Se n r W G H → (∀ l H', BagAt (n + c3) H' r → Mv r H H' → PH l → Q l H') → th σ H Q) :
    Ev (c1 + c2 + c3) r W G σ (tSl (rSlL K) te tl th) (Ls 0 hi P) := ev_slG a hl hh fun d l u ⟨ds, e1, a1, b1, p1⟩ _ _ => ⟨ds, e1, _, rfl, Nat.zero_le _, by rw [List.length_take, List.length_drop]; omega, fun x hx => p1 x (List.mem_of_mem_drop (List.mem_of_mem_take hx))⟩
theorem ev_draw {tm : TE} {m : Int} (e : EvI c r W G σ tm (· = m)) (h0 : σ[0]? = some (some (.ref r.a))) (h1 : 1 ≤ m) (h2 : m < 2 ^ 140) : EvI (c + 1) r W G σ (tCall (spDraw r) [] E0 (tCons (tVar 0) (tCons tm tNil))) (fun x => 0 ≤ x ∧ x < m) := fun n H Q l s q =>
  ⟨.ref r.a, h0, e n H _ (by omega) s fun i H1 re1 m1 e1 => ⟨m, n + c, by rw [e1]; rfl, re1, by omega, h1, h2, fun x H' re' m' x0 x1 => q x H' re'.to (m1.trans m') ⟨x0, x1⟩⟩⟩
theorem ev_ixG {K : PySem.W.Frag} {ta ti : TE} {PA PC : PyData → Prop} {PI : Int → Prop} (a : Ev c1 r W G σ ta PA) (b : EvI c2 r W G σ ti PI) (h : ∀ d i, PA d → PI i → ∃ ds, d = .list ds ∧ 0 ≤ i ∧ i < (ds.length : Int) ∧ ∀ x, ds[i.toNat]? = some x → PC x) : Ev (c1 + c2) r W G σ (tOp (rIxL K) ta ti) PC := fun n H Q l s q =>
  a n H _ (by omega) s fun v d H1 re1 m1 rp1 e1 => b (n + c1) H1 _ (by omega) (s.mv re1 m1) fun i H2 re2 m2 hi => by
    obtain ⟨ds, z, i0, i1, hc⟩ := h d i e1 hi
    subst z
    obtain ⟨p, xs, rfl, hp, hx⟩ := rp_list (Rp.sm (m2.hw s.wk.bag) rp1)
    obtain ⟨j, rfl⟩ : ∃ j : Nat, i = (j : Int) := ⟨i.toNat, (Int.toNat_of_nonneg i0).symm⟩
    have hj : j < xs.length := by have := hx.length; omega
    obtain ⟨d, hd, hr⟩ := hx.get (List.getElem?_eq_getElem hj)
    exact ⟨p, xs, j, xs[j], rfl, rfl, SqL.of (Hw.sub W H2 _ _ hp), atI_nat (List.getElem?_eq_getElem hj), q _ d H2 re2.to (m1.trans m2) hr (hc d hd)⟩
theorem ev_ix {K : PySem.W.Frag} {ta ti : TE} {lo hi : Nat} {P : PyData → Prop} (a : Ev c1 r W G σ ta (Ls lo hi P)) (b : EvI c2 r W G σ ti (fun x => 0 ≤ x ∧ x < (lo : Int))) : Ev (c1 + c2) r W G σ (tOp (rIxL K) ta ti) P :=
  ev_ixG a b fun d i ⟨ds, e1, a1, b1, p1⟩ hi => ⟨ds, e1, hi.1, by omega, fun x hx => p1 x (List.mem_of_getElem? hx)⟩
theorem ev_len {K : PySem.W.Frag} {i : Nat} {v : V} {ds : List PyData} (h1 : σ[i]? = some (some v)) (h2 : (v, PyData.list ds) ∈ G) :
    EvI 0 r W G σ (tCB (fun xs H Q => ∃ p ys, xs = [.ref p] ∧ (SqL K H p ys ∨ SqT K H p ys) ∧ Q (.int ys.length) H) (tCons (tVar i) tNil)) (· = (ds.length : Int)) := fun n H Q l s q => by
  obtain ⟨p, xs, rfl, hp, hx⟩ := rp_list (s.ok _ h2)
  exact ⟨.ref p, h1, p, xs, rfl, .inl (SqL.of (Hw.sub W H _ _ hp)), q _ H s.re (Mv.refl r H) (by rw [hx.length])⟩
theorem evi_add {ta tb : TE} {x y : Int} (a : EvI c1 r W G σ ta (· = x)) (b : EvI c2 r W G σ tb (· = y)) : EvI (c1 + c2) r W G σ (tOp (rI0 fun i j => .int (i + j)) ta tb) (· = x + y) := fun n H Q l s q =>
  a n H _ (by omega) s fun i H1 re1 m1 e1 => b (n + c1) H1 _ (by omega) (s.mv re1 m1) fun j H2 re2 m2 e2 => ⟨i, j, rfl, rfl, q _ H2 re2.to (m1.trans m2) (by rw [e1, e2])⟩
theorem evi_sub {ta tb : TE} {x y : Int} (a : EvI c1 r W G σ ta (· = x)) (b : EvI c2 r W G σ tb (· = y)) : EvI (c1 + c2) r W G σ (tOp (rI0 fun i j => .int (i - j)) ta tb) (· = x - y) := fun n H Q l s q =>
  a n H _ (by omega) s fun i H1 re1 m1 e1 => b (n + c1) H1 _ (by omega) (s.mv re1 m1) fun j H2 re2 m2 e2 => ⟨i, j, rfl, rfl, q _ H2 re2.to (m1.trans m2) (by rw [e1, e2])⟩
theorem evi_pow {x y : Int} (h : CPow x y) : EvI 0 r W G σ (tOp (rI CPow fun i j => .int (i ^ j.toNat)) (tC (.int x)) (tC (.int y))) (· = x ^ y.toNat) := fun n H Q l s q =>
  ⟨x, y, rfl, rfl, h, q _ H s.re (Mv.refl r H) rfl⟩
theorem evi_neg {x : Int} : EvI 0 r W G σ (tUn (rU fun i => .int (-i)) (tC (.int x))) (· = -x) := fun n H Q l s q => ⟨x, rfl, q _ H s.re (Mv.refl r H) rfl⟩
theorem ev_set {te : TE} {i n : Nat} {P : PyData → Prop} {D : Ends} {H : Hp} (e : Ev c r W G σ te P) (l : n + c ≤ M60) (s : Se n r W G H) (h : ∀ v d H', Se (n + c) r W ((v, d) :: G) H' → Mv r H H' → P d → D.nx (σ.set i (some v)) H') : tAsg te (gName i) D σ H :=
  e n H _ l s fun v d H' re m rp p => h v d H' ⟨re, s.wk.mv re m, (s.ok.mv m s.wk.bag).cons rp⟩ m p
theorem evi_set {te : TE} {i n : Nat} {P : Int → Prop} {D : Ends} {H : Hp} (e : EvI c r W G σ te P) (l : n + c ≤ M60) (s : Se n r W G H) (h : ∀ x H', Se (n + c) r W G H' → Mv r H H' → P x → D.nx (σ.set i (some (.int x))) H') : tAsg te (gName i) D σ H :=
  e n H _ l s fun x H' re m p => h x H' (s.mv re m) m p
/-- list(range(n)), n written -/
theorem ev_range {k : Nat} {P : PyData → Prop} (hk : k ≤ 1000) (h : P (.list ((up k).map PyData.int))) : Ev 0 r W G σ (tLstRg (tRg1 (tC (.int (k : Int))))) P := fun n H Q l s q =>
  ⟨(k : Int), rfl, RgOk.of_le (by decide) (by omega) (by decide) (by omega), fun t nt => by
    rw [range_up]
    exact q (.ref t) (.list ((up k).map PyData.int)) _ (s.re.same (same_upd nt)) (Mv.of (same_upd nt)) (.lst (by rw [Hw.at (s.wk.out nt)]; exact upd_same) (rp_intsA (up k))) h⟩
end
end CL
set_option Elab.async false
set_option linter.all false
set_option maxRecDepth 100000
set_option maxHeartbeats 4000000
namespace CL
open PySem PySem.Spec PyProof.Rows L2 GE
/-! ### a def that is called where no repr is under way -/
structure FnG (P : Program) (w : World) (K : PySem.W.Frag) (mg : Str → Option Value) (base : Heap) (k : Nat) (f : Addr) (fd : FuncData) (ps : List Str) (sp : Sp) : Prop where
  run : ∀ (A : Around) (outer : List Env) (s : Shared) (H : Hp) (args : Args) (us : List Value) (vs : List V) (Q : VK) (E : XK), A.guards = some [] → Room k A → Env0 P w K mg base A outer s H → BindsTo s fd args (ps.zip us) → Vals vs us → sp vs H Q E →
    codeAny (model P w) A (.call (.ref f) args) (CR CX0 outer P w H s Q E) s
theorem fng_of {P : Program} {w : World} {K : PySem.W.Frag} {mg : Str → Option Value} {base : Heap} {x qual : Str} {st : Stmt} {f : Addr} {fd : FuncData} {N ps : List Str} {k : Nat} {sp : Sp} (F : Fun K x qual st f fd) (S : FnScope N ps (defScope st)) (len : ∀ vs H Q E, sp vs H Q E → vs.length = ps.length)
    (hbody : ∀ (cdv : Value) (A : Around) (outer : List Env) (s : Shared) (H : Hp) (vs : List V) (Q : VK) (E : XK), A.guards = some [] → Room k (A.deeper (envOfC qual (defScope st) s.heap.objs.size f cdv)) → sp vs H Q E →
      ∃ t, PSs (cxOf CX0 P w K mg base N qual (defScope st) f cdv A outer s H E).nox (defBody st) t ∧ t { nx := fun _ H' => Q .non H', rt := Q } (start N vs) H) : FnG P w K mg base (k + 1) f fd ps sp := by
  obtain ⟨oc, od, kV, doc, pm, an, cdv, ct, osl, rfl, lk, hcd⟩ := F.ex
  constructor
  intro A outer s H args us vs Q E hgd hr e0 hb r hsp
  have hl : vs.length = ps.length := len _ _ _ _ hsp
  have up : ∀ b o, base.get? b = some o → s.heap.get? b = some o := fun b o e => (e0.bs b o e).1
  have KX : K.In s.heap := e0.mod.kin.keeps up
  have pk : ∀ y ∈ ps.zip us, (defScope st).names.lookup y.1 = some .local ∨ ((defScope st).names.lookup y.1 = some .cell ∧ ((cellsFrom (s.heap.objs.size + 1) (defScope st).names []).lookup y.1).isSome = true) := by
    rintro ⟨n, v⟩ hy
    exact (S.par n (List.of_mem_zip hy).1).imp id fun q => ⟨q, PySem.W.cellsFrom_some _ _ _ (.inl q)⟩
  refine codeAny_call_function hr.depth (KX _ _ lk) rfl S.co S.gen rfl (PySem.W.codeRec_of KX hcd) (hb _ _ _ _ (wpAny_newFunctionEnv_cells S.kind pk fun env he s1 x => ?_))
  subst he
  obtain ⟨t, ht, hq⟩ := hbody cdv A outer s H vs Q E hgd (hr.deeper _) hsp
  refine ⟨(e0.mod.nolimit.keeps up).keeps x.toInCall.keep, codeAny_func (wpAny_mono (ht.nox.run [] s1 (start N vs) H _ (inv_start S hr.hd e0 hl r x) hq) (fun fl s' hs => ?_) fun _ _ z => z)⟩
  cases fl with
  | ret u =>
    obtain ⟨v, _, H', J, rv, z⟩ := hs
    exact ⟨v, H', J.os, J.bare, J.base, J.hok, rv, z⟩
  | next =>
    obtain ⟨_, H', J, z⟩ := hs
    exact ⟨.non, H', J.os, J.bare, J.base, J.hok, rfl, z⟩
  | brk => exact (let ⟨_, _, _, z⟩ := hs; z : False).elim
  | cont => exact (let ⟨_, _, _, z⟩ := hs; z : False).elim
/-! ### repr of data -/
section
variable {X : Cx} {pins : List (Addr × Obj)} {σ : L2.St} {H : Hp} {s : Shared}
mutual
theorem Rp.reads (hsys : ∃ o, X.base.get? sysModules = some o) (I : Inv X pins σ H s) : ∀ (d : PyData) (v : V) (u : Value), Rp H v d → RelV v u → ∃ as, Reads s.heap u d as ∧ sysModules ∉ as
  | .none, _, _, h, r => by cases h; cases r; exact ⟨_, Reads.none, by simp⟩
  | .bool b, _, _, h, r => by cases h; cases r; exact ⟨_, Reads.bool b, by simp⟩
  | .int i, _, _, h, r => by cases h; obtain ⟨t, rfl⟩ := r; exact ⟨_, Reads.int i t, by simp⟩
  | .str x, _, _, h, r => by cases h; obtain ⟨t, rfl⟩ := r; exact ⟨_, Reads.str x t, by simp⟩
  | .list ds, _, _, h, r => by
    cases h with
    | @lst a xs _ hs ha =>
      cases r
      obtain ⟨its, rv, ⟨o, n, ho, hc, _, hd⟩, _⟩ := I.list (SqL.of hs)
      obtain ⟨as, hr, hn⟩ := RpAll.reads hsys I ds _ its ha rv
      refine ⟨_, Reads.list ho hc hd hr, fun z => (List.mem_cons.mp z).elim (fun e => ?_) hn⟩
      obtain ⟨o1, ho1⟩ := hsys
      have z := (I.bs _ _ ho1).2
      rw [e, hs] at z
      cases z
  | .tuple ds, _, _, h, r => by
    cases h with
    | tup hs ha =>
      cases r
      obtain ⟨its, rv, ⟨o, ho, hc, n, hd⟩, _⟩ := I.tuple (SqT.of hs)
      obtain ⟨as, hr, hn⟩ := RpAll.reads hsys I ds _ its ha rv
      exact ⟨_, Reads.tuple ho hc hd hr, hn⟩
  | .dict kvs, _, _, h, r => by
    cases h with
    | @dct a hs =>
      cases r
      obtain ⟨_, hne, vs, kv, o, es, ep, ho, hx, hd, _, hp, _⟩ := (show ObjOk X.prog X.w H s.heap a (.dK []) from I.hok a _ hs)
      cases kv
      have e0 : es.toList = [] := List.eq_nil_of_length_eq_zero hp.length
      refine ⟨_, Reads.dict ho hx.1 hd (by rw [e0]; exact .nil) (by rw [e0]; exact .nil), fun z => ?_⟩
      have z' : sysModules = a := by simpa using z
      rw [z'] at hne
      simp at hne
theorem RpAll.reads (hsys : ∃ o, X.base.get? sysModules = some o) (I : Inv X pins σ H s) : ∀ (ds : List PyData) (vs : List V) (us : List Value), RpAll H vs ds → Vals vs us → ∃ as, ReadsAll s.heap us ds as ∧ sysModules ∉ as
  | [], _, _, h, r => by cases h; cases r; exact ⟨_, ReadsAll.nil, by simp⟩
  | d :: ds, _, _, h, r => by
    cases h with
    | cons h1 h2 =>
      cases r with
      | cons r1 r2 =>
        obtain ⟨as, q1, n1⟩ := Rp.reads hsys I d _ _ h1 r1
        obtain ⟨bs, q2, n2⟩ := RpAll.reads hsys I ds _ _ h2 r2
        exact ⟨_, ReadsAll.cons q1 q2, fun z => (List.mem_append.mp z).elim n1 n2⟩
end
end
/-! ### how long a thing is, shown -/
theorem piled_le {ts : List Str} : ∀ {ds : List PyData}, ts = PyData.shownAll ds → (∀ d ∈ ds, d.shown.length ≤ wt d) → piled ts ≤ wtAll ds
  | [], e, _ => by rw [e]; exact Nat.le_refl 0
  | d :: ds, e, h => by
    have ih := piled_le (ts := PyData.shownAll ds) rfl fun x hx => h x (List.mem_cons_of_mem _ hx)
    have h1 := h d List.mem_cons_self
    rw [e]
    show d.shown.length + 2 + piled (PyData.shownAll ds) ≤ wt d + 2 + wtAll ds
    omega
theorem list_len (ts : List Str) : (listText ts).length ≤ piled ts + 2 := by
  cases ts with
  | nil => decide +kernel
  | cons t r =>
    have h := textFrom_length_pos r 1 (("[" : Str) ++ (if (0 : Nat) > 0 then ", " else "" : String) ++ t) (Nat.succ_pos 0)
    have hX : (listText (t :: r)).length = (textFrom 1 (("[" : Str) ++ (if (0 : Nat) > 0 then ", " else "" : String) ++ t) r).length + 1 := by
      show (textFrom 1 _ r ++ "]").length = _
      rw [Str.length_append]
      rfl
    have e1 : ((("[" : Str) ++ (if (0 : Nat) > 0 then ", " else "" : String) ++ t) : Str).length = 1 + t.length := by
      rw [Str.length_append, Str.length_append]
      rfl
    have e2 : piled (t :: r) = t.length + 2 + piled r := rfl
    omega
theorem tuple_len (ts : List Str) : (tupleText ts).length ≤ piled ts + 3 := by
  have h : (Str.join ", " ts).length ≤ piled ts := by
    by_cases e : ts = []
    · rw [e]; decide +kernel
    · have := join_length_add ts e
      omega
  unfold tupleText
  rw [Str.length_append, Str.length_append]
  have h1 : (("(" : Str)).length = 1 := by decide +kernel
  have h2 : ((if ts.length == 1 then ",)" else ")" : String) : Str).length ≤ 2 := by
    split <;> decide +kernel
  omega
mutual
theorem shown_le : ∀ d : PyData, wt d ≤ 10000000 → d.showable = true → d.shown.length ≤ wt d
  | .none, _, _ => by decide +kernel
  | .bool b, _, _ => by cases b <;> decide +kernel
  | .int i, _, _ => by
    have h := int_text_length_le (a := i) (k := i.natAbs.log2 + 1) (Nat.succ_pos _) (Nat.lt_succ_self _)
    show (Str.ofString (toString i)).length ≤ i.natAbs.log2 + 4
    rw [PySem.ofString_length]
    omega
  | .str x, _, _ => Nat.le_refl _
  | .list ds, h, s => by
    have h1 := shown_all ds (by have : wt (.list ds) = wtAll ds + 4 := rfl; omega) (by simpa [PyData.showable] using s)
    have h2 := piled_le rfl h1
    have h3 := list_len (PyData.shownAll ds)
    show (listText (PyData.shownAll ds)).length ≤ wtAll ds + 4
    omega
  | .tuple ds, h, s => by
    have h1 := shown_all ds (by have : wt (.tuple ds) = wtAll ds + 4 := rfl; omega) (by simpa [PyData.showable] using s)
    have h2 := piled_le rfl h1
    have h3 := tuple_len (PyData.shownAll ds)
    show (tupleText (PyData.shownAll ds)).length ≤ wtAll ds + 4
    omega
  | .dict [], _, _ => by decide +kernel
  | .dict (x :: kvs), h, _ => by
    have : wt (.dict (x :: kvs)) = (kvs.length + 1) * 100000000 + 2 := rfl
    omega
theorem shown_all : ∀ ds : List PyData, wtAll ds ≤ 10000000 → PyData.showableAll ds = true → ∀ d ∈ ds, d.shown.length ≤ wt d
  | [], _, _, d, hd => nomatch hd
  | x :: ds, h, s, d, hd => by
    have e : wtAll (x :: ds) = wt x + 2 + wtAll ds := rfl
    have s' : x.showable = true ∧ PyData.showableAll ds = true := by simpa [PyData.showableAll] using s
    rcases List.mem_cons.mp hd with z | z
    · rw [z]
      exact shown_le x (by omega) s'.1
    · exact shown_all ds (by omega) s'.2 d z
end
/-! ### repr(x) of a list or a tuple -/
theorem call_reprD {X : Cx} {k : Nat} (hg : X.A.guards = some []) (hr : Room k X.A) (hsys : ∃ o, X.base.get? sysModules = some o) :
    CallR X (.builtin "repr") (fun xs H Q => ∃ v d a, xs = [v] ∧ v = .ref a ∧ Rp H v d ∧ B 100 10000000 d ∧ Q (.str d.shown) H) := by
  intro pins s σ H xs us Q I r h
  obtain ⟨v, d, a, rfl, rfl, hR, hB, q⟩ := h
  obtain ⟨u, rfl, rx⟩ := vals1 r
  obtain ⟨as, hrd, hno⟩ := Rp.reads hsys I d _ _ hR rx
  cases rx
  refine repr_of_reads' hrd hB.sh (fun _ => hno) hg (by have := hr.un; have := hB.dp; omega) (fun _ _ e => e) (fun h' u tk hk => ⟨.str _, H, I.kept hk, ⟨_, rfl⟩, q⟩) ?_
  have h1 := shown_le d hB.wt hB.sh
  have h2 := hB.wt
  rw [sizeLine_eq]
  omega
end CL
set_option Elab.async false
set_option linter.all false
set_option maxRecDepth 100000
set_option maxHeartbeats 4000000
namespace CL
open PySem PySem.Spec PyProof.Rows L2 GE
abbrev sHand : Stmt := topS 26
theorem scHand : FnScope ["bag", "thing"] ["bag", "thing"] (defScope sHand) := ⟨rfl, rfl, rfl, by decide +kernel, rfl, by decide +kernel, by decide +kernel⟩
abbrev Bq : PyData → Prop := B 2 400
def P1 (d : PyData) : Prop := ∃ ds, d = .list ds ∧ ds.length ≤ 200 ∧ B 4 100000 (.list ds) ∧ B 4 100000 (.tuple ds)
theorem bq_int {i : Int} (h : i.natAbs < 2 ^ 140) : Bq (.int i) := (b_int (k := 0) h).mono (by decide) (by decide)
def Few (ns : List Int) : Prop := ns.length ≤ 60 ∧ ∀ x ∈ ns, 0 ≤ x ∧ x < 1000
theorem small140 {x : Int} (h0 : 0 ≤ x) (h1 : x < 1000) : x.natAbs < 2 ^ 140 := by
  have : (1000 : Nat) ≤ 2 ^ 140 := by decide
  omega
theorem few_in {ns : List Int} (h : Few ns) : Ls 0 60 Bq (.list (ns.map PyData.int)) := ⟨_, rfl, Nat.zero_le _, by rw [List.length_map]; exact h.1, fun x hx => by
  obtain ⟨i, hi, rfl⟩ := List.mem_map.mp hx
  exact bq_int (small140 (h.2 i hi).1 (h.2 i hi).2)⟩
theorem few_bq {ns : List Int} (h : Few ns) : B 1 20000 (.list (ns.map PyData.int)) := by
  refine (B.list (k := 0) (u := 200) (n := 60) (fun x hx => ?_) (by rw [List.length_map]; exact h.1)).mono (by decide) (by decide)
  obtain ⟨i, hi, rfl⟩ := List.mem_map.mp hx
  exact b_int (small140 (h.2 i hi).1 (h.2 i hi).2)
theorem few_bt {ns : List Int} (h : Few ns) : B 1 20000 (.tuple (ns.map PyData.int)) := by
  refine (B.tuple (k := 0) (u := 200) (n := 60) (fun x hx => ?_) (by rw [List.length_map]; exact h.1)).mono (by decide) (by decide)
  obtain ⟨i, hi, rfl⟩ := List.mem_map.mp hx
  exact b_int (small140 (h.2 i hi).1 (h.2 i hi).2)
theorem p1_wide {lo hi : Nat} (d : PyData) (hh : hi ≤ 200) : Ls lo hi Bq d → P1 d := fun ⟨ds, e, _, l, p⟩ => ⟨ds, e, by omega, (B.list (n := 200) p (by omega)).mono (by decide) (by decide), (B.tuple (n := 200) p (by omega)).mono (by decide) (by decide)⟩
def spHand (r : Bg) : Sp := fun vs H Q _ => ∃ (v : V) (ds : List PyData) (n : Nat) (W : Addr → Prop), vs = [.ref r.a, v] ∧ n + 1 ≤ M60 ∧ BagAt n H r ∧ Wk W H r ∧ Rp (Hw W H) v (.list ds) ∧ ∀ v' d' H', BagAt (n + 1) H' r → Mv r H H' → Rp (Hw W H') v' d' → d' = .list ds ∨ d' = .tuple ds → Q v' H'
section
variable {r : Bg} {W : Addr → Prop} {G : Gam} {σ : L2.St}
theorem ev_tupOf {K : PySem.W.Frag} {i : Nat} {v : V} {ds : List PyData} {P : PyData → Prop} (h1 : σ[i]? = some (some v)) (h2 : (v, PyData.list ds) ∈ G) (h : P (.tuple ds)) :
    Ev 0 r W G σ (tCB (fun xs H Q => ∃ p ys, xs = [.ref p] ∧ ((SqL K H p ys ∧ ∀ l, H l = none → Q (.ref l) (upd H l (.tup ys))) ∨ (SqT K H p ys ∧ Q (.ref p) H))) (tCons (tVar i) tNil)) P := fun n H Q l s q => by
  obtain ⟨p, xs, rfl, hp, hx⟩ := rp_list (s.ok _ h2)
  exact ⟨.ref p, h1, p, xs, rfl, .inl ⟨SqL.of (Hw.sub W H _ _ hp), fun t nt => q (.ref t) (.tuple ds) _ (s.re.same (same_upd nt)) (Mv.of (same_upd nt)) (.tup (by rw [Hw.at (s.wk.out nt)]; exact upd_same) (RpAll.sm (Same.hw (same_upd nt)) hx)) h⟩⟩
theorem ev_first {K : PySem.W.Frag} {i : Nat} {v : V} {ns : List Int} (h1 : σ[i]? = some (some v)) (h2 : (v, PyData.list (ns.map PyData.int)) ∈ G) (hF : Few ns) :
    EvI 0 r W G σ (tIf (tTest (tOp rNeE (tVar i) (tLst tNil))) (tOp (rIxL K) (tVar i) (tC (.int 0))) (tC (.int 5))) (fun x => 0 ≤ x ∧ x < 1000) := fun n H Q l s q => by
  obtain ⟨p, xs, rfl, hp, hx⟩ := rp_list (s.ok _ h2)
  have hpH := Hw.sub W H _ _ hp
  refine ⟨.ref p, h1, Nat.zero_le _, fun L nL => ?_⟩
  have s1 : Same H (upd H L (.lst [])) := same_upd nL
  have eL : (upd H L (.lst [])) L = some (.lst []) := upd_same
  generalize upd H L (.lst []) = H1 at s1 eL
  refine ⟨p, L, xs, rfl, rfl, s1 _ _ hpH, eL, _, rfl, ?_⟩
  cases ns with
  | nil =>
    obtain rfl : xs = [] := List.eq_nil_of_length_eq_zero hx.length
    exact iteF (q 5 H1 (s.re.same s1) (Mv.of s1) ⟨by decide, by decide⟩)
  | cons x ns =>
    cases hx with
    | cons hr ht =>
      cases hr
      exact iteT ⟨.ref p, h1, p, _, ((0 : Nat) : Int), .int x, rfl, rfl, SqL.of (s1 _ _ hpH), atI_nat (j := 0) rfl, q x H1 (s.re.same s1) (Mv.of s1) (hF.2 x List.mem_cons_self)⟩
end
section
variable {P : Program} {w : World} {K : PySem.W.Frag} {mg : Str → Option Value} {base : Heap}
theorem ok_hand {f : Addr} {r : Bg} {fd : FuncData} (F : Fun K "_law_handed" "_law_handed" sHand f fd) (T : Nm mg) (CD : Cal P w K mg base 2 "_law_draw" ["bag", "many"] (spDraw r)) : FnOk P w K mg base CX0 3 f fd ["bag", "thing"] (spHand r) := by
  refine F.ok scHand (fun vs H Q E ⟨v, ds, n, W, e, _⟩ => by rw [e]; rfl) (fun cdv A outer s H vs Q E hr h => ?_)
  obtain ⟨v, ds, n, W, rfl, hn, hb, hW, hR, q⟩ := h
  refine ⟨_, pss_one (ps_ret (pe_ix ix_list (pe_lst (pa_cons (pv 1) (pa_cons (pe_callTy call_tuple_of (by rfl) T.tuple (by decide +kernel) (pa_cons (pv 1) pa_nil)) (pa_cons (pv 1) pa_nil)))) (pe_cal CD hr (by rfl) (pa_cons (pv 0) (pa_cons pe_int pa_nil))) (fun _ _ => rfl))), ?_⟩
  have hS : Se n r W [(v, .list ds)] H := ⟨hb, hW, GOk.cons (fun p hp => nomatch hp) hR⟩
  have hv : ∀ {P : PyData → Prop}, P (.list ds) → Ev 0 r W [(v, .list ds)] [some (.ref r.a), some v] (tVar 1) P := fun h => ev_var rfl List.mem_cons_self h
  have E := ev_ix (K := K) (lo := 3) (P := fun d => d = .list ds ∨ d = .tuple ds) (ev_lst (eva_cons (hv (.inl rfl)) (eva_cons (ev_tupOf (K := K) (i := 1) (σ := [some (.ref r.a), some v]) rfl List.mem_cons_self (.inr rfl)) (eva_cons (hv (.inl rfl)) eva_nil)))) (ev_draw (σ := [some (.ref r.a), some v]) (ev_int (i := 3)) rfl (by decide) (by decide))
  exact E n H _ (by omega) hS fun v' d' H' b' m' rp p => q v' d' H' b'.to m' rp p
end
end CL
set_option Elab.async false
set_option linter.all false
set_option maxRecDepth 100000
set_option maxHeartbeats 4000000
namespace CL
open PySem PySem.Spec PyProof.Rows L2 GE
/-! ### what a call that fills tables leaves -/
theorem Ex.some {H H' : Hp} (e : Ex H H') {b : Addr} (n : H b ≠ none) : H' b ≠ none := fun z => n (e.free z)
theorem Wk.ex {W : Addr → Prop} {H H' : Hp} {r : Bg} (k : Wk W H r) (e : Ex H H') : Wk W H' r := ⟨k.bag, fun b hb => e.some (k.trk b hb)⟩
theorem Ex.hw {W : Addr → Prop} {H H' : Hp} (e : Ex H H') : Ex (Hw W H) (Hw W H') := fun b o h => by
  rw [Hw.at (Hw.ne h)]
  exact e b o (Hw.sub W H b o h)
theorem Se.ex {n : Nat} {r : Bg} {W : Addr → Prop} {G : Gam} {H H' : Hp} (s : Se n r W G H) (e : Ex H H') : Se n r W G H' := ⟨s.re.kx e, s.wk.ex e, fun p hp => Rp.ex e.hw _ _ (s.ok p hp)⟩
theorem tabG_mv {n : Nat} {P : Addr} {r : Bg} {H H' : Hp} (h : GxR.TabG H P) (hr : BagAt n H r) (m : Mv r H H') : GxR.TabG H' P := by
  obtain ⟨ps, e, t⟩ := h
  obtain ⟨ns, i, b, k, tt, er, _⟩ := hr
  exact ⟨ps, m.keep P _ (fun z => by rw [z, er] at e; cases e) e, t⟩
theorem tabG_upd {P p : Addr} {H : Hp} {o : HO} (h : GxR.TabG H P) (n : ∀ ps, H p ≠ some (.tbl ps)) : GxR.TabG (upd H p o) P := by
  obtain ⟨ps, e, t⟩ := h
  exact ⟨ps, by rw [upd_ne fun z => n ps (by rw [← z]; exact e)]; exact e, t⟩
def spE (sp : Bg → Sp) : Sp := fun vs H Q E => ∃ r, sp r vs H Q E
/-- people as whole numbers -/
def ic (ys : List Nat) : List Int := ys.map fun y : Nat => (y : Int)
theorem ppl_ic (ys : List Nat) : ppl ys = (ic ys).map V.int := by
  unfold ppl ic
  rw [List.map_map]
  rfl
theorem ic_few {ys : List Nat} {k : Nat} (h : ys.Perm (List.range k)) (hk : k ≤ 60) : Few (ic ys) := by
  refine ⟨by unfold ic; rw [List.length_map, h.length_eq, List.length_range]; exact hk, fun x hx => ?_⟩
  obtain ⟨y, hy, rfl⟩ := List.mem_map.mp hx
  have := List.mem_range.mp (h.mem_iff.mp hy)
  omega
section
variable {c c1 c2 : Nat} {r : Bg} {W : Addr → Prop} {G : Gam} {σ : L2.St}
theorem ev_hand {k : Nat} {tx : TE} {ds : List PyData} (e : Ev c r W G σ tx (· = .list ds)) (h0 : σ[k]? = some (some (.ref r.a))) : Ev (c + 1) r W G σ (tCall (spE spHand) [] E0 (tCons (tVar k) (tCons tx tNil))) (fun d => d = .list ds ∨ d = .tuple ds) := fun n H Q l s q =>
  ⟨.ref r.a, h0, e n H _ (by omega) s fun v d H1 b1 m1 rp e1 => ⟨r, v, ds, n + c, W, rfl, by omega, b1, s.wk.mv b1 m1, (by rw [← e1]; exact rp), fun v' d' H' b' m' rp' p' => q v' d' H' b'.to (m1.trans m') rp' p'⟩⟩
theorem ev_tupE {K : PySem.W.Frag} {te : TE} {PA PC : PyData → Prop} (e : Ev c r W G σ te PA) (h : ∀ d, PA d → ∃ ds, d = .list ds ∧ PC (.tuple ds)) :
    Ev c r W G σ (tCB (fun xs H Q => ∃ p ys, xs = [.ref p] ∧ ((SqL K H p ys ∧ ∀ l, H l = none → Q (.ref l) (upd H l (.tup ys))) ∨ (SqT K H p ys ∧ Q (.ref p) H))) (tCons te tNil)) PC := fun n H Q l s q =>
  e n H _ l s fun v d H1 b1 m1 rp p1 => by
    obtain ⟨ds, z, hc⟩ := h d p1
    subst z
    obtain ⟨p, xs, rfl, hp, hx⟩ := rp_list rp
    exact ⟨p, xs, rfl, .inl ⟨SqL.of (Hw.sub W H1 _ _ hp), fun t nt => q (.ref t) (.tuple ds) _ (b1.same (same_upd nt)) (m1.trans (Mv.of (same_upd nt))) (.tup (by rw [Hw.at ((s.wk.mv b1 m1).out nt)]; exact upd_same) (RpAll.sm (Same.hw (same_upd nt)) hx)) hc⟩⟩
end
/-! ### a list that grows, hidden from the other data -/
structure DS (n : Nat) (r : Bg) (D : Addr) (G : Gam) (ds : List PyData) (H : Hp) : Prop where
  se : Se n r (fun b => b = r.a ∨ b = D) G H
  at_ : ∃ vs, H D = some (.lst vs) ∧ RpAll (Hw (fun b => b = r.a ∨ b = D) H) vs ds
  off : Off r D
section
variable {n c c1 c2 : Nat} {r : Bg} {G : Gam} {σ : L2.St} {H : Hp} {D0 : Ends} {i : Nat} {ds es : List PyData}
theorem DS.mk' {W : Addr → Prop} {H1 : Hp} {t : Addr} {vs : List V} (se : Se n r W G H1) (nt : H1 t = none) (hv : RpAll (Hw W H1) vs ds) : DS n r t G ds (upd H1 t (.lst vs)) := by
  have ex : Same (Hw W H1) (Hw (fun b => b = r.a ∨ b = t) (upd H1 t (.lst vs))) := by
    rw [hw_upd (.inr rfl)]
    exact Hw.more fun b hb => hb.elim (fun e => .inl (by rw [e]; exact se.wk.bag)) fun e => .inr (by rw [e]; exact nt)
  have off := se.re.new nt
  refine ⟨⟨se.re.same (same_upd nt), ⟨.inl rfl, fun b hb => ?_⟩, fun p hp => Rp.sm ex (se.ok p hp)⟩, ⟨vs, upd_same, RpAll.sm ex hv⟩, off⟩
  rcases hb with e | e
  · rw [e, upd_ne (Ne.symm off.a)]; exact se.re.some
  · rw [e, upd_same]; exact nofun
theorem ds_catE {W : Addr → Prop} {ta tb : TE} {PA PB : PyData → Prop} (a : Ev c1 r W G σ ta PA) (b : Ev c2 r W G σ tb PB) (l : n + (c1 + c2) ≤ M60) (s : Se n r W G H) (h : ∀ d e, PA d → PB e → ∃ ds es, d = .list ds ∧ e = .list es ∧ ds.length ≤ 1000 ∧ es.length ≤ 1000)
    (h2 : ∀ D ds es H', Mv r H H' → DS (n + (c1 + c2)) r D G (ds ++ es) H' → PA (.list ds) → PB (.list es) → D0.nx (σ.set i (some (.ref D))) H') : tAsg (tOp rCat ta tb) (gName i) D0 σ H :=
  a n H _ (by omega) s fun v d H1 re1 m1 rp1 e1 => b (n + c1) H1 _ (by omega) (s.mv re1 m1) fun v2 d2 H2 re2 m2 rp2 e2 => by
    obtain ⟨ds, es, z1, z2, hn, hm⟩ := h d d2 e1 e2
    subst z1 z2
    obtain ⟨p, xs, rfl, hp, hx⟩ := rp_list (Rp.sm (m2.hw s.wk.bag) rp1)
    obtain ⟨p', ys, rfl, hp', hy⟩ := rp_list rp2
    have re3 : BagAt (n + (c1 + c2)) H2 r := re2.to
    exact ⟨p, p', xs, ys, rfl, rfl, Hw.sub W H2 _ _ hp, Hw.sub W H2 _ _ hp', small_add (by rw [hx.length]; exact hn) (by rw [hy.length]; exact hm), fun t nt => h2 t ds es _ ((m1.trans m2).trans (Mv.of (same_upd nt))) (DS.mk' (s.mv re3 (m1.trans m2)) nt (hx.append hy)) e1 e2⟩
theorem DS.app {D : Addr} {m : Nat} (s : DS n r D G ds H) {H1 : Hp} {v : V} {d : PyData} (re1 : BagAt m H1 r) (m1 : Mv r H H1) (rp : Rp (Hw (fun b => b = r.a ∨ b = D) H1) v d) : ∃ vs, H1 D = some (.lst vs) ∧ vs.length = ds.length ∧ DS m r D G (ds ++ [d]) (upd H1 D (.lst (vs ++ [v]))) := by
  obtain ⟨vs, hD, hv⟩ := s.at_
  have hD1 := m1.keep D _ s.off.a hD
  have se1 := s.se.mv re1 m1
  have hv1 := RpAll.sm (m1.hw (W := fun b => b = r.a ∨ b = D) (.inl rfl)) hv
  refine ⟨vs, hD1, hv.length, ⟨re1.store s.off, ⟨.inl rfl, fun b hb => ?_⟩, fun p hp => ?_⟩, ⟨_, upd_same, ?_⟩, s.off⟩
  · rcases hb with e | e
    · rw [e, upd_ne (Ne.symm s.off.a)]; exact re1.some
    · rw [e, upd_same]; exact nofun
  · rw [hw_upd (.inr rfl)]; exact se1.ok p hp
  · rw [hw_upd (.inr rfl)]; exact hv1.snoc rp
/-- the list shown again -/
theorem DS.back {D : Addr} (s : DS n r D G ds H) : Se n r (fun b => b = r.a) ((.ref D, .list ds) :: G) H := by
  obtain ⟨vs, hD, hv⟩ := s.at_
  have less : Same (Hw (fun b => b = r.a ∨ b = D) H) (Hw (fun b => b = r.a) H) := Hw.less fun b hb => .inl hb
  exact ⟨s.se.re, ⟨rfl, fun b hb => by rw [hb]; exact s.se.re.some⟩, GOk.cons (fun p hp => Rp.sm less (s.se.ok p hp)) (.lst (by rw [Hw.at (W := fun b => b = r.a) s.off.a]; exact hD) (RpAll.sm less hv))⟩
end
end CL
set_option Elab.async false
set_option linter.all false
set_option maxRecDepth 100000
set_option maxHeartbeats 4000000
namespace CL
open PySem PySem.Spec PyProof.Rows L2 GE
abbrev sPeople : Stmt := topS 11
abbrev sPlaces : Stmt := topS 12
abbrev sBarIt : Stmt := topS 13
theorem scPeople : FnScope ["order"] ["order"] (defScope sPeople) := ⟨rfl, rfl, rfl, by decide +kernel, rfl, by decide +kernel, by decide +kernel⟩
theorem scPlaces : FnScope ["people", "person"] ["people"] (defScope sPlaces) := ⟨rfl, rfl, rfl, by decide +kernel, rfl, by decide +kernel, by decide +kernel⟩
theorem scBarIt : FnScope ["places", "youngest", "oldest", "between"] ["places", "youngest", "oldest", "between"] (defScope sBarIt) := ⟨rfl, rfl, rfl, by decide +kernel, rfl, by decide +kernel, by decide +kernel⟩
/-! ### orders that are orders -/
def intsD (ns : List Int) : List PyData := ns.map PyData.int
def OrdV (H : Hp) (v : V) (ns : List Int) : Prop := Rp H v (.list (intsD ns)) ∨ Rp H v (.tuple (intsD ns))
theorem OrdV.ex {H H' : Hp} (e : Ex H H') {v : V} {ns : List Int} (h : OrdV H v ns) : OrdV H' v ns := h.elim (fun z => .inl (Rp.ex e _ _ z)) fun z => .inr (Rp.ex e _ _ z)
theorem ints_whole : ∀ ns : List Int, (intsD ns).all isWhole = true
  | [] => rfl
  | _ :: ns => ints_whole ns
theorem ints_worth : ∀ ns : List Int, (intsD ns).map worth = ns
  | [] => rfl
  | n :: ns => congrArg (n :: ·) (ints_worth ns)
theorem OrdV.data {H : Hp} {v : V} {ns : List Int} (h : OrdV H v ns) : ∃ d, Rp H v d ∧ rowsD d = some (intsD ns) := h.elim (fun z => ⟨_, z, rfl⟩) fun z => ⟨_, z, rfl⟩
theorem ord_yes {d : PyData} {ns : List Int} (e : rowsD d = some (intsD ns)) (h : isOrderI ns = true) (l : ns.length ≤ 60) : isOrder d = true := by
  unfold isOrder
  rw [e]
  show isOrderL (intsD ns) = true
  unfold isOrderL
  rw [ints_whole, ints_worth, h, show (intsD ns).length = ns.length from List.length_map .., decide_eq_true l]
  rfl
theorem rp_ints2 {H : Hp} {vs : List V} {ns : List Int} (h : RpAll H vs (intsD ns)) : vs = ns.map V.int := by
  have z := rp_ints h (ints_whole ns)
  rw [ints_worth] at z
  exact z
/-- the places by people's numbers -/
def plc (ns : List Int) : List Int := (List.range ns.length).map fun i : Nat => ((ns.findIdx (fun y => y == (i : Int)) : Nat) : Int)
theorem plc_len (ns : List Int) : (plc ns).length = ns.length := by unfold plc; rw [List.length_map, List.length_range]
theorem find_at {ns : List Int} (h : isOrderI ns = true) {i : Nat} (hi : i < ns.length) : ∃ hl : ns.findIdx (fun y => y == (i : Int)) < ns.length, ns[ns.findIdx (fun y => y == (i : Int))] = (i : Int) ∧ ∀ m, m < ns.findIdx (fun y => y == (i : Int)) → ∀ z, ns[m]? = some z → (z == (i : Int)) = false := by
  unfold isOrderI at h
  rw [List.all_eq_true] at h
  have hm : (i : Int) ∈ ns := of_decide_eq_true (h i (List.mem_range.mpr hi))
  have hl : ns.findIdx (fun y => y == (i : Int)) < ns.length := List.findIdx_lt_length_of_exists ⟨_, hm, by simp⟩
  refine ⟨hl, by simpa using List.findIdx_getElem (xs := ns) (p := fun y => y == (i : Int)) (w := hl), fun m lm z hz => ?_⟩
  have e := List.not_of_lt_findIdx lm
  obtain ⟨hm2, e2⟩ := List.getElem?_eq_some_iff.mp hz
  rw [e2] at e
  exact e
def barB (ps : List Int) (y o b : Nat) : Bool := (decide ((o : Int) < (b : Int)) && decide ((b : Int) < (y : Int))) && (decide (ps.getD y 0 < ps.getD o 0) && decide (ps.getD o 0 < ps.getD b 0))
def inR (n : Nat) : PyData → Bool
  | .int i => decide (0 ≤ i) && decide (i < (n : Int))
  | _ => false
def spPeople (P1 : Addr) : Sp := fun vs H Q _ => ∃ v ns, vs = [v] ∧ OrdV H v ns ∧ isOrderI ns = true ∧ ns.length ≤ 60 ∧ GxR.TabG H P1 ∧ ∀ H1 t, Ex H H1 → GxR.TabG H1 P1 → H1 t = none → Q (.ref t) (upd H1 t (.lst (ns.map V.int)))
def spPlaces : Sp := fun vs H Q _ => ∃ (A : Addr) (ns : List Int), vs = [.ref A] ∧ H A = some (.lst (ns.map V.int)) ∧ isOrderI ns = true ∧ ns.length ≤ 60 ∧ ∀ H' t, Same H H' → H t = none → H' t = some (.lst ((plc ns).map V.int)) → Q (.ref t) H'
def spBarIt : Sp := fun vs H Q _ => ∃ (A : Addr) (ps : List Int) (y o b : Nat), vs = [.ref A, .int y, .int o, .int b] ∧ H A = some (.lst (ps.map V.int)) ∧ y < ps.length ∧ o < ps.length ∧ b < ps.length ∧ Q (.bl (barB ps y o b)) H
theorem index_blk {X : Cx} {s : Shared} {H : Hp} {scope : Scope} {cenv : Env} {fp : List Addr} {o e : Expr} {apos cpos : Pos} {to : TE} {t : TA} (ho : PE (X.blk s H scope cenv fp) o to) (ha : PA (X.blk s H scope cenv fp) [e] t)
    (hbase : attributeBase o "index" (X.blk s H scope cenv fp).env (eval o (X.blk s H scope cenv fp).env) = eval o (X.blk s H scope cenv fp).env := by rfl)
    (hfew : ((backTo cpos (starEach [e] (X.blk s H scope cenv fp).env)).all (fun x => !x.1) && (backToKw cpos (keywordEach [] (X.blk s H scope cenv fp).env)).all (fun x => x.1.isSome)
      && decide ([e].length + ([] : List Keyword).length + (if ([] : List Keyword).isEmpty then 0 else 1) < 30)) = true := by rfl)
    (hline : (apos.endLine == cpos.line) = true := by rfl) (hs : starEach [e] (X.blk s H scope cenv fp).env = (false, eval e (X.blk s H scope cenv fp).env) :: starEach [] (X.blk s H scope cenv fp).env := by rfl) (hplain : (backTo cpos (starEach [] (X.blk s H scope cenv fp).env)).any (·.1) = false := by rfl) :
    PE (X.blk s H scope cenv fp) (.Call (.Attribute o "index" apos) [e] [] cpos) (tBM X.K "list" (rIndex X.K) to t) :=
  pe_bm PySem.F.plainAttrs_list PySem.F.slot_list_index PySem.F.type_list_index mt_index ho ha hbase hfew hline hs hplain
theorem len_gx {X : Cx} {A : Around} {N : List Str} {s : Shared} {H : Hp} {cenv : Env} {fp : List Addr} {pn : List (Addr × Obj)} : CallR (gx X A N s H cenv fp pn) (.builtin "len") (fun xs H Q => ∃ p ys, xs = [.ref p] ∧ (SqL X.K H p ys ∨ SqT X.K H p ys) ∧ Q (.int ys.length) H) := call_len_seq
theorem nd2 : (["person", "places"] : List Str).Nodup := by decide +kernel
section
variable {P : Program} {w : World} {K : PySem.W.Frag} {mg : Str → Option Value} {base : Heap}
theorem ok_people {f P1 : Addr} {fd : FuncData} (F : Fun K "people_of" "people_of" sPeople f fd) (T : Nm mg) (CI : Cal P w K mg base 4 "is_order" ["thing"] (spIsO P1)) : FnOk P w K mg base CX0 5 f fd ["order"] (spPeople P1) := by
  refine F.ok scPeople (fun vs H Q E ⟨v, ns, e, _⟩ => by rw [e]; rfl) (fun cdv A outer s H vs Q E hr h => ?_)
  obtain ⟨v, ns, rfl, hO, hI, hl, hT, q⟩ := h
  refine ⟨_, pss_cons (ps_if (pt_not (pt_val (pe_cal CI hr (by rfl) (pa_cons (pv 0) pa_nil)))) (pss_one ps_never) pss_nil) (pss_one (ps_ret (pe_callTy call_list_of (by rfl) T.list (by decide +kernel) (pa_cons (pv 0) pa_nil)))), ?_⟩
  obtain ⟨d, hR, hd⟩ := hO.data
  refine ⟨v, rfl, v, d, rfl, hR, hT, fun H1 e1 t1 => ⟨isOrder d, rfl, ?_⟩⟩
  rw [ord_yes hd hI hl]
  obtain ⟨a, xs, rfl, hA, hso⟩ := (Rp.ex e1 d v hR).rows hd
  obtain rfl := rp_ints2 hA
  exact iteF ⟨.ref a, rfl, a, _, rfl, hso.elim (fun z => .inl (SqL.of z)) (fun z => .inr (SqT.of z)), fun t nt => q H1 t e1 t1 nt⟩
theorem ok_places {f : Addr} {fd : FuncData} (F : Fun K "places_of" "places_of" sPlaces f fd) (T : Nm mg) : FnOk P w K mg base CX0 1 f fd ["people"] spPlaces := by
  refine F.ok scPlaces (fun vs H Q E ⟨A, ns, e, _⟩ => by rw [e]; rfl) (fun cdv A' outer s H vs Q E hr h => ?_)
  obtain ⟨A, ns, rfl, eA, hI, hl, q⟩ := h
  have nd := scPlaces.nd
  refine ⟨_, (pss_one (ps_ret (pe_lc (own := [("person", 1)]) (g := (gName 1)) (tt := tYes) rfl nd (pi_range1 (by rfl) T.range (pa_cons (pe_callB call_len_seq (by rfl) T.len PySem.boot_len (pa_cons (pv 0) pa_nil)) pa_nil)) (blkOk_by (own := [("person", 1)]) (N := ["people", "person"]) (sc := defScope sPlaces) (by decide +kernel)) (fun _ _ _ _ _ => (pg_name (i := 1) nd rfl (.inl rfl))) (fun _ _ _ _ _ => pts_nil) (fun _ _ _ _ _ => (index_blk (pv 0) (pa_cons (pv 1) pa_nil)))))), ?_⟩
  refine ⟨.ref A, rfl, A, _, rfl, .inl (SqL.of eA), _, rfl, by rw [List.length_map]; omega, by rw [List.length_map]; omega, fun D nD => ?_⟩
  rw [List.length_map]
  refine lc_range (lo := 0) (n := (ns.length : Int).toNat) (fun i H3 => Same H H3 ∧ ∃ acc, H3 D = some (.lst acc) ∧ acc = ((plc ns).map V.int).take i) ⟨same_upd nD, [], upd_same, rfl⟩ (fun i H3 hi ⟨s3, acc, eD, ha⟩ => ?_) (fun H3 ⟨s3, acc, eD, ha⟩ => ?_)
  · have hi' : i < ns.length := hi
    obtain ⟨hj, ej, no⟩ := find_at hI hi'
    refine ⟨rfl, yesT ?_⟩
    have eA3 := s3 _ _ eA
    refine ⟨.ref A, rfl, .inl ⟨rfl, _, SqL.of eA3⟩, .int (0 + (i : Int)), rfl, A, _, .int (0 + (i : Int)), ns.findIdx (fun y => y == (i : Int)), .int ns[ns.findIdx (fun y => y == (i : Int))], rfl, rfl, SqL.of eA3, rfl, flat_ints ns, by rw [List.getElem?_map, List.getElem?_eq_getElem hj]; rfl, ?_, fun m z lm hz => ?_, acc, eD, ?_, fun b o e => by rw [upd_ne (ne_of_none e nD)]; exact s3 b o e, _, upd_same, ?_⟩
    · rw [ej, Int.zero_add]
      show ((i : Int) == (i : Int)) = true
      simp
    · rw [List.getElem?_map] at hz
      cases z2 : ns[m]? with
      | none => rw [z2] at hz; cases hz
      | some y =>
        rw [z2] at hz
        cases hz
        have := no m lm y z2
        rw [Int.zero_add]
        exact this
    · rw [ha, List.length_take]
      exact small1000 (by omega)
    · rw [ha, List.take_add_one]
      unfold plc
      rw [List.getElem?_map, List.getElem?_map, List.getElem?_range hi']
      rfl
  · have lm : (ns.length : Int).toNat = ns.length := rfl
    rw [lm, List.take_of_length_le (by rw [List.length_map, plc_len]; exact Nat.le_refl _)] at ha
    exact q H3 D s3 nD (by rw [eD, ha])
theorem ok_barIt {f : Addr} {fd : FuncData} (F : Fun K "bar_it" "bar_it" sBarIt f fd) : FnOk P w K mg base CX0 1 f fd ["places", "youngest", "oldest", "between"] spBarIt := by
  refine F.ok scBarIt (fun vs H Q E ⟨A, ps, y, o, b, e, _⟩ => by rw [e]; rfl) (fun cdv A' outer s H vs Q E hr h => ?_)
  obtain ⟨A, ps, y, o, b, rfl, eA, hy, ho, hb, q⟩ := h
  refine ⟨_, (pss_one (ps_ret (pe_and (pe_chain op_lt op_lt (pv 2) (pv 3) (pv 1)) (pe_one (pe_chain op_lt op_lt (pe_ix ix_list (pv 0) (pv 1) (fun _ _ => rfl)) (pe_ix ix_list (pv 0) (pv 2) (fun _ _ => rfl)) (pe_ix ix_list (pv 0) (pv 3) (fun _ _ => rfl))))))), ?_⟩
  have at_ : ∀ {k : Nat}, k < ps.length → (ps.map V.int)[k]? = some (.int (ps.getD k 0)) := fun {k} hk => by rw [List.getElem?_map, List.getElem?_eq_getElem hk, List.getD_eq_getElem?_getD, List.getElem?_eq_getElem hk]; rfl
  have no : ∀ {c : Bool}, barB ps y o b = c → Q (.bl c) H := fun {c} e => by rw [← e]; exact q
  refine ⟨.int o, rfl, .int b, rfl, o, b, rfl, rfl, decide ((o : Int) < b), rfl, ite2 (fun e1 => ?_) (fun e1 => ?_)⟩
  · refine ⟨.int y, rfl, b, y, rfl, rfl, decide ((b : Int) < y), rfl, ite2 (fun e2 => ?_) (fun e2 => ?_)⟩
    · refine ⟨.ref A, rfl, .int y, rfl, A, _, y, _, rfl, rfl, SqL.of eA, atI_nat (at_ hy), .ref A, rfl, .int o, rfl, A, _, o, _, rfl, rfl, SqL.of eA, atI_nat (at_ ho), _, _, rfl, rfl, decide (ps.getD y 0 < ps.getD o 0), rfl, ite2 (fun e3 => ?_) (fun e3 => ?_)⟩
      · refine ⟨.ref A, rfl, .int b, rfl, A, _, b, _, rfl, rfl, SqL.of eA, atI_nat (at_ hb), _, _, rfl, rfl, no ?_⟩
        unfold barB
        rw [e1, e2, e3]
        rfl
      · refine no ?_
        unfold barB
        rw [Bool.eq_false_iff.mpr e3, Bool.false_and, Bool.and_false]
    · refine no ?_
      unfold barB
      rw [Bool.eq_false_iff.mpr e2, Bool.and_false, Bool.false_and]
  · refine ⟨false, rfl, iteF (no ?_)⟩
    unfold barB
    rw [Bool.eq_false_iff.mpr e1, Bool.false_and, Bool.false_and]
end
end CL
set_option Elab.async false
set_option linter.all false
set_option maxRecDepth 100000
set_option maxHeartbeats 4000000
namespace CL
open PySem PySem.Spec PyProof.Rows L2 GE
abbrev sBarring : Stmt := topS 14
abbrev nBarring : List Str := ["order", "places", "youngest", "oldest", "between"]
theorem scBarring : FnScope nBarring ["order"] (defScope sBarring) := ⟨rfl, rfl, rfl, by decide +kernel, rfl, by decide +kernel, by decide +kernel⟩
/-- the least three that bar, as three numbers -/
abbrev T3 := Nat × Nat × Nat
def Fst (ps : List Int) (n : Nat) : Option T3 → Prop
  | none => ∀ y o b, y < n → o < y → o < b → b < y → barB ps y o b = false
  | some (y, o, b) => (y < n ∧ o < y ∧ o < b ∧ b < y) ∧ barB ps y o b = true ∧ (∀ y' o' b', y' < y → o' < y' → o' < b' → b' < y' → barB ps y' o' b' = false) ∧ (∀ o' b', o' < o → o' < b' → b' < y → barB ps y o' b' = false) ∧ ∀ b', o < b' → b' < b → barB ps y o b' = false
theorem ff {b : Bool} {p : Prop} (h : b = false) (h' : b = true) : p := by rw [h] at h'; cases h'
theorem Fst.uniq {ps : List Int} {n : Nat} : ∀ {t t' : Option T3}, Fst ps n t → Fst ps n t' → t = t'
  | none, none, _, _ => rfl
  | none, some (y, o, b), h, h' => ff (h y o b h'.1.1 h'.1.2.1 h'.1.2.2.1 h'.1.2.2.2) h'.2.1
  | some (y, o, b), none, h', h => ff (h y o b h'.1.1 h'.1.2.1 h'.1.2.2.1 h'.1.2.2.2) h'.2.1
  | some (y, o, b), some (y', o', b'), ⟨⟨a1, a2, a3, a4⟩, a5, a6, a7, a8⟩, ⟨⟨c1, c2, c3, c4⟩, c5, c6, c7, c8⟩ => by
    obtain rfl : y = y' := by
      rcases Nat.lt_trichotomy y y' with h | h | h
      · exact ff (c6 y o b h a2 a3 a4) a5
      · exact h
      · exact ff (a6 y' o' b' h c2 c3 c4) c5
    obtain rfl : o = o' := by
      rcases Nat.lt_trichotomy o o' with h | h | h
      · exact ff (c7 o b h a3 a4) a5
      · exact h
      · exact ff (a7 o' b' h c3 c4) c5
    obtain rfl : b = b' := by
      rcases Nat.lt_trichotomy b b' with h | h | h
      · exact ff (c8 b a3 h) a5
      · exact h
      · exact ff (a8 b' c3 h) c5
    rfl
def tD : Option T3 → PyData
  | none => .none
  | some (y, o, b) => .tuple [.int (y : Int), .int (o : Int), .int (b : Int)]
def spBarring (P1 : Addr) : Sp := fun vs H Q _ => ∃ v ns, vs = [v] ∧ OrdV H v ns ∧ isOrderI ns = true ∧ ns.length ≤ 60 ∧ GxR.TabG H P1 ∧ ∀ t v' H', Fst (plc ns) ns.length t → Ex H H' → GxR.TabG H' P1 → Rp H' v' (tD t) → Q v' H'
section
variable {P : Program} {w : World} {K : PySem.W.Frag} {mg : Str → Option Value} {base : Heap}
theorem ok_barring {f P1 : Addr} {fd : FuncData} (F : Fun K "barring" "barring" sBarring f fd) (T : Nm mg)
    (CPe : Cal P w K mg base 5 "people_of" ["order"] (spPeople P1)) (CPl : Cal P w K mg base 1 "places_of" ["people"] spPlaces) (CB : Cal P w K mg base 1 "bar_it" ["places", "youngest", "oldest", "between"] spBarIt) : FnOk P w K mg base CX0 6 f fd ["order"] (spBarring P1) := by
  refine F.ok scBarring (fun vs H Q E ⟨v, ns, e, _⟩ => by rw [e]; rfl) (fun cdv A outer s H vs Q E hr h => ?_)
  obtain ⟨v, ns, rfl, hO, hI, hl, hT1, q⟩ := h
  have nd := scBarring.nd
  refine ⟨_, (pss_cons (ps_set (i := 1) nd rfl (.inl rfl) (pe_cal (CPl.mono (by decide)) hr (by rfl) (pa_cons (pe_cal CPe hr (by rfl) (pa_cons (pv 0) pa_nil)) pa_nil)))
      (pss_cons (ps_for PassesOwn.never rfl (pi_range1 (by rfl) T.range (pa_cons (pe_callB call_len_seq (by rfl) T.len PySem.boot_len (pa_cons (pv 1) pa_nil)) pa_nil)) (pg_name (i := 2) nd rfl (.inl rfl)) (pss_one (ps_for PassesOwn.never rfl (pi_range1 (by rfl) T.range (pa_cons (pv 2) pa_nil)) (pg_name (i := 3) nd rfl (.inl rfl)) (pss_one (ps_for PassesOwn.never rfl (pi_range2 (by rfl) T.range (pa_cons (pe_op op_add (pv 3) pe_int) (pa_cons (pv 2) pa_nil))) (pg_name (i := 4) nd rfl (.inl rfl)) (pss_one (ps_if (pt_val (pe_cal (CB.mono (by decide)) hr (by rfl) (pa_cons (pv 1) (pa_cons (pv 2) (pa_cons (pv 3) (pa_cons (pv 4) pa_nil)))))) (pss_one (ps_ret (pe_tup (pa_cons (pv 2) (pa_cons (pv 3) (pa_cons (pv 4) pa_nil)))))) pss_nil)))))))
      (pss_one (ps_ret pe_non)))), ?_⟩
  refine ⟨v, rfl, v, ns, rfl, hO, hI, hl, hT1, fun H1 p e1 t1 np => ?_⟩
  have s1 : Same H1 (upd H1 p (.lst (ns.map V.int))) := same_upd np
  have ep : (upd H1 p (.lst (ns.map V.int))) p = some (.lst (ns.map V.int)) := upd_same
  generalize upd H1 p (.lst (ns.map V.int)) = H2 at s1 ep
  refine ⟨p, ns, rfl, ep, hI, hl, fun H3 D s3 nD eD => ?_⟩
  have e3 := e1.trans (Ex.of (s1.trans s3))
  have t3 := tabG_same (s1.trans s3) t1
  have lp := plc_len ns
  have lm : ((plc ns).map V.int).length = ns.length := by rw [List.length_map, lp]
  generalize hps : plc ns = ps at *
  show tSeq _ _ _ [some v, some (.ref D), none, none, none] H3
  refine ⟨.ref D, rfl, D, _, rfl, .inl (SqL.of eD), (ns.length : Int), by rw [lm], by omega, by omega, ?_⟩
  have lz : ((ns.length : Int)).toNat = ns.length := rfl
  refine for_range (lo := 0) (n := ((ns.length : Int)).toNat) (fun i σ H4 => H4 = H3 ∧ (∃ y2 y3 y4, σ = [some v, some (.ref D), y2, y3, y4]) ∧ ∀ y o b, y < i → o < y → o < b → b < y → barB ps y o b = false)
    ⟨rfl, ⟨_, _, _, rfl⟩, fun y o b h => absurd h (Nat.not_lt_zero _)⟩ (fun i σ H4 hi ⟨eH, ⟨y2, y3, y4, eσ⟩, hy⟩ => ?_) (fun σ H4 ⟨eH, ⟨y2, y3, y4, eσ⟩, hy⟩ => ?_)
  · subst eH eσ
    have hi : i < ns.length := hi
    rw [Int.zero_add]
    show tFor _ _ _ _ [some v, some (.ref D), some (.int (i : Int)), y3, y4] H4
    refine ⟨.int (i : Int), rfl, (i : Int), rfl, by omega, by omega, ?_⟩
    refine for_range (lo := 0) (n := ((i : Int)).toNat) (fun j σ H5 => H5 = H4 ∧ (∃ y3 y4, σ = [some v, some (.ref D), some (.int (i : Int)), y3, y4]) ∧ ∀ o b, o < j → o < b → b < i → barB ps i o b = false)
      ⟨rfl, ⟨_, _, rfl⟩, fun o b h => absurd h (Nat.not_lt_zero _)⟩ (fun j σ H5 hj ⟨eH, ⟨y3, y4, eσ⟩, ho⟩ => ?_) (fun σ H5 ⟨eH, ⟨y3, y4, eσ⟩, ho⟩ => ?_)
    · subst eH eσ
      have hj : j < i := hj
      rw [Int.zero_add]
      show tFor _ _ _ _ [some v, some (.ref D), some (.int (i : Int)), some (.int (j : Int)), y4] H5
      refine ⟨.int (j : Int), rfl, (j : Int), 1, rfl, rfl, .int (i : Int), rfl, (j : Int) + 1, (i : Int), rfl, ⟨by omega, by omega, by omega, by omega⟩, ?_⟩
      refine for_range (lo := (j : Int) + 1) (n := ((i : Int) - ((j : Int) + 1)).toNat) (fun k σ H6 => H6 = H5 ∧ (∃ y4, σ = [some v, some (.ref D), some (.int (i : Int)), some (.int (j : Int)), y4]) ∧ ∀ b, j < b → b < j + 1 + k → barB ps i j b = false)
        ⟨rfl, ⟨_, rfl⟩, fun b h1 h2 => by omega⟩ (fun k σ H6 hk ⟨eH, ⟨y4, eσ⟩, hb⟩ => ?_) (fun σ H6 ⟨eH, ⟨y4, eσ⟩, hb⟩ => ?_)
      · subst eH eσ
        have hk : j + 1 + k < i := by omega
        rw [show (j : Int) + 1 + (k : Int) = ((j + 1 + k : Nat) : Int) by omega]
        show tIfS _ _ _ _ [some v, some (.ref D), some (.int (i : Int)), some (.int (j : Int)), some (.int ((j + 1 + k : Nat) : Int))] H6
        refine ⟨.ref D, rfl, .int (i : Int), rfl, .int (j : Int), rfl, .int ((j + 1 + k : Nat) : Int), rfl, D, ps, i, j, j + 1 + k, rfl, eD, by omega, by omega, by omega, barB ps i j (j + 1 + k), rfl, ite2 (fun z => ?_) (fun z => ?_)⟩
        · refine ⟨.int (i : Int), rfl, .int (j : Int), rfl, .int ((j + 1 + k : Nat) : Int), rfl, small_le (by show 3 ≤ 1000; decide), fun p2 np2 => ?_⟩
          exact q (some (i, j, j + 1 + k)) (.ref p2) _ ⟨⟨hi, hj, by omega, hk⟩, z, hy, ho, fun b' h1 h2 => hb b' h1 h2⟩ (e3.trans (Ex.new np2)) (tabG_same (same_upd np2) t3) (.tup upd_same (.cons (.int _) (.cons (.int _) (.cons (.int _) .nil))))
        · exact ⟨rfl, ⟨_, rfl⟩, fun b h1 h2 => by
            by_cases h3 : b = j + 1 + k
            · rw [h3]; exact Bool.eq_false_iff.mpr z
            · exact hb b h1 (by omega)⟩
      · subst eH eσ
        exact ⟨rfl, ⟨_, _, rfl⟩, fun o b h1 h2 h3 => by
          by_cases h4 : o = j
          · rw [h4] at h2 ⊢; exact hb b h2 (by omega)
          · exact ho o b (by omega) h2 h3⟩
    · subst eH eσ
      have : ((i : Int)).toNat = i := rfl
      exact ⟨rfl, ⟨_, _, _, rfl⟩, fun y o b h1 h2 h3 h4 => by
        by_cases h5 : y = i
        · rw [h5] at h2 h4 ⊢; exact ho o b (by omega) h3 h4
        · exact hy y o b (by omega) h2 h3 h4⟩
  · subst eH eσ
    exact q none .non H4 hy e3 t3 .non
end
end CL
set_option Elab.async false
set_option linter.all false
set_option maxRecDepth 100000
set_option maxHeartbeats 4000000
namespace CL
open PySem PySem.Spec PyProof.Rows L2 GE
theorem seq_mk {A B : TS} {D : Ends} {σ : L2.St} {H : Hp} (h : ∀ nx : L2.St → Hp → Prop, (∀ σ' H', B D σ' H' → nx σ' H') → A { D with nx := nx } σ H) : tSeq A B D σ H := h (B D) fun _ _ z => z
theorem dget_blk {X : Cx} {s : Shared} {H : Hp} {scope : Scope} {cenv : Env} {fp : List Addr} {o i : Expr} {td ty : TE} {pos : Pos} (hu : X.A.units + 1 < cLine) (ho : PE (X.blk s H scope cenv fp) o td) (hi : PE (X.blk s H scope cenv fp) i ty) (hs : NoSl i) : PE (X.blk s H scope cenv fp) (.Subscript o i pos) (tDGet td ty) := pe_dget hu ho hi hs
theorem ord_perm {ns : List Int} (h : isOrderI ns = true) : ns.Perm (up ns.length) := by
  unfold isOrderI at h
  rw [List.all_eq_true] at h
  exact perm_of_sub (up_nodup _) (fun x hx => by
    obtain ⟨i, hi, rfl⟩ := up_mem.mp hx
    exact of_decide_eq_true (h i (List.mem_range.mpr hi))) (by rw [up_len]; exact Nat.le_refl _)
theorem plc_at {ns : List Int} {i : Nat} (hi : i < ns.length) : (plc ns).getD i 0 = ((ns.findIdx (fun y => y == (i : Int)) : Nat) : Int) := by
  unfold plc
  rw [List.getD_eq_getElem?_getD, List.getElem?_map, List.getElem?_range hi]
  rfl
theorem ord_nodup {ns : List Int} (h : isOrderI ns = true) : ns.Nodup := (ord_perm h).nodup_iff.mpr (up_nodup _)
theorem barB_in {ps : List Int} {y o b : Nat} (h1 : o < b) (h2 : b < y) : barB ps y o b = (decide (ps.getD y 0 < ps.getD o 0) && decide (ps.getD o 0 < ps.getD b 0)) := by
  unfold barB
  rw [decide_eq_true (by omega : (o : Int) < (b : Int)), decide_eq_true (by omega : (b : Int) < (y : Int))]
  rfl
/-- whether any three bar -/
def anyBar (ps : List Int) (n : Nat) : Bool := (List.range n).any fun y => (List.range y).any fun o => (List.range y).any fun b => decide (o < b) && barB ps y o b
theorem anyBar_yes {ps : List Int} {n y o b : Nat} (h1 : y < n) (h2 : o < y) (h3 : o < b) (h4 : b < y) (h : barB ps y o b = true) : anyBar ps n = true := by
  unfold anyBar
  refine List.any_eq_true.mpr ⟨y, List.mem_range.mpr h1, List.any_eq_true.mpr ⟨o, List.mem_range.mpr h2, List.any_eq_true.mpr ⟨b, List.mem_range.mpr h4, ?_⟩⟩⟩
  rw [decide_eq_true h3, h]
  rfl
theorem anyBar_no {ps : List Int} {n : Nat} (h : ∀ y o b, y < n → o < y → o < b → b < y → barB ps y o b = false) : anyBar ps n = false := by
  cases e : anyBar ps n with
  | false => rfl
  | true =>
    unfold anyBar at e
    obtain ⟨y, hy, e⟩ := List.any_eq_true.mp e
    obtain ⟨o, ho, e⟩ := List.any_eq_true.mp e
    obtain ⟨b, hb, e⟩ := List.any_eq_true.mp e
    rw [Bool.and_eq_true] at e
    exact ff (h y o b (List.mem_range.mp hy) (List.mem_range.mp ho) (of_decide_eq_true e.1) (List.mem_range.mp hb)) e.2
theorem Fst.any {ps : List Int} {n : Nat} : ∀ {t : Option T3}, Fst ps n t → t.isSome = anyBar ps n
  | none, h => (anyBar_no h).symm
  | some (y, o, b), ⟨⟨h1, h2, h3, h4⟩, h5, _⟩ => (anyBar_yes h1 h2 h3 h4 h5).symm
end CL
set_option Elab.async false
set_option linter.all false
set_option maxRecDepth 100000
set_option maxHeartbeats 4000000
namespace CL
open PySem PySem.Spec PyProof.Rows L2 GE
abbrev sLeast : Stmt := topS 15
abbrev nLeast : List Str := ["order", "people", "places", "person", "later"]
theorem scLeast : FnScope nLeast ["order"] (defScope sLeast) := ⟨rfl, rfl, rfl, by decide +kernel, rfl, by decide +kernel, by decide +kernel⟩
theorem cutTo_blk {X : Cx} {s : Shared} {H : Hp} {scope : Scope} {cenv : Env} {fp : List Addr} {e h : Expr} {te th : TE} {pos p2 : Pos} (he : PE (X.blk s H scope cenv fp) e te) (hh : PE (X.blk s H scope cenv fp) h th) : PE (X.blk s H scope cenv fp) (.Subscript e (.Slice none (some h) none p2) pos) (tSl (rSlL X.K) te tNoPart (tPart th)) := pe_slice sl_list he po_none (po_some hh)
theorem piList_blk {X : Cx} {s : Shared} {H : Hp} {scope : Scope} {cenv : Env} {fp : List Addr} {tg l : Expr} {tl : TE} (hl : PE (X.blk s H scope cenv fp) l tl) : PI (X.blk s H scope cenv fp) tg l (iList X.K tl) := pi_list hl
theorem ixAt_blk {X : Cx} {s : Shared} {H : Hp} {scope : Scope} {cenv : Env} {fp : List Addr} {a b : Expr} {ta tb : TE} {pos : Pos} (ha : PE (X.blk s H scope cenv fp) a ta) (hb : PE (X.blk s H scope cenv fp) b tb) (hs : PlainIx b) : PE (X.blk s H scope cenv fp) (.Subscript a b pos) (tOp (rIxL X.K) ta tb) := pe_ix ix_list ha hb hs
/-- how many later ones stand ahead of somebody -/
def cntF (ns : List Int) (k i : Nat) : Nat := ((ns.take k).filter fun z => decide ((i : Int) < z)).length
def leastF (ns : List Int) : List Int := (List.range ns.length).map fun i : Nat => (cntF ns (ns.findIdx (fun y => y == (i : Int))) i : Int)
theorem leastF_len (ns : List Int) : (leastF ns).length = ns.length := by unfold leastF; rw [List.length_map, List.length_range]
theorem leastF_in {ns : List Int} {x : Int} (h : x ∈ leastF ns) : 0 ≤ x ∧ x ≤ (ns.length : Int) := by
  unfold leastF at h
  obtain ⟨i, _, rfl⟩ := List.mem_map.mp h
  have : cntF ns (ns.findIdx (fun y => y == (i : Int))) i ≤ ns.length := by
    unfold cntF
    refine Nat.le_trans (List.length_filter_le _ _) ?_
    rw [List.length_take]
    omega
  omega
/-- least patiences: none where three bar, else these numbers, one for each -/
def LeastR (H0 H' : Hp) (v' : V) (ns : List Int) (t : Option T3) : Prop := (t ≠ none → v' = .non) ∧ (t = none → ∃ (p : Addr), v' = .ref p ∧ H0 p = none ∧ H' p = some (.lst ((leastF ns).map V.int)))
def spLeast (P1 : Addr) : Sp := fun vs H Q _ => ∃ v ns, vs = [v] ∧ OrdV H v ns ∧ isOrderI ns = true ∧ ns.length ≤ 60 ∧ GxR.TabG H P1 ∧ ∀ t v' H', Fst (plc ns) ns.length t → Ex H H' → GxR.TabG H' P1 → LeastR H H' v' ns t → Q v' H'
theorem plc_lt {ns : List Int} (h : isOrderI ns = true) {x : Int} (hx : x ∈ plc ns) : ∃ k : Nat, x = (k : Int) ∧ k < ns.length := by
  unfold plc at hx
  obtain ⟨i, hi, rfl⟩ := List.mem_map.mp hx
  exact ⟨_, rfl, (find_at h (List.mem_range.mp hi)).1⟩
section
variable {P : Program} {w : World} {K : PySem.W.Frag} {mg : Str → Option Value} {base : Heap}
theorem ok_least {f P1 : Addr} {fd : FuncData} (F : Fun K "least_patiences" "least_patiences" sLeast f fd) (T : Nm mg)
    (CPe : Cal P w K mg base 5 "people_of" ["order"] (spPeople P1)) (CPl : Cal P w K mg base 1 "places_of" ["people"] spPlaces) (CBa : Cal P w K mg base 6 "barring" ["order"] (spBarring P1)) : FnOk P w K mg base CX0 7 f fd ["order"] (spLeast P1) := by
  refine F.ok scLeast (fun vs H Q E ⟨v, ns, e, _⟩ => by rw [e]; rfl) (fun cdv A outer s H vs Q E hr h => ?_)
  obtain ⟨v, ns, rfl, hO, hI, hl, hT1, q⟩ := h
  have nd := scLeast.nd
  refine ⟨_, (pss_cons (ps_set (i := 1) nd rfl (.inr rfl) (pe_cal (CPe.mono (by decide)) hr (by rfl) (pa_cons (pv 0) pa_nil)))
      (pss_cons (ps_if (pt_cmp (pc_notN (pe_cal CBa hr (by rfl) (pa_cons (pv 1) pa_nil)))) (pss_one (ps_ret pe_non)) pss_nil)
      (pss_cons (ps_set (i := 2) nd rfl (.inr rfl) (pe_cal (CPl.mono (by decide)) hr (by rfl) (pa_cons (pv 1) pa_nil)))
      (pss_one (ps_ret (pe_lc (own := [("person", 3)]) (g := (gName 3)) (tt := tYes) rfl nd (pi_range1 (by rfl) T.range (pa_cons (pe_callB call_len_seq (by rfl) T.len PySem.boot_len (pa_cons (pv 1) pa_nil)) pa_nil)) (blkOk_by (own := [("person", 3)]) (N := nLeast) (sc := (defScope sLeast)) (by decide +kernel)) (fun _ _ _ _ _ => (pg_name (i := 3) nd rfl (.inr rfl))) (fun _ _ _ _ _ => pts_nil) (fun _ _ _ _ _ => (pe_callB len_blk (by rfl) T.len PySem.boot_len (pa_cons (pe_lc (own := [("later", 4)]) (g := (gName 4)) rfl nd (piList_blk (cutTo_blk (pv 1) (ixAt_blk (pv 2) (pv 3) (fun _ _ => rfl)))) (blkOk_by (own := [("later", 4)]) (N := nLeast) (by rfl)) (fun _ _ _ _ _ => (pg_name (i := 4) nd rfl (.inl rfl))) (fun _ _ _ _ _ => pts_one (pt_cmpR op_gt (pv 4) (pv 3) (nomark _))) (fun _ _ _ _ _ => (pv 4))) pa_nil))))))))), ?_⟩
  refine ⟨v, rfl, v, ns, rfl, hO, hI, hl, hT1, fun H1 p e1 t1 np => ?_⟩
  have s1 : Same H1 (upd H1 p (.lst (ns.map V.int))) := same_upd np
  have ep : (upd H1 p (.lst (ns.map V.int))) p = some (.lst (ns.map V.int)) := upd_same
  have e2 := e1.trans (Ex.of s1)
  have t2 := tabG_same s1 t1
  generalize upd H1 p (.lst (ns.map V.int)) = H2 at s1 ep e2 t2
  have oV : OrdV H2 (.ref p) ns := .inl (.lst ep (rp_intsA ns))
  refine ⟨.ref p, rfl, .ref p, ns, rfl, oV, hI, hl, t2, fun t v' H3 hF e3 t3 rp => ?_⟩
  have e03 := e2.trans e3
  have ep3 := e3.lst ep
  cases t with
  | some tt =>
    obtain ⟨y, o, b⟩ := tt
    have hv : v' ≠ .non := fun z => by rw [z] at rp; cases rp
    refine ⟨_, rfl, ?_⟩
    rw [decide_eq_false hv]
    exact iteT (q _ .non H3 hF e03 t3 ⟨fun _ => rfl, fun z => nomatch z⟩)
  | none =>
    cases rp
    refine ⟨_, rfl, iteF ?_⟩
    refine ⟨.ref p, rfl, p, ns, rfl, ep3, hI, hl, fun H4 D s4 nD eD => ?_⟩
    have ep4 := s4 _ _ ep3
    have e04 := e03.trans (Ex.of s4)
    have t4 := tabG_same s4 t3
    have lp := plc_len ns
    have hpl : ∀ i (hi : i < (plc ns).length), (plc ns)[i] = ((ns.findIdx (fun y => y == (i : Int)) : Nat) : Int) := fun i hi => by
      have e := plc_at (ns := ns) (i := i) (by rw [← lp]; exact hi)
      rw [List.getD_eq_getElem?_getD, List.getElem?_eq_getElem hi] at e
      exact e
    have hkk : ∀ i, i < ns.length → ns.findIdx (fun y => y == (i : Int)) < ns.length := fun i hi => (find_at hI hi).1
    generalize hps : plc ns = ps at *
    have lm : (ns.map V.int).length = ns.length := List.length_map ..
    refine ⟨.ref p, rfl, p, _, rfl, .inl (SqL.of ep4), (ns.length : Int), by rw [lm], by omega, by omega, fun L nL => ?_⟩
    refine lc_range (lo := 0) (n := ((ns.length : Int)).toNat) (fun i H5 => Same H4 H5 ∧ H5 L = some (.lst (((leastF ns).take i).map V.int)))
      ⟨same_upd nL, upd_same⟩ (fun i H5 hi ⟨s5, eL⟩ => ?_) (fun H5 ⟨s5, eL⟩ => ?_)
    · have hi : i < ns.length := hi
      have hip : i < ps.length := by omega
      rw [Int.zero_add]
      refine ⟨rfl, yesT ?_⟩
      have hk := hpl i hip
      have hkl := hkk i hi
      have hle : (leastF ns)[i]? = some (cntF ns (ns.findIdx (fun y => y == (i : Int))) i : Int) := by
        unfold leastF
        rw [List.getElem?_map, List.getElem?_range hi]
        rfl
      generalize ns.findIdx (fun y => y == (i : Int)) = k at hk hkl hle
      have ep5 := s5 _ _ ep4
      have eD5 := s5 _ _ eD
      refine ⟨.ref p, rfl, .ref D, rfl, .int (i : Int), rfl, D, _, (i : Int), .int (k : Int), rfl, rfl, SqL.of eD5, atI_nat (by rw [List.getElem?_map, List.getElem?_eq_getElem hip, hk]; rfl), k, rfl, p, _, rfl, SqL.of ep5, fun M nM => ?_⟩
      rw [cut_to]
      have s6 : Same H5 (upd H5 M (.lst ((ns.map V.int).take k))) := same_upd nM
      have e6 : (upd H5 M (.lst ((ns.map V.int).take k))) M = some (.lst ((ns.map V.int).take k)) := upd_same
      generalize upd H5 M (.lst ((ns.map V.int).take k)) = H6 at s6 e6
      refine ⟨M, rfl, ⟨_, SqL.of e6⟩, fun N nN => ?_⟩
      refine lc_list (xs := (ns.map V.int).take k) (fun j H7 => Same H6 H7 ∧ ∃ acc, H7 N = some (.lst acc) ∧ acc.length = (((ns.take k).take j).filter fun z => decide ((i : Int) < z)).length)
        ⟨same_upd nN, [], upd_same, rfl⟩ (fun j H7 _ ⟨s7, _⟩ => SqL.of (s7 _ _ e6)) (fun j x H7 hx ⟨s7, acc, eN, la⟩ => ?_) (fun H7 ⟨s7, acc, eN, la⟩ => ?_)
      · have hj : j < (ns.take k).length := by
          have := (List.getElem?_eq_some_iff.mp hx).1
          rw [← List.map_take, List.length_map] at this
          exact this
        obtain ⟨z, hz, rfl⟩ : ∃ z, (ns.take k)[j]? = some z ∧ x = V.int z := by
          rw [← List.map_take, List.getElem?_map, List.getElem?_eq_getElem hj] at hx
          exact ⟨_, List.getElem?_eq_getElem hj, (Option.some.inj hx).symm⟩
        have hl2 : acc.length ≤ j := by
          rw [la]
          refine Nat.le_trans (List.length_filter_le _ _) ?_
          rw [List.length_take]
          omega
        rw [List.length_take] at hj
        refine ⟨rfl, ?_⟩
        refine ⟨.int z, rfl, .int (i : Int), rfl, z, (i : Int), rfl, rfl, decide ((i : Int) < z), rfl, ite2 (fun c => ?_) (fun c => ?_)⟩
        · refine ⟨.int z, rfl, acc, eN, small1000 (by omega), fun b o e => by rw [upd_ne (fun z => by rw [z, nN] at e; cases e)]; exact s7 b o e, _, upd_same, ?_⟩
          rw [List.take_add_one, hz, List.filter_append, List.length_append, List.length_append, la]
          show _ + 1 = _ + (List.filter _ [z]).length
          rw [List.filter_cons_of_pos (p := fun z => decide ((i : Int) < z)) (l := []) c]
          rfl
        · refine ⟨s7, acc, eN, ?_⟩
          rw [List.take_add_one, hz, List.filter_append, List.length_append, la]
          show _ = _ + (List.filter _ [z]).length
          rw [List.filter_cons_of_neg (p := fun z => decide ((i : Int) < z)) (l := []) c]
          rfl
      · rw [List.length_take, lm, List.take_of_length_le (by rw [List.length_take]; exact Nat.le_refl _)] at la
        have la : acc.length = cntF ns k i := la
        have nL4 : H4 L = none := nL
        have s47 := s5.trans (s6.trans s7)
        have eL7 := s7 _ _ (s6 _ _ eL)
        refine ⟨N, acc, rfl, .inl (SqL.of eN), ((leastF ns).take i).map V.int, eL7, small1000 (by rw [List.length_map, List.length_take]; omega), fun b o e => by rw [upd_ne (fun z => by rw [z, nL4] at e; cases e)]; exact s47 b o e, ?_⟩
        rw [upd_same, List.take_add_one, hle, List.map_append, la]
        rfl
    · have nL0 : H L = none := e04.free nL
      exact q none (.ref L) H5 hF (e04.trans (Ex.of s5)) (tabG_same s5 t4) ⟨fun z => absurd rfl z, fun _ => ⟨L, rfl, nL0, by rw [eL, show ((ns.length : Int)).toNat = (leastF ns).length by rw [leastF_len]; rfl, List.take_length]⟩⟩
end
end CL
set_option Elab.async false
set_option linter.all false
set_option maxRecDepth 100000
set_option maxHeartbeats 4000000
namespace CL
open PySem PySem.Spec PyProof.Rows L2 GE
/-! ### max(xs, default=d) of whole numbers -/
def IsI (num : Nat → Int) (i : Nat) (v : Value) : Prop := ∃ t, v = .int (num i) t
def TopI (num : Nat → Int) (j : Nat) (M : Int) : Prop := (∃ i, i ≤ j ∧ num i = M) ∧ ∀ i, i ≤ j → num i ≤ M
theorem TopI.zero (num : Nat → Int) : TopI num 0 (num 0) := ⟨⟨0, Nat.le_refl 0, rfl⟩, fun i hi => by rw [Nat.le_zero.mp hi]; exact Int.le_refl _⟩
theorem TopI.yes {num : Nat → Int} {j : Nat} {M : Int} (h : TopI num j M) (g : num (j + 1) > M) : TopI num (j + 1) (num (j + 1)) := ⟨⟨j + 1, Nat.le_refl _, rfl⟩, fun i hi => by
  rcases Nat.lt_or_ge j i with z | z
  · have : i = j + 1 := by omega
    rw [this]; exact Int.le_refl _
  · have := h.2 i z
    omega⟩
theorem TopI.no {num : Nat → Int} {j : Nat} {M : Int} (h : TopI num j M) (g : ¬ num (j + 1) > M) : TopI num (j + 1) M := ⟨⟨h.1.choose, by have := h.1.choose_spec.1; omega, h.1.choose_spec.2⟩, fun i hi => by
  rcases Nat.lt_or_ge j i with z | z
  · have : i = j + 1 := by omega
    rw [this]; omega
  · exact h.2 i z⟩
section
variable {P0 : Program} {w : World} {A : Around} {R : Result → Shared → Prop} {I : Addr} {fp wr : List Addr} {n : Nat} {num : Nat → Int} {St : Nat → Heap → Prop}
abbrev two (v : Value) (c : Nat) : Obj := { cls := .type "list", dict := none, data := .seq #[v, v] c, slots := #[] }
abbrev dflt (d : Value) : List (Str × Value) := [(Str.ofString "default", d)]
theorem top_loop (W : Walks P0 w A.in1 I fp wr n (IsI num) St) (S : Addr) (off : S ∉ fp) (d : Value) : ∀ (k j : Nat) (t : Shared) (M : Int) (tk : Tok) (c : Nat), n = j + 1 + k → St (j + 1) t.heap → TopI num j M → t.heap.get? S = some (two (.int M tk) c) →
    (∀ M tk g x, TopI num (n - 1) M → (∀ b o, b ∉ S :: wr → t.heap.get? b = some o → g.get? b = some o) → R (.ok (.ret (.int M tk))) { t with heap := g, toks := x }) → codeAny (model P0 w) A (.builtin "max.loop" ⟨[.ref I, .none, .ref S], dflt d⟩) R t := by
  have nm : (toString "max" ++ toString ".loop" : String) = "max.loop" := by decide
  have offw : S ∉ wr := fun z => off (W.sub S z)
  have away : ∀ {b : Addr}, b ∉ S :: wr → S ≠ b ∧ b ∉ wr := fun {b} h => ⟨fun z => h (by rw [z]; exact List.mem_cons_self), fun z => h (List.mem_cons_of_mem S z)⟩
  intro k
  induction k with
  | zero =>
    intro j t M tk c hn st top eS fin
    have e1 : n = j + 1 := hn
    refine codeAny_builtin F.entry_max_loop ?go
    rw [Around.under_plainId (A := A) F.plain_max_loop _]
    show wpAny _ A.in1 (seqItems? (.ref S) >>= _) _ _ t
    apply wpAny_bind
    refine wpAny_seqItems eS rfl (?_ : wpAny _ A.in1 (tryCatch (pyNext (.ref I)) _ >>= _) _ _ t)
    refine wpAny_bind (wpAny_tryCatch (W.done t _ _ (e1 ▸ st) fun g x keep => ?_))
    have eS2 := keep S _ offw eS
    refine (show wpAny _ A.in1 (updateSeq S (fun _ => #[]) >>= _) _ _ _ from wpAny_bind (wpAny_updateSeq eS2 rfl (wpAny_bind (wpAny_letGo (wpAny_pure ?_)))))
    refine fin M tk _ _ (by rw [e1]; exact top) fun b o hb e => ?_
    exact (Heap.get?_update_other _ _ (away hb).1).trans (keep b o (away hb).2 e)
  | succ k ih =>
    intro j t M tk c hn st top eS fin
    have lt : j + 1 < n := by omega
    refine codeAny_builtin F.entry_max_loop ?go2
    rw [Around.under_plainId (A := A) F.plain_max_loop _]
    show wpAny _ A.in1 (seqItems? (.ref S) >>= _) _ _ t
    apply wpAny_bind
    refine wpAny_seqItems eS rfl (?_ : wpAny _ A.in1 (tryCatch (pyNext (.ref I)) _ >>= _) _ _ t)
    refine wpAny_bind (wpAny_tryCatch (W.item (j + 1) t _ _ lt st fun v g x iv st' keep => ?_))
    have eS2 := keep S _ offw eS
    obtain ⟨tv, rfl⟩ := iv
    have cmp : ∀ (t : Shared) (Q : Value → Shared → Prop) (E : Value → Shared → Prop), Q (.bool (decide (num (j + 1) > M))) t → wpAny (model P0 w) A.in1 (richCompare .Gt (.int (num (j + 1)) tv) (.int M tk)) Q E t := fun t Q E h =>
      CmpOf.ints_gt (prog := P0) (w := w) (A := A.in1) (P := fun i v => ∃ t, v = .int ((fun m : Nat => if m = 0 then num (j + 1) else M) i) t) (fun m => if m = 0 then num (j + 1) else M) (fun i v h => h) 0 1 (.int (num (j + 1)) tv) (.int M tk) t Q E ⟨tv, rfl⟩ ⟨tk, rfl⟩ h
    refine (show wpAny _ A.in1 (tryCatch (holding [.int (num (j + 1)) tv, .int (num (j + 1)) tv] (richCompare .Gt (.int (num (j + 1)) tv) (.int M tk) >>= _)) _ >>= _) _ _ _ from wpAny_bind (wpAny_tryCatch (wpAny_holding (wpAny_bind (cmp _ _ _ (wpAny_bind (wpAny_holding (wpAny_truthy_bool (wpAny_bind (wpAny_letGo (wpAny_pure ?_)))))))))))
    by_cases g0 : num (j + 1) > M
    · rw [decide_eq_true g0]
      simp only [if_true]
      refine wpAny_bind (wpAny_updateSeq eS2 rfl (wpAny_bind (wpAny_letGo ?_)))
      rw [nm]
      refine wpAny_pure ⟨plainId_quiet F.plain_max_loop _, ih (j + 1) _ (num (j + 1)) tv _ (by omega) (W.frame _ _ _ st' fun b hb o e => (Heap.get?_update_other _ _ (fun z => off (by rw [z]; exact hb))).trans e) (top.yes g0) (Heap.get?_update_self _ eS2 rfl) fun M2 t2 g2 x2 tp kp => ?_⟩
      exact fin M2 t2 g2 x2 tp fun b o hb e => kp b o hb ((Heap.get?_update_other _ _ (away hb).1).trans (keep b o (away hb).2 e))
    · rw [decide_eq_false g0]
      simp only [Bool.false_eq_true, if_false]
      refine wpAny_bind (wpAny_letGo ?_)
      rw [nm]
      refine wpAny_pure ⟨plainId_quiet F.plain_max_loop _, ih (j + 1) _ M tk _ (by omega) st' (top.no g0) eS2 fun M2 t2 g2 x2 tp kp => ?_⟩
      exact fin M2 t2 g2 x2 tp fun b o hb e => kp b o hb (keep b o (away hb).2 e)
/-- the first turn: nothing there, or the first thing is the greatest so far -/
theorem top_first (W : Walks P0 w A.in1 I fp wr n (IsI num) St) (S : Addr) (off : S ∉ fp) (d : Value) {t : Shared} {c : Nat} (st : St 0 t.heap) (eS : t.heap.get? S = some { cls := .type "list", dict := none, data := .seq #[] c, slots := #[] })
    (fin0 : n = 0 → ∀ g x, (∀ b o, b ∉ S :: wr → t.heap.get? b = some o → g.get? b = some o) → R (.ok (.ret d)) { t with heap := g, toks := x })
    (fin : ∀ M tk g x, 0 < n → TopI num (n - 1) M → (∀ b o, b ∉ S :: wr → t.heap.get? b = some o → g.get? b = some o) → R (.ok (.ret (.int M tk))) { t with heap := g, toks := x }) :
    codeAny (model P0 w) A (.builtin "max.loop" ⟨[.ref I, .none, .ref S], dflt d⟩) R t := by
  have nm : (toString "max" ++ toString ".loop" : String) = "max.loop" := by decide
  have offw : S ∉ wr := fun z => off (W.sub S z)
  have away : ∀ {b : Addr}, b ∉ S :: wr → S ≠ b ∧ b ∉ wr := fun {b} h => ⟨fun z => h (by rw [z]; exact List.mem_cons_self), fun z => h (List.mem_cons_of_mem S z)⟩
  refine codeAny_builtin F.entry_max_loop ?go
  rw [Around.under_plainId (A := A) F.plain_max_loop _]
  show wpAny _ A.in1 (seqItems? (.ref S) >>= _) _ _ t
  apply wpAny_bind
  refine wpAny_seqItems eS rfl (?_ : wpAny _ A.in1 (tryCatch (pyNext (.ref I)) _ >>= _) _ _ t)
  rcases Nat.eq_zero_or_pos n with e0 | pos
  · refine wpAny_bind (wpAny_tryCatch (W.done t _ _ (e0 ▸ st) fun g x keep => ?_))
    exact (show wpAny _ A.in1 (rule _ >>= _) _ _ _ from wpAny_bind (wpAny_rule (wpAny_pure (fin0 e0 g x fun b o hb e => keep b o (away hb).2 e))))
  · refine wpAny_bind (wpAny_tryCatch (W.item 0 t _ _ pos st fun v g x iv st' keep => ?_))
    have eS2 := keep S _ offw eS
    obtain ⟨tv, rfl⟩ := iv
    refine (show wpAny _ A.in1 (updateSeq S (fun _ => #[.int (num 0) tv, .int (num 0) tv]) >>= _) _ _ _ from wpAny_bind (wpAny_updateSeq eS2 rfl ?_))
    rw [nm]
    refine wpAny_pure ⟨plainId_quiet F.plain_max_loop _, top_loop W S off d (n - 1) 0 _ (num 0) tv _ (by omega) (W.frame _ _ _ st' fun b hb o e => (Heap.get?_update_other _ _ (fun z => off (by rw [z]; exact hb))).trans e) (TopI.zero num) (Heap.get?_update_self _ eS2 rfl) fun M2 t2 g2 x2 tp kp => ?_⟩
    exact fin M2 t2 g2 x2 pos tp fun b o hb e => kp b o hb ((Heap.get?_update_other _ _ (away hb).1).trans (keep b o (away hb).2 e))
end
section
variable {P0 : Program} {w : World} {A : Around} {E : Value → Shared → Prop} {s : Shared}
theorem call_tree_kw {id : String} {b : Builtin} {args : List Value} {kw : List (Str × Value)} {Q : Value → Shared → Prop} (hk : builtinKind id = none) (hp : plainId id = true) (hb : entryFor table id = some b) (ha : argsOk id ⟨args, kw⟩)
    (hc : wpAny (model P0 w) A.in1 (b ⟨args, kw⟩) (fun fin s' => match fin with
      | .done f => (match (Except.ok f : Result) with | .ok (.ret v) => Q v s' | .ok _ => False | .error e => E e s')
      | .again c' => c'.quiet = true ∧ codeAny (model P0 w) A c' (fun r s' => match r with | .ok (.ret v) => Q v s' | .ok _ => False | .error e => E e s') s') E s) : wpAny (model P0 w) A (call (.builtin id) args kw) Q E s := by
  refine wpAny_call (codeAny_call_builtin hp hb (?_ : _))
  simp only [checkBuiltinCall, hk]
  cases hs : Manifest.signature? id with
  | none => exact wpAny_pure hc
  | some sg =>
    have z : Bind.checkArgs id sg ⟨args, kw⟩ = pure () := by simpa only [argsOk, hs] using ha
    show wpAny _ A.in1 (Bind.checkArgs id sg ⟨args, kw⟩) _ _ s
    rw [z]
    exact wpAny_pure hc
theorem args_maxD (a d : Value) : argsOk "max" ⟨[a], dflt d⟩ := by
  unfold argsOk
  kernel_rfl
theorem max_dflt {l : Addr} {its : List Value} {ns : List Int} {d : Value} {Q : Value → Shared → Prop} (hh : A.handled = none) (hl : s.heap.IsList l its.toArray) (hi : IntsAre its ns)
    (q0 : ns = [] → ∀ g x, (∀ b o, s.heap.get? b = some o → g.get? b = some o) → Q d { s with heap := g, toks := x })
    (q : ∀ M t g x, (∀ b o, s.heap.get? b = some o → g.get? b = some o) → M ∈ ns → (∀ y ∈ ns, y ≤ M) → Q (.int M t) { s with heap := g, toks := x }) : wpAny (model P0 w) A (call (.builtin "max") [.ref l] (dflt d)) Q E s := by
  have nm : (toString "max" ++ toString ".loop" : String) = "max.loop" := by decide
  obtain ⟨xs, e⟩ := hi.allInts.items
  have hn : numsOf (intItems xs).toList = ns := by rw [← e]; exact hi.numsOf
  rw [nums_intItems] at hn
  subst hn
  rw [e] at hl
  refine call_tree_kw F.kind_max F.plain_max F.entry_max (args_maxD _ _) ?_
  show wpAny _ A.in1 (Builtin.Builtins.bindParams "max" ["key", "default"] 0 ⟨[], dflt d⟩ >>= _) _ _ s
  refine wpAny_bind (wpAny_of_eq (show Builtin.Builtins.bindParams "max" ["key", "default"] 0 ⟨[], dflt d⟩ = pure [none, some d] from by first | rfl | kernel_rfl) (wpAny_bind (wpAny_pure ?_)))
  refine wpAny_bind (iter_intList hl fun s₂ e2 st hfp hlI => ?_)
  subst e2
  refine wpAny_bind (wpAny_newObj_type ?_)
  rw [nm]
  have W0 := Walks.list (prog := P0) (w := w) (A := A.in1) hh _ l hlI (intItems xs)
  have W : Walks P0 w A.in1 s.heap.objs.size _ _ (intItems xs).size (IsI (numAt xs)) _ := ⟨W0.sub, W0.frame, fun i s Q E hi st hQ => W0.item i s Q E hi st fun v g x hP => hQ v g x (intItems_at hP), W0.done, W0.self⟩
  have sz : (intItems xs).size = xs.size := by simp [intItems]
  have up2 : ∀ b o, s.heap.get? b = some o → ((s.heap.push { cls := .type "list_iterator", data := .fields #[.ref l, .int 0 0] }).push { cls := .type "list", data := .seq ([] : List Value).toArray }).get? b = some o := fun b o e => Heap.get?_push_of_some _ (Heap.get?_push_of_some _ e)
  have far : ∀ b o, s.heap.get? b = some o → b ∉ [(s.heap.push { cls := .type "list_iterator", data := .fields #[.ref l, .int 0 0] }).objs.size, s.heap.objs.size] := fun b o e hm => by
    have lt := Heap.lt_size e
    rcases List.mem_cons.mp hm with z | z
    · rw [z] at lt
      exact absurd lt (by rw [Heap.size_push]; exact Nat.not_lt.mpr (Nat.le_succ _))
    · rw [List.mem_singleton.mp z] at lt
      exact Nat.lt_irrefl _ lt
  refine wpAny_pure ⟨plainId_quiet F.plain_max_loop _, top_first W _ (fun hm => Nat.lt_irrefl _ (hfp _ hm)) d (W.frame _ _ _ st fun b _ o e => Heap.get?_push_of_some _ e) (Heap.get?_push_size _ rfl) (fun e0 g x keep => ?_) (fun M t g x pos top keep => ?_)⟩
  · exact q0 (List.eq_nil_of_length_eq_zero (by rw [List.length_map, Array.length_toList]; omega)) g x fun b o e => keep b o (far b o e) (up2 b o e)
  · obtain ⟨⟨i, hi, ei⟩, le⟩ := top
    refine q M t g x (fun b o e => keep b o (far b o e) (up2 b o e)) ?_ fun y hy => ?_
    · rw [← ei, numAt_eq]
      exact PySem.getD_mem (by rw [List.length_map, Array.length_toList]; omega)
    · obtain ⟨m, hm, rfl⟩ := mem_getD hy
      rw [List.length_map, Array.length_toList] at hm
      rw [← numAt_eq]
      exact le m (by omega)
end
def rMaxD (K : PySem.W.Frag) : List V → List V → Hp → VK → Prop := fun vs zs H Q => ∃ (a : Addr) (ns : List Int) (d : Int), vs = [V.ref a] ∧ zs = [.int d] ∧ SqL K H a (ns.map V.int) ∧ (ns = [] → Q (.int d) H) ∧ ∀ M, M ∈ ns → (∀ y ∈ ns, y ≤ M) → Q (.int M) H
theorem cr_maxD {X : Cx} (hc : X.calm = true) : CallRK X (.builtin "max") [Str.ofString "default"] (rMaxD X.K) := by
  intro pins s σ H vs zs us ws Q I r r2 ⟨a, ns, d, ev, ez, hs, q0, q⟩
  subst ev ez
  obtain ⟨its, rv, hl, _⟩ := I.list hs
  obtain ⟨u, rfl, rd⟩ := vals1 r2
  obtain ⟨td, rfl⟩ := rd
  rw [Vals.ref1 r]
  exact max_dflt (I.ok.hd hc) hl.isList rv.ints (fun e g x hk => ⟨.int d, H, I.kept hk, ⟨_, rfl⟩, q0 e⟩) (fun M t g x hk h1 h2 => ⟨.int M, H, I.kept hk, ⟨_, rfl⟩, q M h1 h2⟩)
end CL
set_option Elab.async false
set_option linter.all false
set_option maxRecDepth 100000
set_option maxHeartbeats 4000000
namespace CL
open PySem PySem.Spec PyProof.Rows L2 GE
abbrev sRefus : Stmt := topS 16
abbrev sRowsC : Stmt := topS 17
abbrev nRefus : List Str := ["people", "newcomer", "ahead", "person"]
abbrev nRowsC : List Str := ["order", "most", "people", "least", "refusers", "newcomer", "counted", "person", "patience"]
theorem scRefus : FnScope nRefus ["people", "newcomer"] (defScope sRefus) := ⟨rfl, rfl, rfl, by decide +kernel, rfl, by decide +kernel, by decide +kernel⟩
theorem scRowsC : FnScope nRowsC ["order", "most"] (defScope sRowsC) := ⟨rfl, rfl, rfl, by decide +kernel, rfl, by decide +kernel, by decide +kernel⟩
/-- behind whom somebody stopped -/
def refuF (ns : List Int) (i : Nat) : Option Int := ((ns.take (ns.findIdx (fun y => y == (i : Int)))).filter fun z => decide (z < (i : Int))).getLast?
def refsF (ns : List Int) : List (Option Int) := ns.map fun z => refuF ns z.toNat
def inO (refs : List (Option Int)) (i : Int) : Bool := refs.any fun o => decide (o = some i)
theorem inV_opt (i : Int) : ∀ os : List (Option Int), inV (.int i) (os.map optV) = inO os i
  | [] => rfl
  | o :: os => by
    have ih := inV_opt i os
    unfold inV inO at ih ⊢
    rw [List.map_cons, List.any_cons, List.any_cons, ih]
    cases o with
    | none =>
      show (false || _) = (decide (none = some i) || _)
      simp
    | some n =>
      show ((n == i) || _) = (decide (some n = some i) || _)
      by_cases h : n = i
      · simp [h]
      · simp [h]
def prodF (ns : List Int) (most : Int) : Nat → Int
  | 0 => 1
  | i + 1 => if inO (refsF ns) (i : Int) then prodF ns most i else prodF ns most i * (most - (leastF ns).getD i 0 + 1)
def rowsF (ns : List Int) (most : Int) : Int := if anyBar (plc ns) ns.length then 0 else if (leastF ns).any (fun x => decide (most < x)) then 0 else prodF ns most ns.length
def spRefus : Sp := fun vs H Q _ => ∃ (A : Addr) (ns : List Int) (i : Nat), vs = [.ref A, .int (i : Int)] ∧ H A = some (.lst (ns.map V.int)) ∧ isOrderI ns = true ∧ ns.length ≤ 60 ∧ i < ns.length ∧ ∀ H', Same H H' → Q (optV (refuF ns i)) H'
def spRowsC (P1 : Addr) : Sp := fun vs H Q _ => ∃ v ns most, vs = [v, .int most] ∧ OrdV H v ns ∧ isOrderI ns = true ∧ ns.length ≤ 60 ∧ 0 ≤ most ∧ most ≤ 1000000000000000000 ∧ GxR.TabG H P1 ∧ ∀ H', Ex H H' → GxR.TabG H' P1 → Q (.int (rowsF ns most)) H'
theorem at_last {ys : List Int} (h : ys ≠ []) : ∃ y, ys.getLast? = some y ∧ atI (ys.map V.int) (-1) = some (.int y) := by
  have hl : 0 < ys.length := List.length_pos_iff.mpr h
  refine ⟨ys.getLast h, List.getLast?_eq_some_getLast h, ?_⟩
  have lm : (ys.map V.int).length = ys.length := List.length_map ..
  unfold atI ixN
  rw [if_neg (by omega), if_pos (by omega)]
  have e : ((-1 : Int) + ((ys.map V.int).length : Int)).toNat = ys.length - 1 := by omega
  rw [Option.bind_some, e, List.getElem?_map, List.getElem?_eq_getElem (by omega), List.getLast_eq_getElem]
  rfl
section
variable {P : Program} {w : World} {K : PySem.W.Frag} {mg : Str → Option Value} {base : Heap}
theorem ok_refus {f : Addr} {fd : FuncData} (F : Fun K "refuser_of" "refuser_of" sRefus f fd) (T : Nm mg) : FnOk P w K mg base CX0 1 f fd ["people", "newcomer"] spRefus := by
  refine F.ok scRefus (fun vs H Q E ⟨A, ns, i, e, _⟩ => by rw [e]; rfl) (fun cdv A' outer s H vs Q E hr h => ?_)
  obtain ⟨A, ns, i, rfl, eA, hI, hl, hi, q⟩ := h
  have nd := scRefus.nd
  refine ⟨_, (pss_cons (ps_setLc (i := 2) (own := [("person", 3)]) (g := (gName 3)) rfl nd rfl rfl (sw_true rfl rfl rfl (by decide +kernel)) (pi_list (pe_slice sl_list (pv 0) po_none (po_some (pe_bm PySem.F.plainAttrs_list PySem.F.slot_list_index PySem.F.type_list_index mt_index (pv 0) (pa_cons (pv 1) pa_nil))))) (blkOk_by (own := [("person", 3)]) (N := nRefus) (sc := (defScope sRefus)) (by decide +kernel)) (fun _ _ _ _ _ => (pg_name (i := 3) nd rfl (.inl rfl))) (fun _ _ _ _ _ => pts_one (pt_cmpR op_lt (pv 3) (pv 1) (nomark _))) (fun _ _ _ _ _ => (pv 3)))
      (pss_one (ps_ret (pe_ifExp (pt_truth (pv 2) (by intro _; rfl)) (pe_ix ix_list (pv 2) (pe_un un_neg pe_int) (fun _ _ => rfl)) pe_non)))), ?_⟩
  obtain ⟨hj, ej, no⟩ := find_at hI hi
  refine ⟨.ref A, rfl, .ref A, rfl, .inl ⟨rfl, _, SqL.of eA⟩, .int (i : Int), rfl, A, _, .int (i : Int), ns.findIdx (fun y => y == (i : Int)), .int ns[ns.findIdx (fun y => y == (i : Int))], rfl, rfl, SqL.of eA, rfl, flat_ints ns, by rw [List.getElem?_map, List.getElem?_eq_getElem hj]; rfl, ?_, fun m z lm hz => ?_, _, rfl, A, _, rfl, SqL.of eA, fun M nM => ?_⟩
  · rw [ej]
    show ((i : Int) == (i : Int)) = true
    simp
  · rw [List.getElem?_map] at hz
    cases z2 : ns[m]? with
    | none => rw [z2] at hz; cases hz
    | some y =>
      rw [z2] at hz
      cases hz
      exact no m lm y z2
  have hq : refuF ns i = ((ns.take (ns.findIdx (fun y => y == (i : Int)))).filter fun z => decide (z < (i : Int))).getLast? := rfl
  generalize ns.findIdx (fun y => y == (i : Int)) = k at hj ej no hq
  rw [cut_to]
  have s1 : Same H (upd H M (.lst ((ns.map V.int).take k))) := same_upd nM
  have e1 : (upd H M (.lst ((ns.map V.int).take k))) M = some (.lst ((ns.map V.int).take k)) := upd_same
  generalize upd H M (.lst ((ns.map V.int).take k)) = H1 at s1 e1
  refine ⟨M, rfl, ⟨_, SqL.of e1⟩, fun N nN => ?_⟩
  refine lc_list (xs := (ns.map V.int).take k) (fun j H2 => Same H1 H2 ∧ ∃ acc : List Int, H2 N = some (.lst (acc.map V.int)) ∧ acc = ((ns.take k).take j).filter fun z => decide (z < (i : Int)))
    ⟨same_upd nN, [], upd_same, rfl⟩ (fun j H2 _ ⟨s2, _⟩ => SqL.of (s2 _ _ e1)) (fun j x H2 hx ⟨s2, acc, eN, la⟩ => ?_) (fun H2 ⟨s2, acc, eN, la⟩ => ?_)
  · have hj2 : j < (ns.take k).length := by
      have := (List.getElem?_eq_some_iff.mp hx).1
      rw [← List.map_take, List.length_map] at this
      exact this
    obtain ⟨z, hz, rfl⟩ : ∃ z, (ns.take k)[j]? = some z ∧ x = V.int z := by
      rw [← List.map_take, List.getElem?_map, List.getElem?_eq_getElem hj2] at hx
      exact ⟨_, List.getElem?_eq_getElem hj2, (Option.some.inj hx).symm⟩
    have hl2 : acc.length ≤ j := by
      rw [la]
      refine Nat.le_trans (List.length_filter_le _ _) ?_
      rw [List.length_take]
      omega
    rw [List.length_take] at hj2
    refine ⟨rfl, ?_⟩
    refine ⟨.int z, rfl, .int (i : Int), rfl, z, (i : Int), rfl, rfl, decide (z < (i : Int)), rfl, ite2 (fun c => ?_) (fun c => ?_)⟩
    · refine ⟨.int z, rfl, acc.map V.int, eN, small1000 (by rw [List.length_map]; omega), fun b o e => by rw [upd_ne (fun z => by rw [z, nN] at e; cases e)]; exact s2 b o e, acc ++ [z], by rw [upd_same, List.map_append]; rfl, ?_⟩
      rw [List.take_add_one, hz, List.filter_append, ← la]
      show _ = _ ++ List.filter _ [z]
      rw [List.filter_cons_of_pos (p := fun z => decide (z < (i : Int))) (l := []) c]
      rfl
    · refine ⟨s2, acc, eN, ?_⟩
      rw [List.take_add_one, hz, List.filter_append, ← la]
      show _ = _ ++ List.filter _ [z]
      rw [List.filter_cons_of_neg (p := fun z => decide (z < (i : Int))) (l := []) c]
      exact (List.append_nil _).symm
  · have s02 := s1.trans s2
    rw [List.length_take, List.length_map, List.take_of_length_le (by rw [List.length_take]; exact Nat.le_refl _)] at la
    rw [← la] at hq
    refine ⟨.ref N, rfl, _, .inl ⟨_, SqL.of eN, rfl⟩, ?_⟩
    have q := q H2 s02
    rw [hq] at q
    clear la
    cases acc with
    | nil => exact iteF q
    | cons z acc =>
      obtain ⟨y, hy, hat⟩ := at_last (ys := z :: acc) (by simp)
      rw [hy] at q
      exact iteT ⟨.ref N, rfl, 1, rfl, N, _, -1, .int y, rfl, rfl, SqL.of eN, hat, q⟩
theorem ok_rowsC {f P1 : Addr} {fd : FuncData} (F : Fun K "rows_counted" "rows_counted" sRowsC f fd) (T : Nm mg) (hmax : mg "max" = none) (hgm0 : ∃ t, mg "GREATEST_MOST" = some (.int 1000000000000000000 t)) (CW : Cal P w K mg base 1 "is_whole" ["thing"] (spOne isWhole))
    (CPe : Cal P w K mg base 5 "people_of" ["order"] (spPeople P1)) (CL : Cal P w K mg base 7 "least_patiences" ["order"] (spLeast P1)) (CRf : Cal P w K mg base 1 "refuser_of" ["people", "newcomer"] spRefus) : FnOk P w K mg base CX0 8 f fd ["order", "most"] (spRowsC P1) := by
  refine F.ok scRowsC (fun vs H Q E ⟨v, ns, most, e, _⟩ => by rw [e]; rfl) (fun cdv A outer s H vs Q E hr h => ?_)
  obtain ⟨v, ns, most, rfl, hO, hI, hl, m0, m1, hT1, q⟩ := h
  obtain ⟨tg, hgm⟩ := hgm0
  have nd := scRowsC.nd
  refine ⟨_, (pss_cons (ps_set (i := 2) nd rfl (.inr rfl) (pe_cal (CPe.mono (by decide)) hr (by rfl) (pa_cons (pv 0) pa_nil)))
      (pss_cons (ps_if (PW.pt (pw_or (pt_not (pt_val (pe_cal (CW.mono (by decide)) hr (by rfl) (pa_cons (pv 1) pa_nil)))) (pw_or1 (pt_not (pt_chain op_le op_le pe_int (pv 1) (pe_glob (v := .int 1000000000000000000) (by rfl) hgm ⟨_, rfl⟩)))))) (pss_one ps_never) pss_nil)
      (pss_cons (ps_set (i := 3) nd rfl (.inl rfl) (pe_cal CL hr (by rfl) (pa_cons (pv 2) pa_nil)))
      (pss_cons (ps_if (PW.pt (pw_or (pt_cmp (pc_isN (pv 3))) (pw_or1 (pt_cmpR op_gt (pe_callBK (cr_maxD rfl) (by rfl) hmax (by decide +kernel) (pa_cons (pv 3) pa_nil) (pk_cons pe_int pk_nil)) (pv 1) (nomark _))))) (pss_one (ps_ret pe_int)) pss_nil)
      (pss_cons (ps_setLc (i := 4) (own := [("newcomer", 5)]) (g := (gName 5)) (tt := tYes) rfl nd rfl rfl (sw_true rfl rfl rfl (by decide +kernel)) (pi_list (pv 2)) (blkOk_by (own := [("newcomer", 5)]) (N := nRowsC) (sc := (defScope sRowsC)) (by decide +kernel)) (fun _ _ _ _ _ => (pg_name (i := 5) nd rfl (.inl rfl))) (fun _ _ _ _ _ => pts_nil) (fun _ _ _ _ _ => (pe_cal (CRf.mono (by decide)) hr (by rfl) (pa_cons (pv 2) (pa_cons (pv 5) pa_nil)))))
      (pss_cons (ps_set (i := 6) nd rfl (.inl rfl) pe_int)
      (pss_cons (ps_for PassesOwn.never rfl (pi_enum (by rfl) T.enum (pa_cons (pv 3) pa_nil)) (pg_tup rfl (pgs_cons (pg_name (i := 7) nd rfl (.inl rfl)) (pgs_cons (pg_name (i := 8) nd rfl (.inl rfl)) pgs_nil))) (pss_one (ps_if (pt_cmpR op_notIn_seq (pv 7) (pv 4) (by rfl)) (pss_one (ps_aug (i := 6) nd rfl (.inl rfl) (pe_op op_add (pe_op op_sub (pv 1) (pv 8)) pe_int) iop_mul)) pss_nil)))
      (pss_one (ps_ret (pv 6)))))))))), ?_⟩
  refine ⟨v, rfl, v, ns, rfl, hO, hI, hl, hT1, fun H1 p e1 t1 np => ?_⟩
  have s1 : Same H1 (upd H1 p (.lst (ns.map V.int))) := same_upd np
  have ep : (upd H1 p (.lst (ns.map V.int))) p = some (.lst (ns.map V.int)) := upd_same
  have e2 := e1.trans (Ex.of s1)
  have t2 := tabG_same s1 t1
  generalize upd H1 p (.lst (ns.map V.int)) = H2 at s1 ep e2 t2
  show tSeq _ _ _ [some v, some (.int most), some (.ref p), none, none, none, none, none, none] H2
  refine ⟨.int most, rfl, .int most, .int most, rfl, .int most, fun H3 s3 => ⟨true, rfl, iteF ?_⟩⟩
  have ep3 := s3 _ _ ep
  have e03 := e2.trans (Ex.of s3)
  have t3 := tabG_same s3 t2
  refine ⟨.int most, rfl, 0, most, rfl, rfl, decide ((0 : Int) ≤ most), rfl, ?_⟩
  rw [decide_eq_true m0]
  refine iteT ⟨most, 1000000000000000000, rfl, rfl, decide (most ≤ 1000000000000000000), rfl, ?_⟩
  rw [decide_eq_true m1]
  refine iteF ?_
  have oV : OrdV H3 (.ref p) ns := .inl (.lst ep3 (rp_intsA ns))
  refine ⟨.ref p, rfl, .ref p, ns, rfl, oV, hI, hl, t3, fun t v' H4 hF e4 t4 hL => ?_⟩
  have e04 := e03.trans e4
  have ep4 := e4.lst ep3
  dsimp only []
  show tSeq (tIfS _ _ _) _ _ [some v, some (.int most), some (.ref p), some v', none, none, none, none, none] H4
  cases t with
  | some tt =>
    obtain rfl := hL.1 (fun z => by cases z)
    exact ⟨.non, rfl, _, rfl, iteT (by
      have z : rowsF ns most = 0 := if_pos hF.any.symm
      have q := q H4 e04 t4
      rw [z] at q
      exact q)⟩
  | none =>
    obtain ⟨L, rfl, nL, eL⟩ := hL.2 rfl
    have lx := leastF_len ns
    have hx := fun (x : Int) (h : x ∈ leastF ns) => leastF_in h
    have hr : rowsF ns most = if (leastF ns).any (fun x => decide (most < x)) then 0 else prodF ns most ns.length := if_neg (by rw [← hF.any]; exact Bool.false_ne_true)
    have hg : ∀ i, (leastF ns).getD i 0 = (leastF ns)[i]?.getD 0 := fun i => List.getD_eq_getElem?_getD
    have hp : ∀ i, prodF ns most (i + 1) = if inO (refsF ns) (i : Int) then prodF ns most i else prodF ns most i * (most - (leastF ns).getD i 0 + 1) := fun i => rfl
    have hfs : refsF ns = ns.map fun z => refuF ns z.toNat := rfl
    generalize hxs : leastF ns = xs at *
    refine seq_mk fun nx hnx => ?_
    have REST : xs.any (fun x => decide (most < x)) = false → nx [some v, some (.int most), some (.ref p), some (.ref L), none, none, none, none, none] H4 := by
      intro hno
      rw [hno] at hr
      have hr : rowsF ns most = prodF ns most ns.length := hr
      refine hnx _ _ ?_
      refine ⟨.ref p, rfl, p, rfl, ⟨_, SqL.of ep4⟩, fun R nR => ?_⟩
      refine lc_list (xs := ns.map V.int) (fun j H5 => Same H4 H5 ∧ H5 R = some (.lst (((refsF ns).take j).map optV)))
        ⟨same_upd nR, upd_same⟩ (fun j H5 _ ⟨s5, _⟩ => SqL.of (s5 _ _ ep4)) (fun j x H5 hxj ⟨s5, eR⟩ => ?_) (fun H5 ⟨s5, eR⟩ => ?_)
      · have hjl := (List.getElem?_eq_some_iff.mp hxj).1
        rw [List.length_map] at hjl
        rw [List.getElem?_map, List.getElem?_eq_getElem hjl] at hxj
        obtain ⟨i, hi, ei⟩ := up_mem.mp ((ord_perm hI).mem_iff.mp (List.getElem_mem hjl))
        obtain rfl : x = V.int (i : Int) := by rw [← ei]; exact (Option.some.inj hxj).symm
        have hre : (refsF ns)[j]? = some (refuF ns i) := by
          rw [hfs, List.getElem?_map, List.getElem?_eq_getElem hjl, ei]
          rfl
        refine ⟨rfl, yesT ⟨.ref p, rfl, .int (i : Int), rfl, p, ns, i, rfl, s5 _ _ ep4, hI, hl, hi, fun H6 s6 => ⟨_, s6 _ _ eR, small1000 (by rw [List.length_map, List.length_take]; omega), fun b o' e => by rw [upd_ne (fun z => by rw [z, nR] at e; cases e)]; exact s6 _ _ (s5 b o' e), by rw [upd_same, List.take_add_one, hre, List.map_append]; rfl⟩⟩⟩
      · have eL5 := s5 _ _ eL
        have eR : H5 R = some (.lst ((refsF ns).map optV)) := by
          rw [eR, List.take_of_length_le (by rw [hfs, List.length_map, List.length_map]; exact Nat.le_refl _)]
        have flo : ((refsF ns).map optV).all flatV = true := by
          rw [List.all_map, List.all_eq_true]
          intro o _
          cases o <;> rfl
        refine ⟨.ref L, rfl, L, _, rfl, SqL.of eL5, for_it walk_enum (fun i σ H6 => Same H5 H6 ∧ ∃ (y7 y8 : Option V), σ = [some v, some (.int most), some (.ref p), some (.ref L), some (.ref R), none, some (.int (prodF ns most i)), y7, y8])
          ⟨Same.refl H5, _, _, rfl⟩ (fun i σ H6 _ ⟨s6, _⟩ => SqL.of (s6 _ _ eL5)) (fun i x σ H6 H7 hi hP hY => ?_) (fun σ H6 hP => ?_)⟩
        · obtain ⟨s6, y7, y8, rfl⟩ := hP
          obtain ⟨T', x, y, rfl, nT, rfl, hx1, hy⟩ := hY
          obtain rfl := Option.some.inj hx1
          rw [List.length_map] at hi
          obtain rfl : y = .int xs[i] := by
            have hy : (List.map V.int xs)[i]? = some y := hy
            rw [List.getElem?_map, List.getElem?_eq_getElem hi] at hy
            exact (Option.some.inj hy).symm
          have s7 : Same H6 (upd H6 T' (.tup [.int (i : Int), .int xs[i]])) := same_upd nT
          refine ⟨T', _, rfl, SqT.of upd_same, rfl, .int (i : Int), _, rfl, .int xs[i], _, rfl, rfl, ?_⟩
          generalize upd H6 T' (.tup [.int (i : Int), .int xs[i]]) = H7 at s7
          have hb := hx _ (List.getElem_mem hi)
          have hgi : xs.getD i 0 = xs[i] := by rw [hg, List.getElem?_eq_getElem hi]; rfl
          refine ⟨.int (i : Int), rfl, .ref R, rfl, R, _, rfl, .inl (SqL.of (s7 _ _ (s6 _ _ eR))), rfl, flo, !inV (.int (i : Int)) ((refsF ns).map optV), rfl, ?_⟩
          rw [inV_opt]
          cases hin : inO (refsF ns) (i : Int) with
          | false =>
            refine iteT ⟨.int (prodF ns most i), rfl, .int most, rfl, .int xs[i], rfl, most, xs[i], rfl, rfl, most - xs[i], 1, rfl, rfl, prodF ns most i, most - xs[i] + 1, rfl, rfl, .inr ⟨by rw [t64]; omega, by rw [t64]; omega⟩, s6.trans s7, some (.int (i : Int)), some (.int xs[i]), ?_⟩
            rw [hp, hin, hgi]
            rfl
          | true =>
            refine iteF ⟨s6.trans s7, some (.int (i : Int)), some (.int xs[i]), ?_⟩
            rw [hp, hin]
            rfl
        · obtain ⟨s6, y7, y8, rfl⟩ := hP
          have hq := q H6 (e04.trans (Ex.of (s5.trans s6))) (tabG_same (s5.trans s6) t4)
          rw [hr] at hq
          have lm : (xs.map V.int).length = ns.length := by rw [List.length_map, lx]
          rw [lm]
          exact ⟨_, rfl, hq⟩
    refine ⟨.ref L, rfl, _, rfl, iteF ⟨.ref L, rfl, L, xs, 0, rfl, rfl, SqL.of eL, fun hnil => ⟨.int most, rfl, 0, most, rfl, rfl, decide (most < 0), rfl, ?_⟩, fun M hM hle => ⟨.int most, rfl, M, most, rfl, rfl, decide (most < M), rfl, ?_⟩⟩⟩
    · rw [decide_eq_false (by omega)]
      exact iteF (REST (by rw [hnil]; rfl))
    · by_cases c : most < M
      · rw [decide_eq_true c]
        refine iteT ?_
        have hq := q H4 e04 t4
        rw [hr, if_pos (List.any_eq_true.mpr ⟨M, hM, decide_eq_true c⟩)] at hq
        exact hq
      · rw [decide_eq_false c]
        exact iteF (REST (by
          rw [List.any_eq_false]
          intro x hx2 z
          have := of_decide_eq_true z
          have := hle x hx2
          omega))
end
end CL
set_option Elab.async false
set_option linter.all false
set_option maxRecDepth 100000
set_option maxHeartbeats 4000000
namespace CL
/-! ### a queue made by patiences bars no three: whoever stays behind an older one stays behind one that lets nobody past -/
def Go (f : RF) (b : Nat) : List Nat → Prop
  | [] => True
  | c :: Y => ¬ b < c ∧ (f c = some 0 ∨ Go f b Y)
def OkB (f : RF) (b : Nat) (Y : List Nat) : Prop := f b = some 0 ∨ Go f b Y
def Q1 (f : RF) : List Nat → Prop
  | [] => True
  | b :: Y => OkB f b Y ∧ Q1 f Y
def Nb : List Nat → Prop
  | [] => True
  | a :: X => (∀ b c, [b, c].Sublist X → ¬ (b < c ∧ c < a)) ∧ Nb X
theorem Go.mono {f f' : RF} {b : Nat} : ∀ {Y : List Nat}, (∀ x ∈ Y, f x = some 0 → f' x = some 0) → Go f b Y → Go f' b Y
  | [], _, _ => trivial
  | c :: Y, h, g => ⟨g.1, g.2.elim (fun e => .inl (h c List.mem_cons_self e)) fun e => .inr (Go.mono (fun x hx => h x (List.mem_cons_of_mem _ hx)) e)⟩
theorem Go.stop {f f' : RF} {b z : Nat} : ∀ {Z X X' : List Nat}, (∀ x ∈ Z, f x = some 0 → f' x = some 0) → f' z = some 0 → Go f b (Z ++ z :: X) → Go f' b (Z ++ z :: X')
  | [], X, X', h, hz, g => ⟨g.1, .inl hz⟩
  | c :: Z, X, X', h, hz, g => ⟨g.1, g.2.elim (fun e => .inl (h c List.mem_cons_self e)) fun e => .inr (Go.stop (fun x hx => h x (List.mem_cons_of_mem _ hx)) hz e)⟩
theorem Go.less {f : RF} {n : Nat} : ∀ {C : List Nat}, (∀ c ∈ C, c < n) → Go f n C
  | [], _ => trivial
  | c :: C, h => ⟨by have := h c List.mem_cons_self; omega, .inr (Go.less fun x hx => h x (List.mem_cons_of_mem _ hx))⟩
theorem Q1.mono {f f' : RF} : ∀ {Y : List Nat}, (∀ x ∈ Y, f x = some 0 → f' x = some 0) → Q1 f Y → Q1 f' Y
  | [], _, _ => trivial
  | b :: Y, h, q => ⟨q.1.elim (fun e => .inl (h b List.mem_cons_self e)) fun g => .inr (g.mono fun x hx => h x (List.mem_cons_of_mem _ hx)), Q1.mono (fun x hx => h x (List.mem_cons_of_mem _ hx)) q.2⟩
theorem Go.none {f : RF} {b : Nat} : ∀ {Y : List Nat}, (∀ x ∈ Y, f x ≠ some 0) → Go f b Y → ∀ c ∈ Y, ¬ b < c
  | [], _, _, c, hc => nomatch hc
  | d :: Y, h, g, c, hc => by
    rcases List.mem_cons.mp hc with rfl | hc
    · exact g.1
    · exact Go.none (fun x hx => h x (List.mem_cons_of_mem _ hx)) (g.2.resolve_left (h d List.mem_cons_self)) c hc
theorem Q1.none {f : RF} {b c : Nat} : ∀ {C : List Nat}, (∀ x ∈ C, f x ≠ some 0) → Q1 f C → [b, c].Sublist C → ¬ b < c
  | [], _, _, s => nomatch s
  | d :: C, h, q, s => by
    cases s with
    | cons _ s => exact Q1.none (fun x hx => h x (List.mem_cons_of_mem _ hx)) q.2 s
    | cons_cons _ s => exact Go.none (fun x hx => h x (List.mem_cons_of_mem _ hx)) (q.1.resolve_left (h _ List.mem_cons_self)) c (List.singleton_sublist.mp s)
theorem Q1.put {f f' : RF} {n : Nat} {C : List Nat} (hC : ∀ c ∈ C, c < n) : ∀ {A : List Nat}, (∀ x ∈ A ++ C, f x = some 0 → f' x = some 0) → (∀ z, A.getLast? = some z → f' z = some 0) → Q1 f (A ++ C) → Q1 f' (A ++ n :: C)
  | [], h, _, q => ⟨.inr (Go.less hC), q.mono h⟩
  | [b], h, hl, q => ⟨.inl (hl b rfl), .inr (Go.less hC), q.2.mono fun x hx => h x (List.mem_cons_of_mem _ hx)⟩
  | b :: a :: A, h, hl, q => by
    refine ⟨?_, Q1.put hC (A := a :: A) (fun x hx => h x (List.mem_cons_of_mem _ hx)) (fun z hz => hl z (by rw [List.getLast?_cons_cons]; exact hz)) q.2⟩
    rcases q.1 with e | g
    · exact .inl (h b List.mem_cons_self e)
    · right
      obtain ⟨Z, z, hZ⟩ : ∃ Z z, a :: A = Z ++ [z] := ⟨(a :: A).dropLast, (a :: A).getLast (by simp), (List.dropLast_concat_getLast (by simp)).symm⟩
      have hz : f' z = some 0 := hl z (by rw [List.getLast?_cons_cons, hZ, List.getLast?_append]; rfl)
      have e1 : a :: A ++ C = Z ++ z :: C := by rw [hZ, List.append_assoc]; rfl
      have e2 : a :: A ++ n :: C = Z ++ z :: n :: C := by rw [hZ, List.append_assoc]; rfl
      have g' : Go f b (a :: A ++ C) := g
      show Go f' b (a :: A ++ n :: C)
      rw [e1] at g'
      rw [e2]
      refine Go.stop (fun x hx => h x (List.mem_cons_of_mem _ ?_)) hz g'
      show x ∈ a :: A ++ C
      rw [e1]
      exact List.mem_append_left _ hx
theorem two_out {n b c : Nat} {A C : List Nat} (s : [b, c].Sublist (A ++ n :: C)) (hb : b ≠ n) (hc : c ≠ n) (hA : ∀ x ∈ A ++ C, x ≠ n) : [b, c].Sublist (A ++ C) := by
  have h := s.filter (fun x => x != n)
  have e : (A ++ n :: C).filter (fun x => x != n) = A ++ C := by
    rw [List.filter_append, List.filter_cons_of_neg (by simp)]
    rw [List.filter_eq_self.mpr fun x hx => by simpa using hA x (List.mem_append_left _ hx), List.filter_eq_self.mpr fun x hx => by simpa using hA x (List.mem_append_right _ hx)]
  rw [e] at h
  have e2 : [b, c].filter (fun x => x != n) = [b, c] := List.filter_eq_self.mpr fun x hx => by
    simp only [List.mem_cons, List.not_mem_nil, or_false] at hx
    rcases hx with rfl | rfl
    · simpa using hb
    · simpa using hc
  rw [e2] at h
  exact h
theorem Nb.put {f : RF} {n : Nat} {C : List Nat} (h0 : ∀ c ∈ C, f c ≠ some 0) : ∀ {A : List Nat}, (∀ x ∈ A ++ C, x < n) → Q1 f (A ++ C) → Nb (A ++ C) → Nb (A ++ n :: C)
  | [], _, q, b => ⟨fun x y s z => Q1.none h0 q s z.1, b⟩
  | a :: A, hA, q, b => by
    refine ⟨fun x y s z => ?_, Nb.put h0 (A := A) (fun x hx => hA x (List.mem_cons_of_mem _ hx)) q.2 b.2⟩
    have ha := hA a List.mem_cons_self
    have ln : ∀ x ∈ A ++ C, x ≠ n := fun x hx => by have := hA x (List.mem_cons_of_mem _ hx); omega
    exact b.1 x y (two_out s (by omega) (by omega) ln) z
/-- how one that comes is put -/
structure Came (f f' : RF) (xs : List Nat) (k : Nat) : Prop where
  le : k ≤ xs.length
  stop : ∀ z, (xs.take k).getLast? = some z → f' z = some 0
  past : ∀ x ∈ xs.drop k, f x ≠ some 0
  keep : ∀ x ∈ xs, f x = some 0 → f' x = some 0
theorem Came.q1 {f f' : RF} {xs : List Nat} {n k : Nat} (c : Came f f' xs k) (hx : ∀ x ∈ xs, x < n) (q : Q1 f xs) : Q1 f' (xs.take k ++ n :: xs.drop k) := by
  have e := List.take_append_drop k xs
  exact Q1.put (fun x h => hx x (List.mem_of_mem_drop h)) (by rw [e]; exact c.keep) c.stop (by rw [e]; exact q)
theorem Came.nb {f f' : RF} {xs : List Nat} {n k : Nat} (c : Came f f' xs k) (hx : ∀ x ∈ xs, x < n) (q : Q1 f xs) (b : Nb xs) : Nb (xs.take k ++ n :: xs.drop k) := by
  have e := List.take_append_drop k xs
  exact Nb.put c.past (by rw [e]; exact hx) (by rw [e]; exact q) (by rw [e]; exact b)
theorem Nb.at3 : ∀ {xs : List Nat}, Nb xs → ∀ a b c, [a, b, c].Sublist xs → ¬ (b < c ∧ c < a)
  | [], _, _, _, _, s => nomatch s
  | d :: xs, h, a, b, c, s => by
    cases s with
    | cons _ s => exact h.2.at3 a b c s
    | cons_cons _ s => exact h.1 b c s
theorem sub1 {α : Type} : ∀ {xs : List α} {k : Nat}, (h : k < xs.length) → [xs[k]].Sublist xs := fun h => List.singleton_sublist.mpr (List.getElem_mem h)
theorem sub2 {α : Type} : ∀ {xs : List α} {j k : Nat}, j < k → (hj : j < xs.length) → (hk : k < xs.length) → [xs[j], xs[k]].Sublist xs
  | [], _, _, _, hj, _ => absurd hj (Nat.not_lt_zero _)
  | x :: xs, 0, k + 1, _, _, hk => (sub1 (Nat.lt_of_succ_lt_succ hk)).cons_cons x
  | x :: xs, j + 1, k + 1, h, hj, hk => (sub2 (Nat.lt_of_succ_lt_succ h) (Nat.lt_of_succ_lt_succ hj) (Nat.lt_of_succ_lt_succ hk)).cons x
theorem sub3 {α : Type} : ∀ {xs : List α} {i j k : Nat}, i < j → j < k → (hi : i < xs.length) → (hj : j < xs.length) → (hk : k < xs.length) → [xs[i], xs[j], xs[k]].Sublist xs
  | [], _, _, _, _, _, hi, _, _ => absurd hi (Nat.not_lt_zero _)
  | x :: xs, 0, j + 1, k + 1, _, h, _, hj, hk => (sub2 (Nat.lt_of_succ_lt_succ h) (Nat.lt_of_succ_lt_succ hj) (Nat.lt_of_succ_lt_succ hk)).cons_cons x
  | x :: xs, i + 1, j + 1, k + 1, h, h2, hi, hj, hk => (sub3 (Nat.lt_of_succ_lt_succ h) (Nat.lt_of_succ_lt_succ h2) (Nat.lt_of_succ_lt_succ hi) (Nat.lt_of_succ_lt_succ hj) (Nat.lt_of_succ_lt_succ hk)).cons x
end CL
set_option Elab.async false
set_option linter.all false
set_option maxRecDepth 100000
set_option maxHeartbeats 4000000
namespace CL
/-! ### how far somebody goes, told by what it meets -/
theorem goes_none {p : Nat} {l : List (Option Int)} (h : l[p]? = some none) : goes (p + 1) l = goes p l := by
  conv => lhs; unfold goes
  rw [h]
theorem goes_stop {p : Nat} {l : List (Option Int)} (h : l[p]? = some (some 0)) : goes (p + 1) l = (p + 1, l) := by
  conv => lhs; unfold goes
  rw [h]
  rfl
theorem goes_go {p : Nat} {l : List (Option Int)} {k : Int} (h : l[p]? = some (some k)) (hk : k ≠ 0) : goes (p + 1) l = goes p (l.set p (some (k - 1))) := by
  conv => lhs; unfold goes
  rw [h]
  exact if_neg hk
theorem goes_spec : ∀ (p : Nat) (l : List (Option Int)), p ≤ l.length → (∀ i, (goes p l).1 ≤ i → i < p → l[i]? ≠ some (some 0)) ∧ ((goes p l).1 = 0 ∨ l[(goes p l).1 - 1]? = some (some 0)) ∧
    ∀ i, (goes p l).2[i]? = if (goes p l).1 ≤ i ∧ i < p then (l[i]?).map (fun o => o.map (· - 1)) else l[i]?
  | 0, l, _ => ⟨fun i _ h => absurd h (Nat.not_lt_zero i), .inl rfl, fun i => by rw [if_neg (by omega)]; rfl⟩
  | p + 1, l, h => by
    have hp : l[p]? = some l[p] := List.getElem?_eq_getElem (by omega)
    have hg := goes_le p
    cases e : l[p] with
    | none =>
      rw [goes_none (hp.trans (congrArg some e))]
      obtain ⟨h1, h2, h3⟩ := goes_spec p l (by omega)
      refine ⟨fun i a b => ?_, h2, fun i => ?_⟩
      · by_cases z : i = p
        · subst z; rw [hp, e]; simp
        · exact h1 i a (by omega)
      · rw [h3 i]
        by_cases z : i = p
        · subst z
          rw [if_neg (by omega), hp, e]
          split <;> rfl
        · have : ((goes p l).1 ≤ i ∧ i < p + 1) ↔ ((goes p l).1 ≤ i ∧ i < p) := by omega
          simp only [this]
    | some k =>
      by_cases hk : k = 0
      · subst hk
        rw [goes_stop (hp.trans (congrArg some e))]
        refine ⟨fun i a b => by omega, .inr (by rw [Nat.add_sub_cancel, hp, e]), fun i => by rw [if_neg (by omega)]⟩
      · rw [goes_go (hp.trans (congrArg some e)) hk]
        have hl : (l.set p (some (k - 1))).length = l.length := List.length_set ..
        obtain ⟨h1, h2, h3⟩ := goes_spec p (l.set p (some (k - 1))) (by omega)
        have hle := (hg (l.set p (some (k - 1)))).1
        have same : ∀ i, i ≠ p → (l.set p (some (k - 1)))[i]? = l[i]? := fun i ne => by rw [List.getElem?_set_ne (Ne.symm ne)]
        refine ⟨fun i a b => ?_, ?_, fun i => ?_⟩
        · by_cases z : i = p
          · subst z; rw [hp, e]; simpa using hk
          · rw [← same i z]; exact h1 i a (by omega)
        · rcases h2 with z | z
          · exact .inl z
          · by_cases zz : (goes p (l.set p (some (k - 1)))).1 = 0
            · exact .inl zz
            · exact .inr (by rw [← z, same _ (by omega)])
        · rw [h3 i]
          by_cases z : i = p
          · subst z
            rw [if_neg (by omega), List.getElem?_set_self (by omega), if_pos ⟨hle, by omega⟩, hp, e]
            rfl
          · rw [same i z]
            have : ((goes p (l.set p (some (k - 1)))).1 ≤ i ∧ i < p + 1) ↔ ((goes p (l.set p (some (k - 1)))).1 ≤ i ∧ i < p) := by omega
            simp only [this]
/-! ### a queue's growing, by the places of those that come -/
def xsK (ks : Nat → Nat) : Nat → List Nat
  | 0 => []
  | n + 1 => (xsK ks n).take (ks n) ++ n :: (xsK ks n).drop (ks n)
/-- how many went past somebody -/
def cK (ks : Nat → Nat) : Nat → Nat → Nat
  | 0, _ => 0
  | n + 1, j => cK ks n j + if j ∈ (xsK ks n).drop (ks n) then 1 else 0
theorem xsK_perm (ks : Nat → Nat) : ∀ n, (xsK ks n).Perm (List.range n)
  | 0 => .refl _
  | n + 1 => by
    have h := List.perm_middle (a := n) (l₁ := (xsK ks n).take (ks n)) (l₂ := (xsK ks n).drop (ks n))
    rw [List.take_append_drop] at h
    exact (h.trans ((xsK_perm ks n).cons n)).trans (by rw [List.range_succ]; exact (List.perm_append_singleton n (List.range n)).symm)
theorem xsK_mem {ks : Nat → Nat} {n x : Nat} : x ∈ xsK ks n ↔ x < n := by rw [(xsK_perm ks n).mem_iff, List.mem_range]
theorem xsK_nd (ks : Nat → Nat) (n : Nat) : (xsK ks n).Nodup := (xsK_perm ks n).nodup_iff.mpr List.nodup_range
theorem xsK_len (ks : Nat → Nat) (n : Nat) : (xsK ks n).length = n := by rw [(xsK_perm ks n).length_eq, List.length_range]
theorem cK_new {ks : Nat → Nat} : ∀ {n j : Nat}, n ≤ j → cK ks n j = 0
  | 0, _, _ => rfl
  | n + 1, j, h => by
    show cK ks n j + _ = 0
    rw [cK_new (by omega), if_neg fun z => by have := xsK_mem.mp (List.mem_of_mem_drop z); omega]
theorem cK_mono {ks : Nat → Nat} {j : Nat} : ∀ {m n : Nat}, m ≤ n → cK ks m j ≤ cK ks n j
  | m, 0, h => by rw [Nat.le_zero.mp h]; exact Nat.le_refl _
  | m, n + 1, h => by
    rcases Nat.lt_or_ge n m with z | z
    · rw [show m = n + 1 by omega]; exact Nat.le_refl _
    · exact Nat.le_trans (cK_mono z) (Nat.le_add_right _ _)
structure Stp (ks : Nat → Nat) (q : Nat → Option Int) (n : Nat) : Prop where
  le : ks n ≤ (xsK ks n).length
  past : ∀ j ∈ (xsK ks n).drop (ks n), q j ≠ some (cK ks n j : Int)
  stop : ∀ z, ((xsK ks n).take (ks n)).getLast? = some z → q z = some (cK ks n z : Int)
def rsK (ks : Nat → Nat) (q : Nat → Option Int) (n j : Nat) : Option Int := (q j).map (· - (cK ks n j : Int))
def qOf (ps : List (Option Int)) : Nat → Option Int := fun j => ps.getD j none
theorem rs_zero {ks : Nat → Nat} {q : Nat → Option Int} {n j : Nat} : rsK ks q n j = some 0 ↔ q j = some (cK ks n j : Int) := by
  unfold rsK
  cases q j with
  | none => simp
  | some v =>
    simp only [Option.map_some, Option.some.injEq]
    omega
theorem goes_at {l : List (Option Int)} {k : Nat} (hk : k ≤ l.length) (h1 : ∀ i, k ≤ i → i < l.length → l[i]? ≠ some (some 0)) (h2 : k = 0 ∨ l[k - 1]? = some (some 0)) : (goes l.length l).1 = k := by
  obtain ⟨a1, a2, _⟩ := goes_spec l.length l (Nat.le_refl _)
  have hle := (goes_le l.length l).1
  rcases Nat.lt_trichotomy (goes l.length l).1 k with z | z | z
  · rcases h2 with y | y
    · omega
    · exact absurd y (a1 (k - 1) (by omega) (by omega))
  · exact z
  · rcases a2 with y | y
    · omega
    · exact absurd y (h1 _ (by omega) (by omega))
theorem last_take {xs : List Nat} {k : Nat} (h0 : 0 < k) (hk : k ≤ xs.length) : (xs.take k).getLast? = xs[k - 1]? := by
  rw [List.getLast?_eq_getElem?, List.length_take, Nat.min_eq_left hk, List.getElem?_take_of_lt (by omega)]
theorem nd_split {xs : List Nat} (h : xs.Nodup) {k : Nat} {x : Nat} (a : x ∈ xs.take k) (b : x ∈ xs.drop k) : False := by
  rw [← List.take_append_drop k xs] at h
  exact (List.nodup_append.mp h).2.2 x a x b rfl
theorem drop_get {xs : List Nat} {k i : Nat} (h : k ≤ i) (hi : i < xs.length) : xs[i] ∈ xs.drop k := by
  refine List.mem_of_getElem? (i := i - k) ?_
  rw [List.getElem?_drop, show k + (i - k) = i by omega, List.getElem?_eq_getElem hi]
theorem take_get {xs : List Nat} {k i : Nat} (h : i < k) (hi : i < xs.length) : xs[i] ∈ xs.take k := by
  refine List.mem_of_getElem? (i := i) ?_
  rw [List.getElem?_take_of_lt h, List.getElem?_eq_getElem hi]
theorem lin_of {ps : List (Option Int)} {ks : Nat → Nat} : ∀ n, (∀ m, m < n → Stp ks (qOf ps) m) → lin ps n = (xsK ks n, (xsK ks n).map (rsK ks (qOf ps) n))
  | 0, _ => rfl
  | n + 1, h => by
    have ih := lin_of n (fun m hm => h m (by omega))
    have st := h n (by omega)
    have ll : ((xsK ks n).map (rsK ks (qOf ps) n)).length = (xsK ks n).length := List.length_map ..
    have nd := xsK_nd ks n
    have hk : (goes (xsK ks n).length ((xsK ks n).map (rsK ks (qOf ps) n))).1 = ks n := by
      rw [← ll]
      refine goes_at (by rw [ll]; exact st.le) (fun i a b => ?_) ?_
      · rw [ll] at b
        rw [List.getElem?_map, List.getElem?_eq_getElem b]
        intro z
        exact st.past _ (drop_get a b) (rs_zero.mp (Option.some.inj z))
      · by_cases k0 : ks n = 0
        · exact .inl k0
        · refine .inr ?_
          have hl := st.le
          have e := last_take (xs := xsK ks n) (k := ks n) (by omega) hl
          rw [List.getElem?_eq_getElem (show ks n - 1 < (xsK ks n).length by omega)] at e
          rw [List.getElem?_map, List.getElem?_eq_getElem (show ks n - 1 < (xsK ks n).length by omega)]
          exact congrArg some (rs_zero.mpr (st.stop _ e))
    have hs := (goes_spec (xsK ks n).length ((xsK ks n).map (rsK ks (qOf ps) n)) (by rw [ll]; exact Nat.le_refl _)).2.2
    rw [hk] at hs
    have e2 : (goes (xsK ks n).length ((xsK ks n).map (rsK ks (qOf ps) n))).2 = (xsK ks n).map (rsK ks (qOf ps) (n + 1)) := by
      refine List.ext_getElem? fun i => ?_
      rw [hs i, List.getElem?_map, List.getElem?_map]
      by_cases hi : i < (xsK ks n).length
      · rw [List.getElem?_eq_getElem hi]
        by_cases hki : ks n ≤ i
        · rw [if_pos ⟨hki, hi⟩]
          have : cK ks (n + 1) ((xsK ks n)[i]) = cK ks n ((xsK ks n)[i]) + 1 := by
            show _ + (if _ then 1 else 0) = _
            rw [if_pos (drop_get hki hi)]
          simp only [Option.map_some]
          unfold rsK
          rw [this]
          cases qOf ps ((xsK ks n)[i]) with
          | none => rfl
          | some v =>
            simp only [Option.map_some]
            congr 2
            omega
        · rw [if_neg (by omega)]
          have : cK ks (n + 1) ((xsK ks n)[i]) = cK ks n ((xsK ks n)[i]) := by
            show _ + (if _ then 1 else 0) = _
            rw [if_neg fun z => nd_split nd (take_get (by omega) hi) z, Nat.add_zero]
          simp only [Option.map_some]
          unfold rsK
          rw [this]
      · rw [List.getElem?_eq_none (by omega), if_neg (by omega)]
        rfl
    have enew : rsK ks (qOf ps) (n + 1) n = ps.getD n none := by
      unfold rsK
      have : cK ks (n + 1) n = 0 := by
        show _ + (if _ then 1 else 0) = _
        rw [cK_new (Nat.le_refl n), if_neg fun z => by have := xsK_mem.mp (List.mem_of_mem_drop z); omega]
      rw [this]
      show (ps.getD n none).map _ = _
      cases ps.getD n none with
      | none => rfl
      | some v => simp
    show put (lin ps n) n (ps.getD n none) = _
    rw [ih]
    unfold put
    dsimp only
    rw [hk, e2]
    show (_, _) = ((xsK ks n).take (ks n) ++ n :: (xsK ks n).drop (ks n), ((xsK ks n).take (ks n) ++ n :: (xsK ks n).drop (ks n)).map _)
    rw [List.map_append, List.map_cons, enew, List.map_take, List.map_drop]
def kOf (ps : List (Option Int)) (n : Nat) : Nat := (goes (lin ps n).1.length (lin ps n).2).1
/-- a queue's own growing -/
theorem own_stp (ps : List (Option Int)) : ∀ n, ∀ m, m < n → Stp (kOf ps) (qOf ps) m
  | 0, m, h => absurd h (Nat.not_lt_zero m)
  | n + 1, m, h => by
    have ih := own_stp ps n
    rcases Nat.lt_or_ge m n with z | z
    · exact ih m z
    obtain rfl : m = n := by omega
    have hl := lin_of m ih
    have ll : ((xsK (kOf ps) m).map (rsK (kOf ps) (qOf ps) m)).length = (xsK (kOf ps) m).length := List.length_map ..
    have ek : kOf ps m = (goes (xsK (kOf ps) m).length ((xsK (kOf ps) m).map (rsK (kOf ps) (qOf ps) m))).1 := by
      conv => lhs; unfold kOf
      rw [hl]
    obtain ⟨a1, a2, _⟩ := goes_spec (xsK (kOf ps) m).length ((xsK (kOf ps) m).map (rsK (kOf ps) (qOf ps) m)) (by rw [ll]; exact Nat.le_refl _)
    have hle := (goes_le (xsK (kOf ps) m).length ((xsK (kOf ps) m).map (rsK (kOf ps) (qOf ps) m))).1
    rw [← ek] at a1 a2 hle
    refine ⟨hle, fun j hj => ?_, fun x hx => ?_⟩
    · obtain ⟨i, hi⟩ := List.getElem?_of_mem hj
      rw [List.getElem?_drop] at hi
      obtain ⟨hlt, e⟩ := List.getElem?_eq_some_iff.mp hi
      intro y
      refine a1 (kOf ps m + i) (by omega) hlt ?_
      rw [List.getElem?_map, hi]
      exact congrArg some (rs_zero.mpr y)
    · by_cases k0 : kOf ps m = 0
      · rw [k0] at hx; cases hx
      · rw [last_take (by omega) hle] at hx
        rcases a2 with y | y
        · omega
        · rw [List.getElem?_map, hx] at y
          exact rs_zero.mp (Option.some.inj y)
theorem queue_own (ps : List (Option Int)) : queueF ps = xsK (kOf ps) ps.length := by
  unfold queueF
  rw [lin_of ps.length (own_stp ps _)]
theorem filt_xsK (ks : Nat → Nat) : ∀ n m, m ≤ n → (xsK ks n).filter (fun x => decide (x < m)) = xsK ks m
  | 0, m, h => by rw [Nat.le_zero.mp h]; rfl
  | n + 1, m, h => by
    rcases Nat.lt_or_ge n m with z | z
    · obtain rfl : m = n + 1 := by omega
      exact List.filter_eq_self.mpr fun x hx => decide_eq_true (xsK_mem.mp hx)
    · show ((xsK ks n).take (ks n) ++ n :: (xsK ks n).drop (ks n)).filter _ = _
      rw [List.filter_append, List.filter_cons_of_neg (by simpa using z), ← List.filter_append, List.take_append_drop]
      exact filt_xsK ks n m z
theorem mid_at {x : Nat} : ∀ {A A' C C' : List Nat}, x ∉ A → x ∉ A' → A ++ x :: C = A' ++ x :: C' → A.length = A'.length
  | [], [], _, _, _, _, _ => rfl
  | [], a :: A', _, _, _, h, e => absurd (List.cons.inj e).1 fun z => h (by rw [z]; exact List.mem_cons_self)
  | a :: A, [], _, _, h, _, e => absurd (List.cons.inj e).1 fun z => h (by rw [← z]; exact List.mem_cons_self)
  | a :: A, b :: A', _, _, h, h', e => congrArg (· + 1) (mid_at (fun z => h (List.mem_cons_of_mem _ z)) (fun z => h' (List.mem_cons_of_mem _ z)) (List.cons.inj e).2)
theorem xsK_congr {k1 k2 : Nat → Nat} : ∀ n, (∀ m, m < n → k1 m = k2 m) → xsK k1 n = xsK k2 n ∧ ∀ j, cK k1 n j = cK k2 n j
  | 0, _ => ⟨rfl, fun _ => rfl⟩
  | n + 1, h => by
    obtain ⟨h1, h2⟩ := xsK_congr n fun m hm => h m (by omega)
    have e := h n (by omega)
    refine ⟨?_, fun j => ?_⟩
    · show (xsK k1 n).take (k1 n) ++ n :: (xsK k1 n).drop (k1 n) = (xsK k2 n).take (k2 n) ++ n :: (xsK k2 n).drop (k2 n)
      rw [h1, e]
    · show cK k1 n j + (if j ∈ (xsK k1 n).drop (k1 n) then 1 else 0) = cK k2 n j + (if j ∈ (xsK k2 n).drop (k2 n) then 1 else 0)
      rw [h1, h2, e]
theorem Stp.congr {k1 k2 : Nat → Nat} {q : Nat → Option Int} {n : Nat} (h : ∀ m, m ≤ n → k1 m = k2 m) (s : Stp k1 q n) : Stp k2 q n := by
  obtain ⟨h1, h2⟩ := xsK_congr n fun m hm => h m (by omega)
  have e := h n (Nat.le_refl n)
  refine ⟨by rw [← h1, ← e]; exact s.le, fun j hj => ?_, fun z hz => ?_⟩
  · rw [← h1, ← e] at hj; rw [← h2]; exact s.past j hj
  · rw [← h1, ← e] at hz; rw [← h2]; exact s.stop z hz
theorem same_k {k1 k2 : Nat → Nat} {N : Nat} (l1 : ∀ m, m < N → k1 m ≤ m) (l2 : ∀ m, m < N → k2 m ≤ m) (e : xsK k1 N = xsK k2 N) : ∀ m, m < N → k1 m = k2 m := fun m hm => by
  have e1 : xsK k1 m = xsK k2 m := by rw [← filt_xsK k1 N m (by omega), ← filt_xsK k2 N m (by omega), e]
  have e2 : xsK k1 (m + 1) = xsK k2 (m + 1) := by rw [← filt_xsK k1 N (m + 1) (by omega), ← filt_xsK k2 N (m + 1) (by omega), e]
  have h := mid_at (x := m) (fun z => by have := xsK_mem.mp (List.mem_of_mem_take z); omega) (fun z => by have := xsK_mem.mp (List.mem_of_mem_take z); omega) e2
  rw [List.length_take, List.length_take, xsK_len, xsK_len] at h
  have := l1 m hm
  have := l2 m hm
  omega
/-- which patiences make a queue -/
theorem queue_iff {ps qs : List (Option Int)} (hl : qs.length = ps.length) : queueF qs = queueF ps ↔ ∀ m, m < ps.length → Stp (kOf ps) (qOf qs) m := by
  refine ⟨fun e m hm => ?_, fun h => ?_⟩
  · rw [queue_own, queue_own, hl] at e
    have le : ∀ (rs : List (Option Int)) (m : Nat), kOf rs m ≤ m := fun rs m => by
      have := (own_stp rs (m + 1) m (by omega)).le
      rw [xsK_len] at this
      exact this
    have hk := same_k (N := ps.length) (fun m _ => le qs m) (fun m _ => le ps m) e
    exact (own_stp qs (m + 1) m (by omega)).congr fun j hj => hk j (by omega)
  · rw [queue_own ps]
    unfold queueF
    rw [hl, lin_of ps.length h]
/-! ### what each needs -/
section
variable {ks : Nat → Nat} {q : Nat → Option Int} {N : Nat}
theorem stp_least : ∀ n, (∀ m, m < n → Stp ks q m) → ∀ j v, q j = some v → 0 ≤ v → (cK ks n j : Int) ≤ v
  | 0, _, j, v, _, h0 => h0
  | n + 1, h, j, v, e, h0 => by
    have ih := stp_least n (fun m hm => h m (by omega)) j v e h0
    show ((cK ks n j + if j ∈ (xsK ks n).drop (ks n) then 1 else 0 : Nat) : Int) ≤ v
    by_cases z : j ∈ (xsK ks n).drop (ks n)
    · rw [if_pos z]
      have := (h n (by omega)).past j z
      rw [e] at this
      have : v ≠ (cK ks n j : Int) := fun y => this (by rw [y])
      omega
    · rw [if_neg z]
      exact ih
theorem stp_fix (h : ∀ m, m < N → Stp ks q m) {m z : Nat} (hm : m < N) (hz : ((xsK ks m).take (ks m)).getLast? = some z) : cK ks N z = cK ks m z := by
  have h1 := stp_least N h z _ ((h m hm).stop z hz) (by omega)
  have h2 := cK_mono (ks := ks) (j := z) (Nat.le_of_lt hm)
  omega
/-- the least patiences make it -/
theorem stp_min (h : ∀ m, m < N → Stp ks q m) {q' : Nat → Option Int} (e : ∀ j, j < N → q' j = some (cK ks N j : Int)) : ∀ m, m < N → Stp ks q' m := fun m hm => by
  refine ⟨(h m hm).le, fun j hj z => ?_, fun z hz => ?_⟩
  · have hj' := xsK_mem.mp (List.mem_of_mem_drop hj)
    rw [e j (by omega)] at z
    have h1 : cK ks (m + 1) j = cK ks m j + 1 := by
      show _ + (if _ then 1 else 0) = _
      rw [if_pos hj]
    have h2 := cK_mono (ks := ks) (j := j) (show m + 1 ≤ N by omega)
    have := Option.some.inj z
    omega
  · have hz' := xsK_mem.mp (List.mem_of_mem_take (List.mem_of_getLast? hz))
    rw [e z (by omega), stp_fix h hm hz]
theorem stp_raise (h : ∀ m, m < N → Stp ks q m) {q' : Nat → Option Int} {x : Nat} (hx : x < N) (e : ∀ j, j < N → j ≠ x → q' j = some (cK ks N j : Int)) (ex : q' x = some ((cK ks N x : Int) + 1)) : (∀ m, m < N → Stp ks q' m) ↔ ∀ m, m < N → ((xsK ks m).take (ks m)).getLast? ≠ some x := by
  refine ⟨fun g m hm z => ?_, fun g m hm => ⟨(h m hm).le, fun j hj z => ?_, fun z hz => ?_⟩⟩
  · have h1 := (g m hm).stop x z
    rw [ex] at h1
    have h2 := stp_fix h hm z
    have := Option.some.inj h1
    omega
  · have hj' := xsK_mem.mp (List.mem_of_mem_drop hj)
    have h1 : cK ks (m + 1) j = cK ks m j + 1 := by
      show _ + (if _ then 1 else 0) = _
      rw [if_pos hj]
    have h2 := cK_mono (ks := ks) (j := j) (show m + 1 ≤ N by omega)
    by_cases y : j = x
    · rw [y] at z h1 h2
      rw [ex] at z
      have := Option.some.inj z
      omega
    · rw [e j (by omega) y] at z
      have := Option.some.inj z
      omega
  · have hz' := xsK_mem.mp (List.mem_of_mem_take (List.mem_of_getLast? hz))
    rw [e z (by omega) fun y => g m hm (by rw [hz, y]), stp_fix h hm hz]
end
/-! ### how the program counts -/
theorem tw_in {xs ys : List Nat} {j : Nat} (h : j ∈ xs) : (xs ++ ys).takeWhile (· != j) = xs.takeWhile (· != j) := by
  induction xs with
  | nil => cases h
  | cons x xs ih =>
    show (x :: (xs ++ ys)).takeWhile _ = _
    by_cases e : x = j
    · rw [List.takeWhile_cons_of_neg (by simp [e]), List.takeWhile_cons_of_neg (by simp [e])]
    · rw [List.takeWhile_cons_of_pos (by simp [e]), List.takeWhile_cons_of_pos (by simp [e]), ih ((List.mem_cons.mp h).resolve_left (Ne.symm e))]
theorem tw_out {xs ys : List Nat} {j : Nat} (h : j ∉ xs) : (xs ++ ys).takeWhile (· != j) = xs ++ ys.takeWhile (· != j) := by
  induction xs with
  | nil => rfl
  | cons x xs ih =>
    show (x :: (xs ++ ys)).takeWhile _ = x :: (xs ++ _)
    rw [List.takeWhile_cons_of_pos (by simp [Ne.symm (fun e : j = x => h (by rw [e]; exact List.mem_cons_self))]), ih fun z => h (List.mem_cons_of_mem _ z)]
theorem cnt_passed (ks : Nat → Nat) : ∀ n j, j < n → (((xsK ks n).takeWhile (· != j)).filter fun z => decide (j < z)).length = cK ks n j
  | 0, j, h => absurd h (Nat.not_lt_zero j)
  | n + 1, j, h => by
    show ((((xsK ks n).take (ks n) ++ n :: (xsK ks n).drop (ks n)).takeWhile (· != j)).filter _).length = cK ks n j + _
    have nd := xsK_nd ks n
    by_cases hjn : j = n
    · subst hjn
      have hA : j ∉ (xsK ks j).take (ks j) := fun z => by have := xsK_mem.mp (List.mem_of_mem_take z); omega
      have hC : j ∉ (xsK ks j).drop (ks j) := fun z => by have := xsK_mem.mp (List.mem_of_mem_drop z); omega
      rw [tw_out hA, List.takeWhile_cons_of_neg (by simp), List.append_nil, if_neg hC, cK_new (Nat.le_refl j), List.filter_eq_nil_iff.mpr]
      · rfl
      · intro x hx
        have := xsK_mem.mp (List.mem_of_mem_take hx)
        simp
        omega
    · have ih := cnt_passed ks n j (by omega)
      have hj : j ∈ (xsK ks n).take (ks n) ++ (xsK ks n).drop (ks n) := by rw [List.take_append_drop]; exact xsK_mem.mpr (by omega)
      by_cases hC : j ∈ (xsK ks n).drop (ks n)
      · have hA : j ∉ (xsK ks n).take (ks n) := fun z => nd_split nd z hC
        rw [if_pos hC, ← ih]
        conv => rhs; rw [← List.take_append_drop (ks n) (xsK ks n)]
        rw [tw_out hA, tw_out hA, List.takeWhile_cons_of_pos (by simp; omega), List.filter_append, List.filter_append, List.filter_cons_of_pos (by simp; omega), List.length_append, List.length_append, List.length_cons]
        omega
      · have hA := (List.mem_append.mp hj).resolve_right hC
        rw [if_neg hC, ← ih]
        conv => rhs; rw [← List.take_append_drop (ks n) (xsK ks n)]
        rw [tw_in hA, tw_in hA]
        rfl
theorem refu_xsK (ks : Nat → Nat) : ∀ n i, i < n → ((xsK ks n).takeWhile (· != i)).filter (fun z => decide (z < i)) = (xsK ks i).take (ks i)
  | 0, i, h => absurd h (Nat.not_lt_zero i)
  | n + 1, i, h => by
    show ((((xsK ks n).take (ks n) ++ n :: (xsK ks n).drop (ks n)).takeWhile (· != i)).filter _) = _
    have nd := xsK_nd ks n
    by_cases hjn : i = n
    · subst hjn
      have hA : i ∉ (xsK ks i).take (ks i) := fun z => by have := xsK_mem.mp (List.mem_of_mem_take z); omega
      rw [tw_out hA, List.takeWhile_cons_of_neg (by simp), List.append_nil]
      exact List.filter_eq_self.mpr fun x hx => decide_eq_true (xsK_mem.mp (List.mem_of_mem_take hx))
    · have ih := refu_xsK ks n i (by omega)
      have hj : i ∈ (xsK ks n).take (ks n) ++ (xsK ks n).drop (ks n) := by rw [List.take_append_drop]; exact xsK_mem.mpr (by omega)
      rw [← ih]
      conv => rhs; rw [← List.take_append_drop (ks n) (xsK ks n)]
      by_cases hC : i ∈ (xsK ks n).drop (ks n)
      · have hA : i ∉ (xsK ks n).take (ks n) := fun z => nd_split nd z hC
        rw [tw_out hA, tw_out hA, List.takeWhile_cons_of_pos (by simp; omega), List.filter_append, List.filter_append, List.filter_cons_of_neg (by simp; omega)]
      · have hA := (List.mem_append.mp hj).resolve_right hC
        rw [tw_in hA, tw_in hA]
/-! ### nothing bars -/
theorem nb_xsK {ks : Nat → Nat} {q : Nat → Option Int} : ∀ n, (∀ m, m < n → Stp ks q m) → Nb (xsK ks n) ∧ Q1 (rsK ks q n) (xsK ks n)
  | 0, _ => ⟨trivial, trivial⟩
  | n + 1, h => by
    obtain ⟨h1, h2⟩ := nb_xsK n fun m hm => h m (by omega)
    have st := h n (by omega)
    have nd := xsK_nd ks n
    have keepA : ∀ x ∈ (xsK ks n).take (ks n), rsK ks q (n + 1) x = rsK ks q n x := fun x hx => by
      have : cK ks (n + 1) x = cK ks n x := by
        show _ + (if _ then 1 else 0) = _
        rw [if_neg fun z => nd_split nd hx z, Nat.add_zero]
      unfold rsK
      rw [this]
    have c : Came (rsK ks q n) (rsK ks q (n + 1)) (xsK ks n) (ks n) := ⟨st.le, fun z hz => by
      rw [keepA z (List.mem_of_getLast? hz)]
      exact rs_zero.mpr (st.stop z hz), fun x hx z => st.past x hx (rs_zero.mp z), fun x hx z => by
      rw [keepA x ?_]
      · exact z
      · rw [← List.take_append_drop (ks n) (xsK ks n)] at hx
        exact (List.mem_append.mp hx).resolve_right fun y => st.past x y (rs_zero.mp z)⟩
    have hlt : ∀ x ∈ xsK ks n, x < n := fun x hx => xsK_mem.mp hx
    exact ⟨c.nb hlt h2 h1, c.q1 hlt h2⟩
end CL
set_option Elab.async false
set_option linter.all false
set_option maxRecDepth 100000
set_option maxHeartbeats 4000000
namespace CL
open PySem PySem.Spec PyProof.Rows L2 GE
/-! ### what the program tells of a queue -/
theorem ord_ic {ys : List Nat} {k : Nat} (h : ys.Perm (List.range k)) : isOrderI (ic ys) = true := by
  unfold isOrderI
  have l : (ic ys).length = k := by unfold ic; rw [List.length_map, h.length_eq, List.length_range]
  rw [l, List.all_eq_true]
  intro i hi
  exact decide_eq_true (List.mem_map.mpr ⟨i, h.mem_iff.mpr hi, rfl⟩)
theorem take_find (i : Nat) : ∀ xs : List Nat, (ic xs).take ((ic xs).findIdx (fun y => y == (i : Int))) = ic (xs.takeWhile (· != i))
  | [] => rfl
  | x :: xs => by
    show ((x : Int) :: ic xs).take (((x : Int) :: ic xs).findIdx _) = _
    rw [List.findIdx_cons]
    by_cases e : x = i
    · subst e
      rw [List.takeWhile_cons_of_neg (by simp)]
      simp [ic]
    · have : ((x : Int) == (i : Int)) = false := by simp; omega
      rw [this, List.takeWhile_cons_of_pos (by simp [e])]
      simp only [cond_false, List.take_succ_cons]
      rw [take_find i xs]
      rfl
theorem ic_filter (p : Int → Bool) (xs : List Nat) : (ic xs).filter p = ic (xs.filter fun x => p (x : Int)) := by
  unfold ic
  rw [List.filter_map]
  rfl
section
variable (ps : List (Option Int))
abbrev kN (m : Nat) : List Nat := (xsK (kOf ps) m).take (kOf ps m)
/-- behind whom somebody stopped -/
def refN (x : Nat) : Bool := (List.range ps.length).any fun m => decide ((kN ps m).getLast? = some x)
def lstN (j : Nat) : Int := (cK (kOf ps) ps.length j : Int)
theorem q_len : (queueF ps).length = ps.length := by rw [queue_own, xsK_len]
theorem q_mem {x : Nat} : x ∈ queueF ps ↔ x < ps.length := by rw [queue_own, xsK_mem]
theorem q_ord : isOrderI (ic (queueF ps)) = true := ord_ic (lin_perm ps ps.length).1
theorem ic_len (xs : List Nat) : (ic xs).length = xs.length := List.length_map ..
theorem least_q : leastF (ic (queueF ps)) = (List.range ps.length).map (lstN ps) := by
  unfold leastF
  rw [ic_len, q_len]
  refine List.map_congr_left fun j hj => ?_
  have hj := List.mem_range.mp hj
  unfold cntF lstN
  rw [take_find, ic_filter, ic_len, ← cnt_passed (kOf ps) _ j hj, queue_own]
  congr 2
  exact List.filter_congr fun z _ => by simp
theorem least_at {j : Nat} (hj : j < ps.length) : (leastF (ic (queueF ps))).getD j 0 = lstN ps j := by
  rw [least_q, List.getD_eq_getElem?_getD, List.getElem?_map, List.getElem?_range hj]
  rfl
theorem refu_q {i : Nat} (hi : i < ps.length) : refuF (ic (queueF ps)) i = (kN ps i).getLast?.map fun x : Nat => (x : Int) := by
  unfold refuF
  rw [take_find, ic_filter]
  have e : ((queueF ps).takeWhile (· != i)).filter (fun x : Nat => decide ((x : Int) < (i : Int))) = kN ps i := by
    rw [queue_own]
    refine Eq.trans ?_ (refu_xsK (kOf ps) ps.length i hi)
    exact List.filter_congr fun z _ => by simp
  rw [e]
  unfold ic
  rw [List.getLast?_map]
theorem refs_q {x : Nat} : inO (refsF (ic (queueF ps))) (x : Int) = refN ps x := by
  rw [Bool.eq_iff_iff]
  unfold inO refN refsF
  simp only [List.any_eq_true, List.mem_map, List.mem_range, decide_eq_true_eq]
  constructor
  · rintro ⟨o, ⟨z, hz, rfl⟩, e⟩
    obtain ⟨m, hm, rfl⟩ := List.mem_map.mp hz
    have hm := (q_mem ps).mp hm
    have e : refuF (ic (queueF ps)) m = some (x : Int) := e
    rw [refu_q ps hm] at e
    refine ⟨m, hm, ?_⟩
    obtain ⟨y, hy, e⟩ := Option.map_eq_some_iff.mp e
    rw [hy]
    congr 1
    omega
  · rintro ⟨m, hm, e⟩
    refine ⟨_, ⟨(m : Int), List.mem_map.mpr ⟨m, (q_mem ps).mpr hm, rfl⟩, rfl⟩, ?_⟩
    show refuF (ic (queueF ps)) m = _
    rw [refu_q ps hm, e]
    rfl
theorem q_nb : Nb (queueF ps) := by rw [queue_own]; exact (nb_xsK _ (own_stp ps _)).1
end
theorem fst_none {ys : List Nat} {n : Nat} (hp : ys.Perm (List.range n)) (hb : Nb ys) : Fst (plc (ic ys)) (ic ys).length none := fun y o b h1 h2 h3 h4 => by
  have hI := ord_ic hp
  rw [barB_in h3 h4]
  by_cases z : (plc (ic ys)).getD y 0 < (plc (ic ys)).getD o 0
  · by_cases z2 : (plc (ic ys)).getD o 0 < (plc (ic ys)).getD b 0
    · exfalso
      rw [plc_at h1, plc_at (by omega)] at z
      rw [plc_at (by omega), plc_at (by omega)] at z2
      obtain ⟨l1, e1, _⟩ := find_at hI h1
      obtain ⟨l2, e2, _⟩ := find_at hI (show o < (ic ys).length by omega)
      obtain ⟨l3, e3, _⟩ := find_at hI (show b < (ic ys).length by omega)
      generalize (ic ys).findIdx (fun x => x == (y : Int)) = iy at *
      generalize (ic ys).findIdx (fun x => x == (o : Int)) = io at *
      generalize (ic ys).findIdx (fun x => x == (b : Int)) = ib at *
      have lic : (ic ys).length = ys.length := List.length_map ..
      rw [lic] at l1 l2 l3
      have g : ∀ {i : Nat} (h : i < ys.length) {x : Nat} (h' : i < (ic ys).length), (ic ys)[i] = (x : Int) → ys[i] = x := fun {i} h {x} h' e => by
        have e2 : (ic ys)[i]? = some (x : Int) := by rw [List.getElem?_eq_getElem h', e]
        unfold ic at e2
        rw [List.getElem?_map, List.getElem?_eq_getElem h] at e2
        have e3 : ((ys[i] : Nat) : Int) = (x : Int) := Option.some.inj e2
        omega
      have s := sub3 (xs := ys) (show iy < io by omega) (show io < ib by omega) l1 l2 l3
      rw [g l1 _ e1, g l2 _ e2, g l3 _ e3] at s
      exact hb.at3 y o b s ⟨h3, h4⟩
    · rw [decide_eq_false z2, Bool.and_false]
  · rw [decide_eq_false z, Bool.false_and]
/-! ### the law's mathematics -/
section
variable {ps : List (Option Int)}
theorem q_fst : Fst (plc (ic (queueF ps))) (ic (queueF ps)).length none := fst_none (lin_perm ps ps.length).1 (q_nb ps)
/-- the least ones, as patiences -/
def lsP (ps : List (Option Int)) : List (Option Int) := (List.range ps.length).map fun j => some (lstN ps j)
theorem lsP_len : (lsP ps).length = ps.length := by unfold lsP; rw [List.length_map, List.length_range]
theorem lsP_at {j : Nat} (h : j < ps.length) : (lsP ps)[j]? = some (some (lstN ps j)) := by
  unfold lsP
  rw [List.getElem?_map, List.getElem?_range h]
  rfl
theorem lsP_q {j : Nat} (h : j < ps.length) : qOf (lsP ps) j = some (lstN ps j) := by
  unfold qOf
  rw [List.getD_eq_getElem?_getD, lsP_at h]
  rfl
theorem least_makes : queueF (lsP ps) = queueF ps := (queue_iff lsP_len).mpr (stp_min (own_stp ps _) fun j hj => lsP_q hj)
theorem least_le {j : Nat} {v : Int} (hv : qOf ps j = some v) (h0 : 0 ≤ v) : lstN ps j ≤ v := stp_least _ (own_stp ps _) j v hv h0
theorem least_nn (j : Nat) : 0 ≤ lstN ps j := Int.natCast_nonneg _
theorem lstN_le (j : Nat) : lstN ps j ≤ ps.length := by
  unfold lstN
  have : ∀ (ks : Nat → Nat) (n : Nat), cK ks n j ≤ n := by
    intro ks n
    induction n with
    | zero => exact Nat.le_refl _
    | succ n ih =>
      show _ + (if _ then 1 else 0) ≤ _
      split <;> omega
  have := this (kOf ps) ps.length
  omega
/-- one patience set to another -/
def setP (ps : List (Option Int)) (x : Nat) (v : Int) : List (Option Int) := (lsP ps).set x (some v)
theorem setP_len {x : Nat} {v : Int} : (setP ps x v).length = ps.length := by unfold setP; rw [List.length_set, lsP_len]
theorem setP_at {x : Nat} {v : Int} (h : x < ps.length) : qOf (setP ps x v) x = some v := by
  unfold qOf setP
  rw [List.getD_eq_getElem?_getD, List.getElem?_set_self (by rw [lsP_len]; exact h)]
  rfl
theorem setP_ne {x j : Nat} {v : Int} (h : j < ps.length) (ne : j ≠ x) : qOf (setP ps x v) j = some (lstN ps j) := by
  rw [← lsP_q h]
  unfold qOf setP
  rw [List.getD_eq_getElem?_getD, List.getD_eq_getElem?_getD, List.getElem?_set_ne (Ne.symm ne)]
theorem lesser_ne {x : Nat} (h : x < ps.length) (h0 : 0 < lstN ps x) : queueF (setP ps x (lstN ps x - 1)) ≠ queueF ps := fun e => by
  have := stp_least _ ((queue_iff setP_len).mp e) x _ (setP_at h) (by omega)
  have e2 : lstN ps x = (cK (kOf ps) ps.length x : Int) := rfl
  omega
theorem raised_iff {x : Nat} (h : x < ps.length) : queueF (setP ps x (lstN ps x + 1)) = queueF ps ↔ refN ps x = false := by
  rw [queue_iff setP_len]
  refine (stp_raise (own_stp ps _) h (fun j hj ne => setP_ne hj ne) (setP_at h)).trans ?_
  unfold refN
  rw [List.any_eq_false]
  simp only [List.mem_range, decide_eq_true_eq]
/-- who may have more -/
def freeN (ps : List (Option Int)) : List Nat := (List.range ps.length).filter fun x => !refN ps x
def dueN (ps : List (Option Int)) (most : Int) (xs : List Nat) : Int := xs.foldl (fun d x => d * (if most - lstN ps x + 1 > 0 then most - lstN ps x + 1 else 0)) 1
theorem due_snoc (most : Int) (xs : List Nat) (x : Nat) : dueN ps most (xs ++ [x]) = dueN ps most xs * (if most - lstN ps x + 1 > 0 then most - lstN ps x + 1 else 0) := by
  unfold dueN
  rw [List.foldl_append]
  rfl
theorem prod_due {most : Int} (h : ∀ j, j < ps.length → lstN ps j ≤ most) : ∀ n, n ≤ ps.length → prodF (ic (queueF ps)) most n = dueN ps most ((List.range n).filter fun x => !refN ps x)
  | 0, _ => rfl
  | n + 1, hn => by
    have ih := prod_due h n (by omega)
    show (if inO (refsF (ic (queueF ps))) (n : Int) then prodF (ic (queueF ps)) most n else prodF (ic (queueF ps)) most n * (most - (leastF (ic (queueF ps))).getD n 0 + 1)) = _
    rw [refs_q, ih, List.range_succ, List.filter_append]
    cases hr : refN ps n with
    | true =>
      rw [if_pos rfl, List.filter_cons_of_neg (by simp [hr]), List.filter_nil, List.append_nil]
    | false =>
      rw [if_neg (by simp), List.filter_cons_of_pos (by simp [hr]), List.filter_nil, due_snoc, least_at ps (by omega)]
      have := h n (by omega)
      rw [if_pos (by omega)]
def mostN (ps : List (Option Int)) : List Int := (List.range ps.length).map (lstN ps) ++ [0]
theorem rows_due {most M : Int} (h0 : 0 ≤ most) (hM : M ∈ mostN ps) (hle : ∀ y ∈ mostN ps, y ≤ M) : rowsF (ic (queueF ps)) most = if M > most then 0 else dueN ps most (freeN ps) := by
  have hb : anyBar (plc (ic (queueF ps))) (ic (queueF ps)).length = false := anyBar_no q_fst
  unfold rowsF
  rw [hb, if_neg (by simp), least_q]
  by_cases z : M > most
  · rw [if_pos z]
    by_cases hm : M = 0
    · omega
    · have : M ∈ (List.range ps.length).map (lstN ps) := by
        rcases List.mem_append.mp hM with y | y
        · exact y
        · exact absurd (List.mem_singleton.mp y) hm
      rw [if_pos (List.any_eq_true.mpr ⟨M, this, decide_eq_true z⟩)]
  · have hall : ∀ j, j < ps.length → lstN ps j ≤ most := fun j hj => by
      have := hle (lstN ps j) (List.mem_append_left _ (List.mem_map.mpr ⟨j, List.mem_range.mpr hj, rfl⟩))
      omega
    rw [if_neg z, if_neg, ic_len, q_len, prod_due hall _ (Nat.le_refl _)]
    · rfl
    · rw [Bool.not_eq_true, List.any_eq_false]
      intro y hy
      obtain ⟨j, hj, rfl⟩ := List.mem_map.mp hy
      have := hall j (List.mem_range.mp hj)
      simp
      omega
/-- with one more to come -/
theorem later_q (p : Option Int) : (queueF (ps ++ [p])).filter (fun x => decide (x < ps.length)) = queueF ps := by
  rw [queue_own, filt_xsK _ _ _ (by rw [List.length_append]; omega), queue_own]
  have hq : ∀ n, n ≤ ps.length → lin (ps ++ [p]) n = lin ps n := by
    intro n
    induction n with
    | zero => intro _; rfl
    | succ n ih =>
      intro hn
      show put (lin (ps ++ [p]) n) n ((ps ++ [p]).getD n none) = put (lin ps n) n (ps.getD n none)
      rw [ih (by omega), List.getD_eq_getElem?_getD, List.getElem?_append_left (by omega), ← List.getD_eq_getElem?_getD]
  exact (xsK_congr ps.length fun m hm => by unfold kOf; rw [hq m (by omega)]).1
end
end CL
set_option Elab.async false
set_option linter.all false
set_option pp.maxSteps 900
set_option maxRecDepth 100000
set_option maxHeartbeats 4000000
namespace CL
open PySem PySem.Spec PyProof.Rows L2 GE
abbrev sPatL : Stmt := topS 25
abbrev sRaised : Stmt := topS 27
abbrev nRaised : List Str := ["least", "order", "found", "person", "more"]
theorem scPatL : FnScope ["bag", "most"] ["bag", "most"] (defScope sPatL) := ⟨rfl, rfl, rfl, by decide +kernel, rfl, by decide +kernel, by decide +kernel⟩
theorem scRaised : FnScope nRaised ["least", "order"] (defScope sRaised) := ⟨rfl, rfl, rfl, by decide +kernel, rfl, by decide +kernel, by decide +kernel⟩
def spPatL (r : Bg) : Sp := fun vs H Q _ => ∃ m n : Nat, vs = [.ref r.a, .int (m : Int)] ∧ BagAt n H r ∧ n + 4 ≤ M60 ∧ m ≤ 60 ∧ ∀ o H', BagAt (n + 4) H' r → Mv r H H' → (∀ v, o = some v → 0 ≤ v) → Q (optV o) H'
/-! ### lists of numbers compared -/
theorem ints_layS : ∀ gs : List Int, PyData.canLayAll0 (gs.map PyData.int) = true
  | [] => rfl
  | g :: gs => by
    have := ints_layS gs
    simp [PyData.canLayAll0, PyData.canLay0, this]
theorem ints_depthS : ∀ gs : List Int, PyData.depthAll (gs.map PyData.int) = 0
  | [] => rfl
  | g :: gs => by
    have := ints_depthS gs
    simp [PyData.depthAll, PyData.depth, this]
theorem ints_shapedS (gs : List Int) : SeqAt.shaped (.list (gs.map PyData.int)) = true := by
  unfold SeqAt.shaped
  simp [PyData.canLay0, PyData.depth, ints_layS, ints_depthS]
theorem ints_dpS {K : PySem.W.Frag} {H : Hp} : ∀ as : List Int, DpAll K H (as.map V.int) (as.map PyData.int)
  | [] => .nil
  | a :: as => .cons (.int a) (ints_dpS as)
theorem ints_eqv : ∀ as bs : List Int, PyData.eqvAll (as.map PyData.int) (bs.map PyData.int) = decide (as = bs)
  | [], [] => by simp [PyData.eqvAll]
  | [], b :: bs => by simp [PyData.eqvAll]
  | a :: as, [] => by simp [PyData.eqvAll]
  | a :: as, b :: bs => by
    have ih := ints_eqv as bs
    by_cases e : a = b
    · subst e
      simp [PyData.eqvAll, PyData.eqv, ih]
    · simp [PyData.eqvAll, PyData.eqv, ih, e]
theorem eqv_lists (as bs : List Int) : PyData.eqv (.list (as.map PyData.int)) (.list (bs.map PyData.int)) = decide (as = bs) := by
  have := ints_eqv as bs
  simpa [PyData.eqv] using this
theorem ic_inj {xs ys : List Nat} : ic xs = ic ys ↔ xs = ys := ⟨fun e => (List.map_inj_right fun a b h => by omega).mp e, fun e => by rw [e]⟩
/-- two lists of people are compared -/
theorem eq_ppl {K : PySem.W.Frag} {H : Hp} {a b : Addr} {xs ys : List Nat} {Q : VK} (ha : H a = some (.lst (ppl xs))) (hb : H b = some (.lst (ppl ys))) (q : Q (.bl (decide (xs = ys))) H) : rEqD K (.ref a) (.ref b) H Q := by
  rw [ppl_ic] at ha hb
  refine ⟨_, _, .lst (SqL.of ha) (ints_dpS _), .lst (SqL.of hb) (ints_dpS _), ints_shapedS _, ints_shapedS _, ?_⟩
  rw [eqv_lists, decide_eq_decide.mpr ic_inj]
  exact q
theorem ne_ppl {K : PySem.W.Frag} {H : Hp} {a b : Addr} {xs ys : List Nat} {Q : VK} (ha : H a = some (.lst (ppl xs))) (hb : H b = some (.lst (ppl ys))) (q : Q (.bl (!decide (xs = ys))) H) : rNeD K (.ref a) (.ref b) H Q := by
  rw [ppl_ic] at ha hb
  refine ⟨_, _, .lst (SqL.of ha) (ints_dpS _), .lst (SqL.of hb) (ints_dpS _), ints_shapedS _, ints_shapedS _, ?_⟩
  rw [eqv_lists, decide_eq_decide.mpr ic_inj]
  exact q
/-- a list with one of its numbers put otherwise -/
theorem h_set {K : PySem.W.Frag} {σ : L2.St} {H : Hp} {Q : VK} {L : Addr} {ls : List Int} {i j k : Nat} {v : Int} {te : TE} (hi : σ[i]? = some (some (.ref L))) (hj : σ[j]? = some (some (.int (k : Int)))) (eL : H L = some (.lst (ls.map V.int))) (hk : k < ls.length) (hl : ls.length ≤ 60)
    (hte : ∀ H' Q', H' L = some (.lst (ls.map V.int)) → Q' (.int v) H' → te σ H' Q') (q : ∀ p H', Same H H' → H p = none → H' p = some (.lst ((ls.set k v).map V.int)) → Q (.ref p) H') :
    tOp rCat (tOp rCat (tSl (rSlL K) (tVar i) tNoPart (tPart (tVar j))) (tLst (tCons te tNil))) (tSl (rSlL K) (tVar i) (tPart (tOp (rI0 fun i j => .int (i + j)) (tVar j) (tC (.int 1)))) tNoPart) σ H Q := by
  have lm : (ls.map V.int).length = ls.length := List.length_map ..
  refine ⟨.ref L, hi, .int (k : Int), hj, (k : Int), rfl, L, _, rfl, SqL.of eL, fun p1 n1 => ?_⟩
  rw [cut_to]
  have s1 : Same H (upd H p1 (.lst ((ls.map V.int).take k))) := same_upd n1
  have e1 : (upd H p1 (.lst ((ls.map V.int).take k))) p1 = some (.lst ((ls.map V.int).take k)) := upd_same
  generalize upd H p1 (.lst ((ls.map V.int).take k)) = H1 at s1 e1 ⊢
  refine hte H1 _ (s1 _ _ eL) ⟨small_le (by show 1 ≤ 1000; decide), fun p2 n2 => ?_⟩
  have s2 : Same H1 (upd H1 p2 (.lst [.int v])) := same_upd n2
  have e2 : (upd H1 p2 (.lst [.int v])) p2 = some (.lst [.int v]) := upd_same
  have e21 := s2 _ _ e1
  generalize upd H1 p2 (.lst [.int v]) = H2 at s2 e2 e21 ⊢
  refine ⟨p1, p2, _, _, rfl, rfl, e21, e2, small_add (by rw [List.length_take]; omega) (by show 1 ≤ 1000; decide), fun p3 n3 => ?_⟩
  have s3 : Same H2 (upd H2 p3 (.lst ((ls.map V.int).take k ++ [.int v]))) := same_upd n3
  have e3 : (upd H2 p3 (.lst ((ls.map V.int).take k ++ [.int v]))) p3 = some (.lst ((ls.map V.int).take k ++ [.int v])) := upd_same
  generalize upd H2 p3 (.lst ((ls.map V.int).take k ++ [.int v])) = H3 at s3 e3 ⊢
  have s03 := (s1.trans s2).trans s3
  refine ⟨.ref L, hi, .int (k : Int), hj, (k : Int), 1, rfl, rfl, (k : Int) + 1, rfl, L, _, rfl, SqL.of (s03 _ _ eL), fun p4 n4 => ?_⟩
  rw [show ((k : Int) + 1) = ((k + 1 : Nat) : Int) by omega, cut_from]
  have s4 : Same H3 (upd H3 p4 (.lst ((ls.map V.int).drop (k + 1)))) := same_upd n4
  have e4 : (upd H3 p4 (.lst ((ls.map V.int).drop (k + 1)))) p4 = some (.lst ((ls.map V.int).drop (k + 1))) := upd_same
  have e43 := s4 _ _ e3
  generalize upd H3 p4 (.lst ((ls.map V.int).drop (k + 1))) = H4 at s4 e4 e43 ⊢
  refine ⟨p3, p4, _, _, rfl, rfl, e43, e4, small_add (by rw [List.length_append, List.length_take]; show _ + 1 ≤ _; omega) (by rw [List.length_drop]; omega), fun p5 n5 => ?_⟩
  refine q p5 _ ((s03.trans s4).trans (same_upd n5)) ((s03.trans s4).free n5) ?_
  rw [upd_same, List.map_set, List.set_eq_take_append_cons_drop, if_pos (by omega), List.append_assoc]
  rfl
theorem lsI_eq (ps : List (Option Int)) : ((List.range ps.length).map (lstN ps)).map V.int = (lsP ps).map optV := by
  unfold lsP
  rw [List.map_map, List.map_map]
  rfl
theorem setI_eq (ps : List (Option Int)) (x : Nat) (v : Int) : (((List.range ps.length).map (lstN ps)).set x v).map V.int = (setP ps x v).map optV := by
  unfold setP
  rw [List.map_set, List.map_set, lsI_eq]
  rfl
theorem lsI_len (ps : List (Option Int)) : ((List.range ps.length).map (lstN ps)).length = ps.length := by rw [List.length_map, List.length_range]
theorem lsI_at {ps : List (Option Int)} {j : Nat} (h : j < ps.length) : (((List.range ps.length).map (lstN ps)).map V.int)[j]? = some (.int (lstN ps j)) := by
  rw [List.getElem?_map, List.getElem?_map, List.getElem?_range h]
  rfl
def spRaised : Sp := fun vs H Q _ => ∃ (L T : Addr) (ps : List (Option Int)), vs = [.ref L, .ref T] ∧ H L = some (.lst (((List.range ps.length).map (lstN ps)).map V.int)) ∧ H T = some (.lst (ppl (queueF ps))) ∧ ps.length ≤ 60 ∧ ∀ p H', Same H H' → H p = none → H' p = some (.lst (ppl (freeN ps))) → Q (.ref p) H'
section
variable {P : Program} {w : World} {K : PySem.W.Frag} {mg : Str → Option Value} {base : Heap}
theorem ok_patL {f : Addr} {r : Bg} {fd : FuncData} (F : Fun K "_law_patience" "_law_patience" sPatL f fd) (CD : Cal P w K mg base 2 "_law_draw" ["bag", "many"] (spDraw r)) : FnOk P w K mg base CX0 3 f fd ["bag", "most"] (spPatL r) := by
  refine F.ok scPatL (fun vs H Q E ⟨m, n, e, _⟩ => by rw [e]; rfl) (fun cdv A outer s H vs Q E hr h => ?_)
  obtain ⟨m, n, rfl, hb, hn, hm, q⟩ := h
  refine ⟨_, pss_one (ps_ret (pe_ix ix_list (pe_lst (pa_cons (pe_cal CD hr (by rfl) (pa_cons (pv 0) (pa_cons pe_int pa_nil))) (pa_cons (pe_cal CD hr (by rfl) (pa_cons (pv 0) (pa_cons pe_int pa_nil))) (pa_cons (pe_cal CD hr (by rfl) (pa_cons (pv 0) (pa_cons (pe_op op_add (pv 1) pe_int) pa_nil))) (pa_cons pe_non pa_nil))))) (pe_cal CD hr (by rfl) (pa_cons (pv 0) (pa_cons pe_int pa_nil))) (fun _ _ => rfl))), ?_⟩
  have t140 : (2 : Int) ^ 140 = 1393796574908163946345982392040522594123776 := by decide +kernel
  refine ⟨.ref r.a, rfl, 3, n, rfl, hb, by omega, by decide, by decide, fun x1 H1 b1 v1 a1 c1 => ?_⟩
  refine ⟨.ref r.a, rfl, 3, n + 1, rfl, b1, by omega, by decide, by decide, fun x2 H2 b2 v2 a2 c2 => ?_⟩
  refine ⟨.ref r.a, rfl, .int m, rfl, m, 1, rfl, rfl, m + 1, n + 2, rfl, b2, by omega, by omega, by rw [t140]; omega, fun x3 H3 b3 v3 a3 c3 => ?_⟩
  refine ⟨small_le (by show 4 ≤ 1000; decide), fun p np => ?_⟩
  have s4 : Same H3 (upd H3 p (.lst [.int x1, .int x2, .int x3, .non])) := same_upd np
  have e4 : (upd H3 p (.lst [.int x1, .int x2, .int x3, .non])) p = some (.lst ([some x1, some x2, some x3, none].map optV)) := upd_same
  have npr := b3.new np
  generalize upd H3 p (.lst [.int x1, .int x2, .int x3, .non]) = H4 at s4 e4
  refine ⟨.ref r.a, rfl, 4, n + 3, rfl, b3.same s4, by omega, by decide, by decide, fun x5 H5 b5 v5 a5 c5 => ?_⟩
  obtain ⟨j, rfl⟩ : ∃ j : Nat, x5 = (j : Int) := ⟨x5.toNat, by omega⟩
  have hj : j < [some x1, some x2, some x3, none].length := by show j < 4; omega
  exact ⟨p, _, j, optV [some x1, some x2, some x3, none][j], rfl, rfl, SqL.of (v5.keep p _ npr.a e4), atI_nat (by rw [List.getElem?_map, List.getElem?_eq_getElem hj]; rfl), q _ H5 b5 ((v1.trans v2).trans (v3.trans ((Mv.of s4).trans v5))) (by
    have hj4 : j < 4 := hj
    rcases (show j = 0 ∨ j = 1 ∨ j = 2 ∨ j = 3 by omega) with rfl | rfl | rfl | rfl <;> intro v hv <;> cases hv <;> assumption)⟩
theorem ok_raised {f : Addr} {fd : FuncData} (F : Fun K "_law_raised" "_law_raised" sRaised f fd) (T : Nm mg) (CQ : Cal P w K mg base 2 "_law_queue" ["patiences"] spQueue) : FnOk P w K mg base CX0 3 f fd ["least", "order"] spRaised := by
  refine F.ok scRaised (fun vs H Q E ⟨L, T, ps, e, _⟩ => by rw [e]; rfl) (fun cdv A outer s H vs Q E hr h => ?_)
  obtain ⟨L, O, ps, rfl, eL, eO, hl, q⟩ := h
  have nd := scRaised.nd
  refine ⟨_, (pss_cons (ps_set (i := 2) nd rfl (.inl rfl) (pe_lst pa_nil))
      (pss_cons (ps_for PassesOwn.never rfl (pi_range1 (by rfl) T.range (pa_cons (pe_callB call_len_seq (by rfl) T.len PySem.boot_len (pa_cons (pv 0) pa_nil)) pa_nil)) (pg_name (i := 3) nd rfl (.inl rfl)) (pss_cons (ps_set (i := 4) nd rfl (.inl rfl) (pe_op op_cat (pe_op op_cat (pe_slice sl_list (pv 0) po_none (po_some (pv 3))) (pe_lst (pa_cons (pe_op op_add (pe_ix ix_list (pv 0) (pv 3) (fun _ _ => rfl)) pe_int) pa_nil))) (pe_slice sl_list (pv 0) (po_some (pe_op op_add (pv 3) pe_int)) po_none)))
      (pss_one (ps_if (pt_cmpR (op_eqD hr.units) (pe_cal (CQ.mono (by decide)) hr (by rfl) (pa_cons (pv 4) pa_nil)) (pv 1) (nomark _)) (pss_one (ps_expr (pe_bm PySem.F.plainAttrs_list PySem.F.slot_list_append PySem.F.type_list_append mt_append (pv 2) (pa_cons (pv 3) pa_nil)))) pss_nil))))
      (pss_one (ps_ret (pv 2)))))
, ?_⟩
  refine ⟨Nat.zero_le _, fun D nD => ?_⟩
  have s1 : Same H (upd H D (.lst [])) := same_upd nD
  have e1 : (upd H D (.lst [])) D = some (.lst []) := upd_same
  generalize upd H D (.lst []) = H1 at s1 e1 ⊢
  dsimp only [gName]
  show tSeq _ _ _ [some (.ref L), some (.ref O), some (.ref D), none, none] H1
  have hlen := lsI_len ps
  refine ⟨.ref L, rfl, L, _, rfl, .inl (SqL.of (s1 _ _ eL)), _, rfl, by rw [List.length_map, hlen]; omega, by rw [List.length_map, hlen]; omega, ?_⟩
  rw [List.length_map, hlen]
  have fil : ∀ i : Nat, i ≤ ps.length → ((List.range i).filter fun x => !refN ps x).length ≤ i := fun i _ => Nat.le_trans (List.length_filter_le _ _) (by rw [List.length_range]; exact Nat.le_refl _)
  refine for_range (lo := 0) (n := ((ps.length : Int)).toNat) (fun i σ H3 => ∃ y3 y4, σ = [some (.ref L), some (.ref O), some (.ref D), y3, y4] ∧ (∀ b o, H b = some o → H3 b = some o) ∧ H3 D = some (.lst (ppl ((List.range i).filter fun x => !refN ps x))))
    ⟨none, none, rfl, s1, e1⟩ (fun i σ H3 hi hP => ?_) (fun σ H3 hP => ?_)
  · obtain ⟨y3, y4, rfl, s3, e3⟩ := hP
    have hi' : i < ps.length := by omega
    dsimp only [gName]
    show tSeq _ _ _ [some (.ref L), some (.ref O), some (.ref D), some (.int (0 + (i : Int))), y4] H3
    rw [show (0 + (i : Int)) = (i : Int) by omega]
    refine h_set (i := 0) (j := 3) (K := K) (ls := (List.range ps.length).map (lstN ps)) (k := i) (v := lstN ps i + 1) rfl rfl (s3 _ _ eL) (by rw [hlen]; exact hi') (by rw [hlen]; exact hl) (fun H' Q' e' q' => ?_) (fun M H4 s4 nM eM => ?_)
    · exact ⟨.ref L, rfl, .int (i : Int), rfl, L, _, i, _, rfl, rfl, SqL.of e', atI_nat (lsI_at hi'), lstN ps i, 1, rfl, rfl, q'⟩
    rw [setI_eq] at eM
    have eO4 := s4 _ _ (s3 _ _ eO)
    dsimp only [gName]
    show tIfS _ _ _ _ [some (.ref L), some (.ref O), some (.ref D), some (.int (i : Int)), some (.ref M)] H4
    refine ⟨.ref M, rfl, M, setP ps i (lstN ps i + 1), rfl, eM, by rw [setP_len]; omega, fun T' H5 s5 eT nT => ?_⟩
    refine ⟨.ref O, rfl, ?_⟩
    refine eq_ppl eT (s5 _ _ eO4) ?_
    have s35 : Same H3 H5 := s4.trans s5
    have e5 := s35 _ _ e3
    have st5 : ∀ b o, H b = some o → H5 b = some o := fun b o e => s35 _ _ (s3 b o e)
    have hfl := fil i (by omega)
    refine ⟨_, rfl, ?_⟩
    cases hr : refN ps i with
    | false =>
      rw [decide_eq_true ((raised_iff hi').mpr hr)]
      rw [if_pos (by decide)]
      refine ⟨.ref D, rfl, .inl ⟨rfl, _, SqL.of e5⟩, .int (i : Int), rfl, D, _, .int (i : Int), rfl, rfl, e5, small1000 (by rw [ppl_len]; omega), _, _, rfl, fun b o e => ?_, ?_⟩
      · rw [upd_ne fun z => by rw [z, nD] at e; cases e]
        exact st5 b o e
      · rw [upd_same, List.range_succ, List.filter_append, List.filter_cons_of_pos (by simp [hr]), List.filter_nil]
        unfold ppl
        rw [List.map_append]
        rfl
    | true =>
      rw [decide_eq_false fun z => by rw [(raised_iff hi').mp z] at hr; cases hr]
      rw [if_neg (by decide)]
      refine ⟨_, _, rfl, st5, ?_⟩
      rw [List.range_succ, List.filter_append, List.filter_cons_of_neg (by simp [hr]), List.filter_nil, List.append_nil]
      exact e5
  · obtain ⟨y3, y4, rfl, s3, e3⟩ := hP
    exact ⟨.ref D, rfl, q D H3 s3 nD e3⟩
end
end CL
set_option Elab.async false
set_option linter.all false
set_option pp.maxSteps 900
set_option maxRecDepth 100000
set_option maxHeartbeats 4000000
namespace CL
open PySem PySem.Spec PyProof.Rows L2 GE
abbrev sRight : Stmt := topS 28
abbrev nRight : List Str := ["bag", "patiences", "order", "least", "person", "patience", "lesser", "free", "most", "due", "later"]
theorem scRight : FnScope nRight ["bag", "patiences"] (defScope sRight) := ⟨rfl, rfl, rfl, by decide +kernel, rfl, by decide +kernel, by decide +kernel⟩
def spRight (P1 : Addr) (r : Bg) : Sp := fun vs H Q _ => ∃ (A : Addr) (ps : List (Option Int)) (n : Nat), vs = [.ref r.a, .ref A] ∧ H A = some (.lst (ps.map optV)) ∧ A ≠ r.a ∧ BagAt n H r ∧ n + 7 ≤ M60 ∧ ps.length ≤ 60 ∧ (∀ j v, qOf ps j = some v → 0 ≤ v) ∧ GxR.TabG H P1 ∧
  ∀ H', BagAt (n + 7) H' r → GxR.TabG H' P1 → Q (.bl true) H'
theorem seqP {A B : TS} {D : Ends} {σ : L2.St} {H : Hp} (R : L2.St → Hp → Prop) (hB : ∀ σ' H', R σ' H' → B D σ' H') (hA : ∀ nx : L2.St → Hp → Prop, (∀ σ' H', R σ' H' → nx σ' H') → A { D with nx := nx } σ H) : tSeq A B D σ H := hA (B D) hB
/-! ### what stays -/
structure Fx (r : Bg) (P1 : Addr) (G : List (Addr × List V)) (n : Nat) (H : Hp) : Prop where
  bag : BagAt n H r
  tab : GxR.TabG H P1
  at_ : ∀ p ∈ G, p.1 ≠ r.a ∧ H p.1 = some (.lst p.2)
section
variable {r : Bg} {P1 : Addr} {G : List (Addr × List V)} {n m : Nat} {H H' : Hp}
theorem Fx.mv (f : Fx r P1 G n H) (b : BagAt m H' r) (v : Mv r H H') : Fx r P1 G m H' := ⟨b, tabG_mv f.tab f.bag v, fun p hp => ⟨(f.at_ p hp).1, v.keep _ _ (f.at_ p hp).1 (f.at_ p hp).2⟩⟩
theorem Fx.ex (f : Fx r P1 G n H) (x : Ex H H') (t : GxR.TabG H' P1) : Fx r P1 G n H' := ⟨f.bag.kx x, t, fun p hp => ⟨(f.at_ p hp).1, x.lst (f.at_ p hp).2⟩⟩
theorem Fx.same (f : Fx r P1 G n H) (s : Same H H') : Fx r P1 G n H' := f.ex (Ex.of s) (tabG_same s f.tab)
theorem Fx.push (f : Fx r P1 G n H) {a : Addr} {xs : List V} (ha : a ≠ r.a) (e : H a = some (.lst xs)) : Fx r P1 ((a, xs) :: G) n H := ⟨f.bag, f.tab, fun p hp => by
  rcases List.mem_cons.mp hp with rfl | hp
  · exact ⟨ha, e⟩
  · exact f.at_ p hp⟩
theorem Fx.le (f : Fx r P1 G n H) (h : n ≤ m) : Fx r P1 G m H := ⟨f.bag.mono h, f.tab, f.at_⟩
theorem Fx.get (f : Fx r P1 G n H) {a : Addr} {xs : List V} (h : (a, xs) ∈ G) : H a = some (.lst xs) := (f.at_ _ h).2
end
theorem most_ne (ps : List (Option Int)) : 0 < (mostN ps).length := by unfold mostN; rw [List.length_append]; show 0 < _ + 1; omega
theorem most_bd {ps : List (Option Int)} {M : Int} (h : M ∈ mostN ps) : 0 ≤ M ∧ M ≤ ps.length := by
  rcases List.mem_append.mp h with h | h
  · obtain ⟨j, _, rfl⟩ := List.mem_map.mp h
    exact ⟨least_nn j, lstN_le j⟩
  · rw [List.mem_singleton.mp h]
    exact ⟨Int.le_refl _, by omega⟩
/-- the greatest of the least ones and nought -/
theorem h_max {K : PySem.W.Frag} {σ : L2.St} {H : Hp} {Q : VK} {L : Addr} {ps : List (Option Int)} (hi : σ[3]? = some (some (.ref L))) (eL : H L = some (.lst (((List.range ps.length).map (lstN ps)).map V.int))) (hl : ps.length ≤ 60)
    (q : ∀ M H', Same H H' → M ∈ mostN ps → (∀ y ∈ mostN ps, y ≤ M) → Q (.int M) H') : tCB (rMax K) (tCons (tOp rCat (tVar 3) (tLst (tCons (tC (.int 0)) tNil))) tNil) σ H Q := by
  refine ⟨.ref L, hi, small_le (by show 1 ≤ 1000; decide), fun p np => ?_⟩
  have s1 : Same H (upd H p (.lst [.int 0])) := same_upd np
  refine ⟨L, p, _, _, rfl, rfl, s1 _ _ eL, upd_same, small_add (by rw [List.length_map, lsI_len]; omega) (by show 1 ≤ 1000; decide), fun p2 np2 => ?_⟩
  refine ⟨p2, mostN ps, rfl, SqL.of (by rw [upd_same]; unfold mostN; rw [List.map_append]; rfl), most_ne ps, fun M hM hle => q M _ (s1.trans (same_upd np2)) hM hle⟩
section
variable {P : Program} {w : World} {K : PySem.W.Frag} {mg : Str → Option Value} {base : Heap}
theorem ok_right {f P1 : Addr} {r : Bg} {fd : FuncData} (F : Fun K "_law_right" "_law_right" sRight f fd) (T : Nm mg) (hmax : mg "max" = none) (CQ : Cal P w K mg base 2 "_law_queue" ["patiences"] spQueue) (CH : Cal P w K mg base 3 "_law_handed" ["bag", "thing"] (spE spHand))
    (CL : Cal P w K mg base 7 "least_patiences" ["order"] (spLeast P1)) (CBa : Cal P w K mg base 6 "barring" ["order"] (spBarring P1)) (CRa : Cal P w K mg base 3 "_law_raised" ["least", "order"] spRaised) (CD : Cal P w K mg base 2 "_law_draw" ["bag", "many"] (spDraw r))
    (CRC : Cal P w K mg base 8 "rows_counted" ["order", "most"] (spRowsC P1)) (CP : Cal P w K mg base 3 "_law_patience" ["bag", "most"] (spPatL r)) : FnOk P w K mg base CX0 9 f fd ["bag", "patiences"] (spRight P1 r) := by
  refine F.ok scRight (fun vs H Q E ⟨A, ps, n, e, _⟩ => by rw [e]; rfl) (fun cdv A' outer s H vs Q E hr h => ?_)
  obtain ⟨A, ps, n, rfl, eA, nA, hb, hn, hl, hv, hT, q⟩ := h
  have nd := scRight.nd
  refine ⟨_, (pss_cons (ps_set (i := 2) nd rfl (.inl rfl) (pe_cal (CQ.mono (by decide)) hr (by rfl) (pa_cons (pv 1) pa_nil)))
      (pss_cons (ps_set (i := 3) nd rfl (.inl rfl) (pe_cal (CL.mono (by decide)) hr (by rfl) (pa_cons (pe_cal (CH.mono (by decide)) hr (by rfl) (pa_cons (pv 0) (pa_cons (pv 2) pa_nil))) pa_nil)))
      (pss_cons (ps_if (PW.pt (pw_or (pt_cmp (pc_notN (pe_cal (CBa.mono (by decide)) hr (by rfl) (pa_cons (pv 2) pa_nil)))) (pw_or (pt_cmp (pc_isN (pv 3))) (pw_or1 (pt_cmpR (op_neD hr.units) (pe_cal (CQ.mono (by decide)) hr (by rfl) (pa_cons (pv 3) pa_nil)) (pv 2) (nomark _)))))) (pss_one (ps_ret pe_bl)) pss_nil)
      (pss_cons (ps_for PassesOwn.never rfl (pi_enum (by rfl) T.enum (pa_cons (pv 1) pa_nil)) (pg_tup rfl (pgs_cons (pg_name (i := 4) nd rfl (.inl rfl)) (pgs_cons (pg_name (i := 5) nd rfl (.inl rfl)) pgs_nil))) (pss_cons (ps_if (PW.pt (pw_and (pt_cmp (pc_notN (pv 5))) (pw_and1 (pt_cmpR op_gt (pe_ix ix_list (pv 3) (pv 4) (fun _ _ => rfl)) (pv 5) (nomark _))))) (pss_one (ps_ret pe_bl)) pss_nil)
      (pss_one (ps_if (pt_cmpR op_gt (pe_ix ix_list (pv 3) (pv 4) (fun _ _ => rfl)) pe_int (nomark _)) (pss_cons (ps_set (i := 6) nd rfl (.inl rfl) (pe_op op_cat (pe_op op_cat (pe_slice sl_list (pv 3) po_none (po_some (pv 4))) (pe_lst (pa_cons (pe_op op_sub (pe_ix ix_list (pv 3) (pv 4) (fun _ _ => rfl)) pe_int) pa_nil))) (pe_slice sl_list (pv 3) (po_some (pe_op op_add (pv 4) pe_int)) po_none)))
      (pss_one (ps_if (pt_cmpR (op_eqD hr.units) (pe_cal (CQ.mono (by decide)) hr (by rfl) (pa_cons (pv 6) pa_nil)) (pv 2) (nomark _)) (pss_one (ps_ret pe_bl)) pss_nil))) pss_nil))))
      (pss_cons (ps_set (i := 7) nd rfl (.inl rfl) (pe_cal (CRa.mono (by decide)) hr (by rfl) (pa_cons (pv 3) (pa_cons (pv 2) pa_nil))))
      (pss_cons (ps_for PassesOwn.never rfl (pi_list (pe_lst (pa_cons (pe_cal (CD.mono (by decide)) hr (by rfl) (pa_cons (pv 0) (pa_cons pe_int pa_nil))) (pa_cons pe_int (pa_cons (pe_cal (CD.mono (by decide)) hr (by rfl) (pa_cons (pv 0) (pa_cons (pe_op op_pow pe_int pe_int) pa_nil))) (pa_cons (pe_op op_pow pe_int pe_int) (pa_cons (pe_callB (cr_max rfl) (by rfl) hmax (by decide +kernel) (pa_cons (pe_op op_cat (pv 3) (pe_lst (pa_cons pe_int pa_nil))) pa_nil)) pa_nil))))))) (pg_name (i := 8) nd rfl (.inl rfl)) (pss_cons (ps_set (i := 9) nd rfl (.inl rfl) pe_int)
      (pss_cons (ps_for PassesOwn.never rfl (pi_list (pv 7)) (pg_name (i := 4) nd rfl (.inl rfl)) (pss_one (ps_set (i := 9) nd rfl (.inl rfl) (pe_op op_mul (pv 9) (pe_callB (call_max2 rfl) (by rfl) hmax (by decide +kernel) (pa_cons pe_int (pa_cons (pe_op op_add (pe_op op_sub (pv 8) (pe_ix ix_list (pv 3) (pv 4) (fun _ _ => rfl))) pe_int) pa_nil)))))))
      (pss_cons (ps_if (pt_cmpR op_gt (pe_callB (cr_max rfl) (by rfl) hmax (by decide +kernel) (pa_cons (pe_op op_cat (pv 3) (pe_lst (pa_cons pe_int pa_nil))) pa_nil)) (pv 8) (nomark _)) (pss_one (ps_set (i := 9) nd rfl (.inl rfl) pe_int)) pss_nil)
      (pss_one (ps_if (pt_cmpR op_ne (pe_cal (CRC.mono (by decide)) hr (by rfl) (pa_cons (pv 2) (pa_cons (pv 8) pa_nil))) (pv 9) (nomark _)) (pss_one (ps_ret pe_bl)) pss_nil))))))
      (pss_cons (ps_set (i := 10) nd rfl (.inl rfl) (pe_cal (CQ.mono (by decide)) hr (by rfl) (pa_cons (pe_op op_cat (pv 1) (pe_lst (pa_cons (pe_cal (CP.mono (by decide)) hr (by rfl) (pa_cons (pv 0) (pa_cons pe_int pa_nil))) pa_nil))) pa_nil)))
      (pss_one (ps_ret (pe_cmpR (op_eqD hr.units) (pe_lc (own := [("person", 4)]) (g := (gName 4)) rfl nd (pi_list (pv 10)) (blkOk_by (own := [("person", 4)]) (N := nRight) (sc := (defScope sRight)) (by decide +kernel)) (fun _ _ _ _ _ => (pg_name (i := 4) nd rfl (.inl rfl))) (fun _ _ _ _ _ => pts_one (pt_cmpR op_lt (pv 4) (pe_callB len_blk (by rfl) T.len PySem.boot_len (pa_cons (pv 1) pa_nil)) (nomark _))) (fun _ _ _ _ _ => (pv 4))) (pv 2) (nomark _)))))))))))
, ?_⟩
  have t140 : (2 : Int) ^ 140 = 1393796574908163946345982392040522594123776 := by decide +kernel
  have hord := q_ord ps
  have hoL : (ic (queueF ps)).length ≤ 60 := by rw [ic_len, q_len]; exact hl
  have F0 : Fx r P1 [(A, ps.map optV)] n H := ⟨hb, hT, fun p hp => by rw [List.mem_singleton.mp hp]; exact ⟨nA, eA⟩⟩
  refine ⟨.ref A, rfl, A, ps, rfl, eA, by omega, fun T H1 s1 eT nT => ?_⟩
  have F1 := (F0.same s1).push (hb.new nT).a eT
  clear s1 F0
  dsimp only [gName]
  show tSeq _ _ _ [some (.ref r.a), some (.ref A), some (.ref T), none, none, none, none, none, none, none, none] H1
  have nTr := (hb.new nT).a
  have eTi : H1 T = some (.lst ((ic (queueF ps)).map V.int)) := by rw [← ppl_ic]; exact eT
  refine ⟨.ref r.a, rfl, .ref T, rfl, r, .ref T, intsD (ic (queueF ps)), n, (fun b => b = r.a), rfl, by omega, F1.bag, ⟨rfl, fun b hb => by rw [hb]; exact F1.bag.some⟩, .lst (by rw [Hw.at (W := fun b => b = r.a) nTr]; exact eTi) (rp_intsA _), fun v' d' H2 b2 m2 rp2 hd => ?_⟩
  have F2 := F1.mv b2 m2
  clear F1 m2 b2
  have oV : OrdV H2 v' (ic (queueF ps)) := by
    rcases hd with rfl | rfl
    · exact .inl (Rp.sm (Hw.sub _ _) rp2)
    · exact .inr (Rp.sm (Hw.sub _ _) rp2)
  refine ⟨v', ic (queueF ps), rfl, oV, hord, hoL, F2.tab, fun t u H3 hF x3 t3 hL => ?_⟩
  obtain rfl := hF.uniq q_fst
  obtain ⟨L, rfl, nL, eL⟩ := hL.2 rfl
  rw [least_q] at eL
  have F3 := (F2.ex x3 t3).push (F2.bag.new nL).a eL
  clear F2 x3 t3 oV hL
  dsimp only [gName]
  show tSeq _ _ _ [some (.ref r.a), some (.ref A), some (.ref T), some (.ref L), none, none, none, none, none, none, none] H3
  have pT : H3 T = some (.lst (ppl (queueF ps))) := F3.get (by simp)
  refine ⟨.ref T, rfl, .ref T, ic (queueF ps), rfl, .inl (.lst (by rw [pT, ppl_ic]) (rp_intsA _)), hord, hoL, F3.tab, fun t u H4 hF x4 t4 rp => ?_⟩
  obtain rfl := hF.uniq q_fst
  cases rp
  have F4 := F3.ex x4 t4
  clear F3 x4 t4 pT
  refine ⟨_, rfl, ?_⟩
  dsimp only
  rw [if_neg (by simp)]
  refine ⟨.ref L, rfl, _, rfl, ?_⟩
  dsimp only
  rw [if_neg (by simp)]
  refine ⟨.ref L, rfl, L, lsP ps, rfl, by rw [← lsI_eq]; exact F4.get (by simp), by rw [lsP_len]; omega, fun T2 H5 s5 eT2 nT2 => ⟨.ref T, rfl, ne_ppl eT2 (s5 _ _ (F4.get (xs := ppl (queueF ps)) (by simp))) ?_⟩⟩
  rw [least_makes]
  have F5 := F4.same s5
  clear F4 s5 nT2 eT2
  refine ⟨_, rfl, ?_⟩
  dsimp only
  rw [if_neg (by simp)]
  dsimp only [tNext]
  show tSeq _ _ _ [some (.ref r.a), some (.ref A), some (.ref T), some (.ref L), none, none, none, none, none, none, none] H5
  have lps : (ps.map optV).length = ps.length := List.length_map ..
  have lls := lsI_len ps
  refine ⟨.ref A, rfl, A, _, rfl, SqL.of (F5.get (xs := ps.map optV) (by simp)), for_it walk_enum (fun i σ H6 => ∃ y4 y5 y6, σ = [some (.ref r.a), some (.ref A), some (.ref T), some (.ref L), y4, y5, y6, none, none, none, none] ∧ Same H5 H6)
    ⟨none, none, none, rfl, Same.refl _⟩ (fun i σ H6 _ hP => by obtain ⟨_, _, _, _, s6⟩ := hP; exact SqL.of (s6 _ _ (F5.get (xs := ps.map optV) (by simp)))) (fun i x σ H6 H7 hi hP hY => ?_) (fun σ H6 hP => ?_)⟩
  · obtain ⟨y4, y5, y6, rfl, s6⟩ := hP
    obtain ⟨T', x, y, rfl, nT', rfl, hx1, hy⟩ := hY
    obtain rfl := Option.some.inj hx1
    rw [lps] at hi
    obtain rfl : y = optV ps[i] := by
      have hy : (List.map optV ps)[i]? = some y := hy
      rw [List.getElem?_map, List.getElem?_eq_getElem hi] at hy
      exact (Option.some.inj hy).symm
    have s7 : Same H6 (upd H6 T' (.tup [.int (i : Int), optV ps[i]])) := same_upd nT'
    refine ⟨T', _, rfl, SqT.of upd_same, rfl, .int (i : Int), _, rfl, optV ps[i], _, rfl, rfl, ?_⟩
    generalize upd H6 T' (.tup [.int (i : Int), optV ps[i]]) = H7 at s7
    have s57 := s6.trans s7
    have F7 := F5.same s57
    have eL7 : H7 L = some (.lst (((List.range ps.length).map (lstN ps)).map V.int)) := F7.get (by simp)
    have hq : qOf ps i = ps[i] := by
      unfold qOf
      rw [List.getD_eq_getElem?_getD, List.getElem?_eq_getElem hi]
      rfl
    have hx : (H7 L = some (.lst (((List.range ps.length).map (lstN ps)).map V.int))) := eL7
    show tSeq _ _ _ [some (.ref r.a), some (.ref A), some (.ref T), some (.ref L), some (.int (i : Int)), some (optV ps[i]), y6, none, none, none, none] H7
    refine seqP (fun σ' H' => σ' = [some (.ref r.a), some (.ref A), some (.ref T), some (.ref L), some (.int (i : Int)), some (optV ps[i]), y6, none, none, none, none] ∧ H' = H7) (fun σ' H' hs => ?_) (fun nx hnx => ?_)
    rotate_left
    · generalize hpi : ps[i] = o at hq hnx
      cases o with
      | none =>
        refine ⟨.non, rfl, _, rfl, ?_⟩
        dsimp only
        rw [if_neg (by simp)]
        try dsimp only
        rw [if_neg (by simp)]
        exact hnx _ _ ⟨rfl, rfl⟩
      | some v =>
        refine ⟨.int v, rfl, _, rfl, ?_⟩
        dsimp only
        rw [if_pos (by simp)]
        have hle := least_le hq (hv i v hq)
        refine ⟨.ref L, rfl, .int (i : Int), rfl, L, _, i, _, rfl, rfl, SqL.of eL7, atI_nat (lsI_at hi), .int v, rfl, lstN ps i, v, rfl, rfl, decide (v < lstN ps i), rfl, ?_⟩
        rw [decide_eq_false (by omega)]
        dsimp only
        rw [if_neg (by simp)]
        exact hnx _ _ ⟨rfl, rfl⟩
    obtain ⟨rfl, rfl⟩ := hs
    refine ⟨.ref L, rfl, .int (i : Int), rfl, L, _, i, _, rfl, rfl, SqL.of eL7, atI_nat (lsI_at hi), lstN ps i, 0, rfl, rfl, decide (0 < lstN ps i), rfl, ?_⟩
    by_cases h0 : 0 < lstN ps i
    · rw [decide_eq_true h0]
      dsimp only
      rw [if_pos rfl]
      refine h_set (K := K) (i := 3) (j := 4) (ls := (List.range ps.length).map (lstN ps)) (k := i) (v := lstN ps i - 1) rfl rfl eL7 (by rw [lls]; exact hi) (by rw [lls]; exact hl) (fun H' Q' e' q' => ?_) (fun M H8 s8 nM eM => ?_)
      · exact ⟨.ref L, rfl, .int (i : Int), rfl, L, _, i, _, rfl, rfl, SqL.of e', atI_nat (lsI_at hi), lstN ps i, 1, rfl, rfl, q'⟩
      rw [setI_eq] at eM
      dsimp only [gName]
      show tIfS _ _ _ _ [some (.ref r.a), some (.ref A), some (.ref T), some (.ref L), some (.int (i : Int)), some (optV ps[i]), some (.ref M), none, none, none, none] H8
      refine ⟨.ref M, rfl, M, setP ps i (lstN ps i - 1), rfl, eM, by rw [setP_len]; omega, fun T3 H9 s9 eT3 nT3 => ⟨.ref T, rfl, eq_ppl eT3 ((s8.trans s9) _ _ (F7.get (xs := ppl (queueF ps)) (by simp))) ?_⟩⟩
      rw [decide_eq_false (lesser_ne hi h0)]
      refine ⟨_, rfl, ?_⟩
      dsimp only []
      rw [if_neg (by decide)]
      exact ⟨_, _, _, rfl, s57.trans (s8.trans s9)⟩
    · rw [decide_eq_false h0]
      dsimp only
      rw [if_neg (by decide)]
      exact ⟨_, _, _, rfl, s57⟩
  · obtain ⟨y4, y5, y6, rfl, s6⟩ := hP
    have F6 := F5.same s6
    clear F5 s6
    dsimp only []
    show tSeq _ _ _ [some (.ref r.a), some (.ref A), some (.ref T), some (.ref L), y4, y5, y6, none, none, none, none] H6
    refine ⟨.ref L, rfl, .ref T, rfl, L, T, ps, rfl, F6.get (by simp), F6.get (by simp), hl, fun p H8 s8 nFr eFr => ?_⟩
    have F8 := (F6.same s8).push (F6.bag.new nFr).a eFr
    clear F6 s8
    dsimp only [gName]
    show tSeq _ _ _ [some (.ref r.a), some (.ref A), some (.ref T), some (.ref L), y4, y5, y6, some (.ref p), none, none, none] H8
    refine ⟨.ref r.a, rfl, 4, n + 1, rfl, F8.bag, by omega, by decide, by decide, fun x1 H9 b9 m9 a1 c1 => ?_⟩
    have F9 := F8.mv b9 m9
    clear F8 b9 m9
    refine ⟨.ref r.a, rfl, 10, 18, rfl, rfl, by unfold CPow; decide, (10 : Int) ^ (18 : Int).toNat, n + 2, rfl, F9.bag, by omega, by rw [p18]; decide, by rw [p18]; decide, fun x3 H10 b10 m10 a3 c3 => ?_⟩
    rw [p18] at c3
    have F10 := F9.mv b10 m10
    clear F9 b10 m10
    refine ⟨10, 18, rfl, rfl, by unfold CPow; decide, ?_⟩
    refine h_max (K := K) rfl (F10.get (by simp)) hl fun M H11 s11 hM hMle => ?_
    have F11 := F10.same s11
    clear F10 s11
    refine ⟨small_le (by show 5 ≤ 1000; decide), fun pm npm => ?_⟩
    have hMb := most_bd hM
    have hms : ∀ m ∈ [x1, 60, x3, (10 : Int) ^ (18 : Int).toNat, M], 0 ≤ m ∧ m ≤ 1000000000000000000 := by
      intro m hm
      rw [p18] at hm
      simp only [List.mem_cons, List.not_mem_nil, or_false] at hm
      rcases hm with rfl | rfl | rfl | rfl | rfl <;> omega
    have F12 := (F11.same (same_upd (o := .lst ([x1, 60, x3, (10 : Int) ^ (18 : Int).toNat, M].map V.int)) npm)).push (F11.bag.new npm).a upd_same
    obtain ⟨ms, hmsl⟩ : ∃ ms, ms = [x1, 60, x3, (10 : Int) ^ (18 : Int).toNat, M] := ⟨_, rfl⟩
    have hml : ms.length = 5 := by rw [hmsl]; rfl
    rw [← hmsl] at hms F12
    clear F11
    have lfr : (freeN ps).length ≤ 60 := by
      refine Nat.le_trans (List.length_filter_le _ _) ?_
      rw [List.length_range]
      exact hl
    have lppl : (ppl (freeN ps)).length = (freeN ps).length := List.length_map ..
    have lmI : (ms.map V.int).length = ms.length := List.length_map ..
    refine ⟨pm, rfl, ⟨_, SqL.of upd_same⟩, for_list (xs := ms.map V.int) (fun i σ H => (∃ y4 y8 y9, σ = [some (.ref r.a), some (.ref A), some (.ref T), some (.ref L), y4, y5, y6, some (.ref p), y8, y9, none]) ∧ Fx r P1 [(pm, ms.map V.int), (p, ppl (freeN ps)), (L, ((List.range ps.length).map (lstN ps)).map V.int), (T, ppl (queueF ps)), (A, ps.map optV)] (n + 3) H)
      ⟨⟨y4, none, none, rfl⟩, by rw [hmsl] at F12 ⊢; exact F12⟩ (fun i σ H _ hP => SqL.of (hP.2.get (a := pm) (xs := ms.map V.int) (by simp))) (fun i x σ H13 hx hP => ?_) (fun σ H13 hP => ?_)⟩
    · obtain ⟨⟨z4, z8, z9, rfl⟩, F13⟩ := hP
      obtain ⟨mo, hmo, rfl⟩ : ∃ mo, mo ∈ ms ∧ x = V.int mo := by
        rw [List.getElem?_map] at hx
        obtain ⟨mo, e, rfl⟩ := Option.map_eq_some_iff.mp hx
        exact ⟨mo, List.mem_of_getElem? e, rfl⟩
      obtain ⟨m0, m18⟩ := hms mo hmo
      clear hx
      dsimp only [gName]
      show tSeq _ _ _ [some (.ref r.a), some (.ref A), some (.ref T), some (.ref L), z4, y5, y6, some (.ref p), some (.int mo), z9, none] H13
      show tSeq _ _ _ [some (.ref r.a), some (.ref A), some (.ref T), some (.ref L), z4, y5, y6, some (.ref p), some (.int mo), some (.int 1), none] H13
      have eL13 : H13 L = some (.lst (((List.range ps.length).map (lstN ps)).map V.int)) := F13.get (by simp)
      have eFr13 : H13 p = some (.lst (ppl (freeN ps))) := F13.get (by simp)
      refine ⟨.ref p, rfl, p, rfl, ⟨_, SqL.of eFr13⟩, for_list (xs := ppl (freeN ps)) (fun k σ H => (∃ y4, σ = [some (.ref r.a), some (.ref A), some (.ref T), some (.ref L), y4, y5, y6, some (.ref p), some (.int mo), some (.int (dueN ps mo ((freeN ps).take k))), none]) ∧ H = H13)
        ⟨⟨_, rfl⟩, rfl⟩ (fun k σ H _ hP => by rw [hP.2]; exact SqL.of eFr13) (fun k x σ H hx hP => ?_) (fun σ H hP => ?_)⟩
      · obtain ⟨⟨w4, rfl⟩, rfl⟩ := hP
        have hk : k < (freeN ps).length := by rw [← lppl]; exact (List.getElem?_eq_some_iff.mp hx).1
        obtain rfl : x = V.int ((freeN ps)[k] : Int) := by
          rw [ppl_get hk] at hx
          exact (Option.some.inj hx).symm
        have hj : (freeN ps)[k] < ps.length := List.mem_range.mp (List.mem_filter.mp (List.getElem_mem hk)).1
        have htk : dueN ps mo ((freeN ps).take (k + 1)) = dueN ps mo ((freeN ps).take k) * (if mo - lstN ps (freeN ps)[k] + 1 > 0 then mo - lstN ps (freeN ps)[k] + 1 else 0) := by
          rw [List.take_add_one, List.getElem?_eq_getElem hk]
          exact due_snoc _ _ _
        have hle := lstN_le (ps := ps) (freeN ps)[k]
        have hnn := least_nn (ps := ps) (freeN ps)[k]
        dsimp only [gName]
        show tAsg _ _ _ [some (.ref r.a), some (.ref A), some (.ref T), some (.ref L), some (.int ((freeN ps)[k] : Int)), y5, y6, some (.ref p), some (.int mo), some (.int (dueN ps mo ((freeN ps).take k))), none] H
        refine ⟨.int (dueN ps mo ((freeN ps).take k)), rfl, .int mo, rfl, .ref L, rfl, .int ((freeN ps)[k] : Int), rfl, L, _, (freeN ps)[k], _, rfl, rfl, SqL.of eL13, atI_nat (lsI_at hj), mo, lstN ps (freeN ps)[k], rfl, rfl, mo - lstN ps (freeN ps)[k], 1, rfl, rfl, 0, mo - lstN ps (freeN ps)[k] + 1, rfl, ?_⟩
        refine ⟨dueN ps mo ((freeN ps).take k), (if mo - lstN ps (freeN ps)[k] + 1 > 0 then mo - lstN ps (freeN ps)[k] + 1 else 0), rfl, rfl, .inr ⟨by rw [t64]; split <;> omega, by rw [t64]; split <;> omega⟩, ?_⟩
        rw [htk]
        exact ⟨⟨_, rfl⟩, rfl⟩
      · obtain ⟨⟨w4, rfl⟩, rfl⟩ := hP
        rw [lppl, List.take_length]
        dsimp only []
        show tSeq _ _ _ [some (.ref r.a), some (.ref A), some (.ref T), some (.ref L), w4, y5, y6, some (.ref p), some (.int mo), some (.int (dueN ps mo (freeN ps))), none] H
        refine seqP (fun σ' H' => Fx r P1 [(pm, ms.map V.int), (p, ppl (freeN ps)), (L, ((List.range ps.length).map (lstN ps)).map V.int), (T, ppl (queueF ps)), (A, ps.map optV)] (n + 3) H' ∧ σ' = [some (.ref r.a), some (.ref A), some (.ref T), some (.ref L), w4, y5, y6, some (.ref p), some (.int mo), some (.int (rowsF (ic (queueF ps)) mo)), none]) (fun σ' H' hs => ?_) (fun nx hnx => ?_)
        rotate_left
        · refine h_max (K := K) rfl (F13.get (by simp)) hl fun M' H14 s14 hM' hMle' => ?_
          have F14 := F13.same s14
          have hrd := rows_due m0 hM' hMle'
          refine ⟨.int mo, rfl, M', mo, rfl, rfl, decide (mo < M'), rfl, ?_⟩
          by_cases c : mo < M'
          · rw [decide_eq_true c]
            dsimp only
            rw [if_pos rfl]
            refine hnx _ _ ⟨F14, ?_⟩
            rw [hrd, if_pos c]
            rfl
          · rw [decide_eq_false c]
            dsimp only
            rw [if_neg (by decide)]
            refine hnx _ _ ⟨F14, ?_⟩
            rw [hrd, if_neg c]
        obtain ⟨F14, rfl⟩ := hs
        refine ⟨.ref T, rfl, .int mo, rfl, .ref T, ic (queueF ps), mo, rfl, .inl (.lst (by rw [F14.get (xs := ppl (queueF ps)) (by simp), ppl_ic]) (rp_intsA _)), hord, hoL, m0, m18, F14.tab, fun H15 x15 t15 => ?_⟩
        refine ⟨.int (rowsF (ic (queueF ps)) mo), rfl, rfl, _, rfl, ?_⟩
        dsimp only
        rw [if_neg (by simp)]
        exact ⟨⟨_, _, _, rfl⟩, F14.ex x15 t15⟩
    · obtain ⟨⟨z4, z8, z9, rfl⟩, F13⟩ := hP
      clear F12
      dsimp only []
      show tSeq _ _ _ [some (.ref r.a), some (.ref A), some (.ref T), some (.ref L), z4, y5, y6, some (.ref p), z8, z9, none] H13
      have lps : (ps.map optV).length = ps.length := List.length_map ..
      refine ⟨.ref A, rfl, .ref r.a, rfl, 60, n + 3, rfl, F13.bag, by omega, by decide, fun o H14 b14 m14 ho => ?_⟩
      have F14 := F13.mv b14 m14
      refine ⟨small_le (by show 1 ≤ 1000; decide), fun p1 np1 => ?_⟩
      have s15 : Same H14 (upd H14 p1 (.lst [optV o])) := same_upd np1
      have F15 := F14.same s15
      refine ⟨A, p1, _, _, rfl, rfl, F15.get (xs := ps.map optV) (by simp), upd_same, small_add (by rw [lps]; omega) (by show 1 ≤ 1000; decide), fun p2 np2 => ?_⟩
      have F16 := F15.same (same_upd (o := .lst (ps.map optV ++ [optV o])) np2)
      refine ⟨p2, ps ++ [o], rfl, by rw [upd_same, List.map_append]; rfl, by rw [List.length_append]; show _ + 1 ≤ 300; omega, fun T3 H17 s17 eT3 nT3 => ?_⟩
      have F17 := F16.same s17
      clear F13 F14 F15 F16 s17 s15 m14
      dsimp only [gName]
      show tRet _ _ [some (.ref r.a), some (.ref A), some (.ref T), some (.ref L), z4, y5, y6, some (.ref p), z8, z9, some (.ref T3)] H17
      have hl3 : (queueF (ps ++ [o])).length ≤ 61 := by rw [q_len, List.length_append]; show _ + 1 ≤ 61; omega
      refine ⟨.ref T3, rfl, T3, rfl, ⟨_, SqL.of eT3⟩, fun D nD => ?_⟩
      have lp3 : (ppl (queueF (ps ++ [o]))).length = (queueF (ps ++ [o])).length := List.length_map ..
      refine lc_list (K := K) (a := T3) (xs := ppl (queueF (ps ++ [o]))) (fun j H18 => Same H17 H18 ∧ H18 D = some (.lst (ppl (((queueF (ps ++ [o])).take j).filter fun x => decide (x < ps.length)))))
        ⟨same_upd nD, upd_same⟩ (fun j H18 _ ⟨s18, _⟩ => SqL.of (s18 _ _ eT3)) (fun j x H18 hx ⟨s18, eD⟩ => ?_) (fun H18 ⟨s18, eD⟩ => ?_)
      · have hj : j < (queueF (ps ++ [o])).length := by rw [← lp3]; exact (List.getElem?_eq_some_iff.mp hx).1
        obtain rfl : x = V.int ((queueF (ps ++ [o]))[j] : Int) := by
          rw [ppl_get hj] at hx
          exact (Option.some.inj hx).symm
        have htk : ((queueF (ps ++ [o])).take (j + 1)).filter (fun x => decide (x < ps.length)) = ((queueF (ps ++ [o])).take j).filter (fun x => decide (x < ps.length)) ++ (if (queueF (ps ++ [o]))[j] < ps.length then [(queueF (ps ++ [o]))[j]] else []) := by
          rw [List.take_add_one, List.getElem?_eq_getElem hj, List.filter_append]
          congr 1
          by_cases c : (queueF (ps ++ [o]))[j] < ps.length
          · rw [if_pos c]; simp [c]
          · rw [if_neg c]; simp [c]
        have hfl : (((queueF (ps ++ [o])).take j).filter fun x => decide (x < ps.length)).length ≤ 61 := by
          refine Nat.le_trans (List.length_filter_le _ _) ?_
          rw [List.length_take]
          omega
        generalize (queueF (ps ++ [o]))[j] = z at htk ⊢
        have F18 := F17.same s18
        refine ⟨rfl, ?_⟩
        refine ⟨.int (z : Int), rfl, .ref A, rfl, A, _, rfl, .inl (SqL.of (F18.get (xs := ps.map optV) (by simp))), (z : Int), ((ps.map optV).length : Int), rfl, rfl, decide ((z : Int) < ((ps.map optV).length : Int)), rfl, ?_⟩
        rw [lps]
        by_cases c : z < ps.length
        · rw [decide_eq_true (by omega)]
          dsimp only
          rw [if_pos rfl]
          refine ⟨.int (z : Int), rfl, _, eD, small1000 (by rw [ppl_len]; omega), fun b ob e => by rw [upd_ne (fun z => by rw [z, nD] at e; cases e)]; exact s18 b ob e, ?_⟩
          rw [upd_same, htk, if_pos c]
          unfold ppl
          rw [List.map_append]
          rfl
        · rw [decide_eq_false (by omega)]
          dsimp only
          rw [if_neg (by decide)]
          refine ⟨s18, ?_⟩
          rw [htk, if_neg c, List.append_nil]
          exact eD
      · rw [lp3, List.take_length, later_q] at eD
        have F18 := F17.same s18
        refine ⟨.ref T, rfl, eq_ppl eD (F18.get (xs := ppl (queueF ps)) (by simp)) ?_⟩
        rw [decide_eq_true rfl]
        exact q H18 F18.bag F18.tab
end
end CL
set_option Elab.async false
set_option linter.all false
set_option pp.maxSteps 900
set_option maxRecDepth 100000
set_option maxHeartbeats 4000000
namespace CL
open PySem PySem.Spec PyProof.Rows L2 GE
abbrev sLaw : Stmt := topS 29
abbrev nLaw : List Str := ["script", "bag", "turn", "many", "wide", "k"]
theorem scLaw : FnScope nLaw ["script"] (defScope sLaw) := ⟨rfl, rfl, rfl, by decide +kernel, rfl, by decide +kernel, by decide +kernel⟩
def spLaw (K : PySem.W.Frag) (P1 : Addr) : Sp := fun vs H Q _ => ∃ (a : Addr) (ns : List Int), vs = [.ref a] ∧ SqL K H a (ns.map V.int) ∧ ns.length ≤ 63 ∧ GxR.TabG H P1 ∧ ∀ H', Q (.bl true) H'
section
variable {P : Program} {w : World} {K : PySem.W.Frag} {mg : Str → Option Value} {base : Heap}
theorem ok_law {f P1 : Addr} {fd : FuncData} (F : Fun K "law" "law" sLaw f fd) (T : Nm mg) (hmin : mg "min" = none) (CB : Cal P w K mg base 1 "_law_bag" ["script"] (spBag K)) (CD : Cal P w K mg base 2 "_law_draw" ["bag", "many"] (spE spDraw)) (CP : Cal P w K mg base 3 "_law_patience" ["bag", "most"] (spE spPatL))
    (CR : Cal P w K mg base 9 "_law_right" ["bag", "patiences"] (spE (spRight P1))) : FnOk P w K mg base CX0 10 f fd ["script"] (spLaw K P1) := by
  refine F.ok scLaw (fun vs H Q E ⟨a, ns, e, _⟩ => by rw [e]; rfl) (fun cdv A' outer s H vs Q E hr h => ?_)
  obtain ⟨a, ns, rfl, hS, h63, hT, q⟩ := h
  have nd := scLaw.nd
  refine ⟨_, (pss_cons (ps_set (i := 1) nd rfl (.inr rfl) (pe_cal (CB.mono (by decide)) hr (by rfl) (pa_cons (pv 0) pa_nil)))
      (pss_cons (ps_for PassesOwn.never rfl (pi_range1 (by rfl) T.range (pa_cons (pe_op op_add pe_int (pe_callB (call_min2 rfl) (by rfl) hmin (by decide +kernel) (pa_cons pe_int (pa_cons (pe_callB call_len_seq (by rfl) T.len PySem.boot_len (pa_cons (pv 0) pa_nil)) pa_nil)))) pa_nil)) (pg_name (i := 2) nd rfl (.inl rfl)) (pss_cons (ps_set (i := 3) nd rfl (.inl rfl) (pe_cal (CD.mono (by decide)) hr (by rfl) (pa_cons (pv 1) (pa_cons (pe_ix ix_list (pe_lst (pa_cons pe_int (pa_cons pe_int pa_nil))) (pe_cal (CD.mono (by decide)) hr (by rfl) (pa_cons (pv 1) (pa_cons pe_int pa_nil))) (fun _ _ => rfl)) pa_nil))))
      (pss_cons (ps_set (i := 4) nd rfl (.inr rfl) (pe_ix ix_list (pe_lst (pa_cons pe_int (pa_cons pe_int (pa_cons pe_int pa_nil)))) (pe_cal (CD.mono (by decide)) hr (by rfl) (pa_cons (pv 1) (pa_cons pe_int pa_nil))) (fun _ _ => rfl)))
      (pss_one (ps_if (pt_not (pt_val (pe_cal (CR.mono (by decide)) hr (by rfl) (pa_cons (pv 1) (pa_cons (pe_lc (own := [("k", 5)]) (g := (gName 5)) (tt := tYes) rfl nd (pi_range1 (by rfl) T.range (pa_cons (pv 3) pa_nil)) (blkOk_by (own := [("k", 5)]) (N := nLaw) (sc := (defScope sLaw)) (by decide +kernel)) (fun _ _ _ _ _ => (pg_name (i := 5) nd rfl (.inl rfl))) (fun _ _ _ _ _ => pts_nil) (fun _ _ _ _ _ => (pe_cal (CP.mono (by decide)) hr (by rfl) (pa_cons (pv 1) (pa_cons (pv 4) pa_nil))))) pa_nil))))) (pss_one (ps_ret pe_bl)) pss_nil)))))
      (pss_one (ps_ret pe_bl))))
, ?_⟩
  have t140 : (2 : Int) ^ 140 = 1393796574908163946345982392040522594123776 := by decide +kernel
  have hM : M60 = 1000000000000000000 := rfl
  refine ⟨.ref a, rfl, a, ns, rfl, hS, fun r H1 s1 nr b1 => ?_⟩
  have hT1 := tabG_same s1 hT
  dsimp only [gName]
  show tSeq _ _ _ [some (.ref a), some (.ref r.a), none, none, none, none] H1
  refine ⟨.ref a, rfl, a, ns.map V.int, rfl, .inl (s1.seq hS), 4, ((ns.map V.int).length : Int), rfl, 2, _, rfl, rfl, _, rfl, by split <;> omega, by split <;> omega, ?_⟩
  have hn6 : ((2 : Int) + (if ((ns.map V.int).length : Int) < 4 then ((ns.map V.int).length : Int) else 4)).toNat ≤ 6 := by split <;> omega
  refine for_range (lo := 0) (n := ((2 : Int) + (if ((ns.map V.int).length : Int) < 4 then ((ns.map V.int).length : Int) else 4)).toNat) (fun i σ H3 => (∃ y2 y3 y4 y5, σ = [some (.ref a), some (.ref r.a), y2, y3, y4, y5]) ∧ BagAt (300 * i) H3 r ∧ GxR.TabG H3 P1)
    ⟨⟨none, none, none, none, rfl⟩, b1, hT1⟩ (fun i σ H3 hi hP => ?_) (fun σ H3 hP => ?_)
  · obtain ⟨⟨y2, y3, y4, y5, rfl⟩, b3, t3⟩ := hP
    have hi6 : i < 6 := by omega
    clear hi hn6
    dsimp only [gName]
    show tSeq _ _ _ [some (.ref a), some (.ref r.a), some (.int (0 + (i : Int))), y3, y4, y5] H3
    have F3 : Fx r P1 [] (300 * i) H3 := ⟨b3, t3, fun p hp => nomatch hp⟩
    refine ⟨.ref r.a, rfl, small_le (by show 2 ≤ 1000; decide), fun p np => ?_⟩
    have F4 := (F3.same (same_upd (o := .lst [.int 9, .int 61]) np)).push (b3.new np).a upd_same
    refine ⟨.ref r.a, rfl, r, 2, 300 * i, rfl, F4.bag, by omega, by decide, by decide, fun x H5 b5 m5 x0 x1 => ?_⟩
    have F5 := F4.mv b5 m5
    obtain ⟨mv, hmv, hat⟩ : ∃ mv : Int, (mv = 9 ∨ mv = 61) ∧ atI [V.int 9, V.int 61] x = some (.int mv) := by
      rcases (show x = 0 ∨ x = 1 by omega) with rfl | rfl
      · exact ⟨9, .inl rfl, rfl⟩
      · exact ⟨61, .inr rfl, rfl⟩
    refine ⟨p, _, x, .int mv, rfl, rfl, SqL.of (F5.get (xs := [.int 9, .int 61]) (by simp)), hat, r, mv, 300 * i + 1, rfl, F5.bag, by omega, by omega, by rw [t140]; omega, fun many H6 b6 m6 a6 c6 => ?_⟩
    have F6 := F5.mv b6 m6
    clear F3 F4 F5 b5 m5 b6 m6 hat
    obtain ⟨mn, rfl⟩ : ∃ mn : Nat, many = (mn : Int) := ⟨many.toNat, by omega⟩
    have hmn : mn ≤ 60 := by omega
    dsimp only [gName]
    show tSeq _ _ _ [some (.ref a), some (.ref r.a), some (.int (0 + (i : Int))), some (.int (mn : Int)), y4, y5] H6
    refine ⟨small_le (by show 3 ≤ 1000; decide), fun p2 np2 => ?_⟩
    have F7 := (F6.same (same_upd (o := .lst [.int 2, .int 9, .int 60]) np2)).push (F6.bag.new np2).a upd_same
    refine ⟨.ref r.a, rfl, r, 3, 300 * i + 2, rfl, F7.bag, by omega, by decide, by decide, fun x2 H8 b8 m8 x20 x21 => ?_⟩
    have F8 := F7.mv b8 m8
    obtain ⟨wv, hwv, hat2⟩ : ∃ wv : Nat, wv ≤ 60 ∧ atI [V.int 2, V.int 9, V.int 60] x2 = some (.int (wv : Int)) := by
      rcases (show x2 = 0 ∨ x2 = 1 ∨ x2 = 2 by omega) with rfl | rfl | rfl
      · exact ⟨2, by decide, rfl⟩
      · exact ⟨9, by decide, rfl⟩
      · exact ⟨60, by decide, rfl⟩
    refine ⟨p2, _, x2, .int (wv : Int), rfl, rfl, SqL.of (F8.get (xs := [.int 2, .int 9, .int 60]) (by simp)), hat2, ?_⟩
    clear F6 F7 b8 m8 hat2
    dsimp only [gName]
    show tIfS _ _ _ _ [some (.ref a), some (.ref r.a), some (.int (0 + (i : Int))), some (.int (mn : Int)), some (.int (wv : Int)), y5] H8
    refine ⟨.ref r.a, rfl, .int (mn : Int), rfl, (mn : Int), rfl, by omega, by omega, fun D nD => ?_⟩
    have nDr := F8.bag.new nD
    refine lc_range (lo := 0) (n := (mn : Int).toNat) (fun k H9 => ∃ os : List (Option Int), BagAt (300 * i + 3 + 4 * k) H9 r ∧ GxR.TabG H9 P1 ∧ H9 D = some (.lst (os.map optV)) ∧ os.length = k ∧ ∀ v, some v ∈ os → 0 ≤ v)
      ⟨[], F8.bag.store nDr, tabG_same (same_upd nD) F8.tab, upd_same, rfl, fun v hv => nomatch hv⟩ (fun k H9 hk ⟨os, b9, t9, eD, lo, hv⟩ => ?_) (fun H9 ⟨os, b9, t9, eD, lo, hv⟩ => ?_)
    · have hk' : k < mn := by omega
      refine ⟨rfl, yesT ?_⟩
      refine ⟨.ref r.a, rfl, .int (wv : Int), rfl, r, wv, 300 * i + 3 + 4 * k, rfl, b9, by omega, hwv, fun o H10 b10 m10 ho => ?_⟩
      refine ⟨os.map optV, m10.keep D _ nDr.a eD, small1000 (by rw [List.length_map]; omega), os ++ [o], b10.store nDr, ?_, by rw [upd_same, List.map_append]; rfl, by rw [List.length_append, lo]; rfl, fun v hvv => ?_⟩
      · exact tabG_upd (tabG_mv t9 b9 m10) fun qs z => by rw [m10.keep D _ nDr.a eD] at z; cases z
      · rcases List.mem_append.mp hvv with z | z
        · exact hv v z
        · exact ho v (List.mem_singleton.mp z).symm
    · have lm : (mn : Int).toNat = mn := by omega
      rw [lm] at lo b9
      refine ⟨r, D, os, 300 * i + 3 + 4 * mn, rfl, eD, nDr.a, b9, by omega, by omega, fun j v hj => ?_, t9, fun H10 b10 t10 => ⟨true, rfl, iteF ?_⟩⟩
      · unfold qOf at hj
        rw [List.getD_eq_getElem?_getD] at hj
        cases z : os[j]? with
        | none => rw [z] at hj; cases hj
        | some o =>
          rw [z] at hj
          have hj : o = some v := hj
          rw [hj] at z
          exact hv v (List.mem_of_getElem? z)
      · exact ⟨⟨_, _, _, _, rfl⟩, b10.mono (by omega), t10⟩
  · exact q _
end
end CL
set_option Elab.async false
set_option linter.all false
set_option maxRecDepth 100000
set_option maxHeartbeats 4000000
namespace CL
open PySem PySem.Spec PyProof.Rows L2 GE
/-! ### the end: what is tracked when the law is called, and that the run leaves the heap as it was but for the tables -/
def H0 (ts : List Addr) (K : PySem.W.Frag) (a : Addr) (vs : List Value) (ns : List Int) : Hp := fun b =>
  if b ∈ ts then some (.tbl #[]) else if b = a ∧ (K.lookup a).isNone = true then some (.frz { cls := .type "list", data := .seq vs.toArray } (.lst (ns.map V.int))) else none
section
variable {ts : List Addr} {K : PySem.W.Frag} {a : Addr} {vs : List Value} {ns : List Int} {h : Heap}
theorem H0.tab {b : Addr} (m : b ∈ ts) : H0 ts K a vs ns b = some (.tbl #[]) := if_pos m
theorem H0.cases {b : Addr} {u : HO} (e : H0 ts K a vs ns b = some u) : (b ∈ ts ∧ u = .tbl #[]) ∨ (b = a ∧ K.lookup a = none ∧ u = .frz { cls := .type "list", data := .seq vs.toArray } (.lst (ns.map V.int))) := by
  unfold H0 at e
  split at e
  · rename_i m
    exact .inl ⟨m, (Option.some.inj e).symm⟩
  · split at e
    · rename_i z
      exact .inr ⟨z.1, Option.isNone_iff_eq_none.mp z.2, (Option.some.inj e).symm⟩
    · cases e
/-- an object that is no list and no empty table is not tracked -/
theorem H0.other (hT : ∀ b ∈ ts, h.get? b = some { cls := .none, data := .fields #[] }) (ha : h.get? a = some { cls := .type "list", data := .seq vs.toArray }) {b : Addr} {o : Obj} (e : h.get? b = some o) (h1 : o.data ≠ .seq vs.toArray) (h2 : o.data ≠ .fields #[]) :
    H0 ts K a vs ns b = none := by
  cases q : H0 ts K a vs ns b with
  | none => rfl
  | some u =>
    rcases H0.cases q with ⟨m, _⟩ | ⟨rfl, _, _⟩
    · rw [hT b m] at e
      cases e
      exact absurd rfl h2
    · rw [ha] at e
      cases e
      exact absurd rfl h1
end
theorem end_own {P : Program} {w : World} {K : PySem.W.Frag} {mg mb : Str → Option Value} {q : Program} {loose : List Str} {mean : ExcName → Option Value} {k : Nat} {fa a : Addr} {fd : FuncData} {x : Str} {sp : Sp} {s₁ : Shared} {vs : List Value} {ns : List Int} (ts : List Addr)
    (KX : K.In s₁.heap) (T : Top q loose mean mg mb s₁.heap) (hi0 : importsNone q = true) (hg : s₁.gens = #[])
    (hT : ∀ b ∈ ts, s₁.heap.get? b = some { cls := .none, data := .fields #[] }) (hC : ∀ b ∈ ts, ∃ c, PySem.W.codeHdIn K c b = true) (nT : ∀ b ∈ ts, K.lookup b = none)
    (ha : s₁.heap.get? a = some { cls := .type "list", data := .seq vs.toArray }) (hi : IntsAre vs ns) (hl : ns.length ≤ sizeLine) (hr : Room k callerA)
    (F : ∀ base : Heap, K.In base → base.Ns mainGlobals mg → (∃ o, base.get? sysModules = some o) → (∀ b ∈ ts, base.BuiltinsAt mg b ∧ mainGlobals ≠ b) → FnG P w K mg base k fa fd [x] sp)
    (hbind : ∀ (s : Shared) (u : Value), BindsTo s fd ⟨[u], []⟩ [(x, u)])
    (hsp : ∀ H : Hp, (∀ b ∈ ts, H b = some (.tbl #[])) → SqL K H a (ns.map V.int) → sp [.ref a] H (fun v _ => v = .bl true) fun _ _ _ => False) :
    codeAny (model P w) callerA (.call (.ref fa) ⟨[.ref a], []⟩) (fun r s' => r = .ok (.ret (.bool true)) ∧ OldK s₁.heap s'.heap ∧ s'.os = s₁.os ∧ AllBare s'.gens) s₁ := by
  have rv := vals_ints hi
  have aT : a ∉ ts := fun m => by
    have z := hT a m
    rw [ha] at z
    cases z
  generalize hH : H0 ts K a vs ns = H
  have tabs : ∀ b ∈ ts, H b = some (.tbl #[]) := fun b m => by rw [← hH]; exact H0.tab m
  have cs : ∀ {b : Addr} {u : HO}, H b = some u → (b ∈ ts ∧ u = .tbl #[]) ∨ (b = a ∧ K.lookup a = none ∧ u = .frz { cls := .type "list", data := .seq vs.toArray } (.lst (ns.map V.int))) := fun e => by
    rw [← hH] at e
    exact H0.cases e
  have oth : ∀ {b : Addr} {o : Obj}, s₁.heap.get? b = some o → o.data ≠ .seq vs.toArray → o.data ≠ .fields #[] → H b = none := fun e h1 h2 => by
    rw [← hH]
    exact H0.other hT ha e h1 h2
  have inB : ∀ {b : Addr} {o : Obj}, s₁.heap.get? b = some o → H b = none → (hidT s₁.heap H).get? b = some o := fun e n => hidT_get e n
  have nsB : ∀ {b : Addr} {m : Str → Option Value}, s₁.heap.Ns b m → (hidT s₁.heap H).Ns b m := fun ⟨o, es, ep, e, d, r⟩ => ⟨o, es, ep, inB e (oth e (by rw [d]; exact nofun) (by rw [d]; exact nofun)), d, r⟩
  have hok : HOk P w H s₁.heap := fun b u e => by
    rcases cs e with ⟨m, rfl⟩ | ⟨rfl, _, rfl⟩
    · exact hT b m
    · exact ⟨ha, by rw [List.length_map]; exact hl, vs, _, rv, ha⟩
  have hS : SqL K H a (ns.map V.int) := by
    cases hk : K.lookup a with
    | some o =>
      have e := KX a o hk
      rw [ha] at e
      cases e
      exact .inr ⟨_, vs.toArray, _, hk, rfl, rfl, rfl, by rw [List.size_toArray, hi.length]; exact hl, by simpa using rv⟩
    | none =>
      have e : H a = some (.frz { cls := .type "list", data := .seq vs.toArray } (.lst (ns.map V.int))) := by
        rw [← hH]
        unfold H0
        rw [if_neg aT, if_pos ⟨rfl, by rw [hk]; rfl⟩]
      exact .inl (.inr ⟨_, e⟩)
  have KB : K.In (hidT s₁.heap H) := fun b o e => inB (KX b o e) (by
    cases z : H b with
    | none => rfl
    | some u =>
      rcases cs z with ⟨m, _⟩ | ⟨rfl, n, _⟩
      · rw [nT b m] at e; cases e
      · rw [n] at e; cases e)
  have hM : L2.Mod K mg (hidT s₁.heap H) := ⟨KB, nsB T.g, ⟨mb, nsB T.b, T.builtins⟩, let ⟨mc, h1, h2⟩ := T.nolimit; ⟨mc, nsB h1, h2⟩⟩
  have sysB : ∃ o, (hidT s₁.heap H).get? sysModules = some o := by
    obtain ⟨mm, ⟨o, es, ep, e, d, _⟩, _⟩ := (T.seer hi0).mods
    exact ⟨o, inB e (oth e (by rw [d]; exact nofun) (by rw [d]; exact nofun))⟩
  have gB : ∀ b ∈ ts, mainGlobals ≠ b := fun b m z => by
    obtain ⟨o, es, ep, e, d, _⟩ := T.g
    rw [z, hT b m] at e
    cases e
    cases d
  have bB : ∀ b ∈ ts, (hidT s₁.heap H).BuiltinsAt mg b := fun b m => by
    obtain ⟨bm, ob, b1, b2, b3, b4, b5, b6⟩ := T.bmain
    refine ⟨bm, ob, b1, b2, fun z => ?_, fun z => ?_, inB b3 (oth b3 (by rw [b6]; exact nofun) (by rw [b6]; exact nofun)), b4, b5, b6⟩
    · obtain ⟨o, es, ep, e, d, _⟩ := T.g
      rw [z, e] at b3
      cases b3
      rw [d] at b6
      cases b6
    · rw [z, hT b m] at b3
      cases b3
      cases b6
  have e0 : Env0 P w K mg (hidT s₁.heap H) callerA [] s₁ H := ⟨rfl, hM, fun b o e => of_hidT e, Nat.le_of_eq (hidT_size _ _), trivial, fun b hb => absurd (show b ∈ ([] : List Addr) from hb) (by simp), hok, .of_eq hg⟩
  have G := F _ KB (nsB T.g) sysB fun b m => ⟨bB b m, gB b m⟩
  refine codeAny_mono (G.run callerA [] s₁ H ⟨[.ref a], []⟩ [.ref a] [.ref a] _ _ rfl hr e0 (hbind s₁ (.ref a)) (.cons rfl .nil) (hsp H tabs hS)) fun r s' z => ?_
  cases r with
  | error e => exact False.elim z
  | ok fl =>
    cases fl with
    | next => exact False.elim z
    | brk => exact False.elim z
    | cont => exact False.elim z
    | ret u =>
      obtain ⟨v, H', os, bare, un, hok', r', e'⟩ := z
      obtain rfl : v = .bl true := e'
      obtain rfl : u = Value.bool true := r'
      have stays : ∀ b o, b ∉ ts → s₁.heap.get? b = some o → s'.heap.get? b = some o := fun b o nb e => by
        cases z : H b with
        | none => exact un.keep b o e z (fun y => absurd (show b ∈ ([] : List Addr) from y) (by simp)) (by simp)
        | some u =>
          rcases cs z with ⟨m, _⟩ | ⟨rfl, _, rfl⟩
          · exact absurd m nb
          · rw [ha] at e
            cases e
            exact (hok' _ _ (un.frzs _ _ _ z)).1
      have grow : ∀ b ∈ ts, ∃ more : Array Value, s'.heap.get? b = some { cls := .none, data := .fields more } := fun b m => by
        obtain ⟨more, e⟩ := un.tbls b #[] (tabs b m)
        exact ⟨_, hok' b _ e⟩
      refine ⟨rfl, ⟨fun b o e => ?_, fun b o e => ?_⟩, os, bare⟩
      · by_cases m : b ∈ ts
        · obtain ⟨c, hc⟩ := hC b m
          obtain ⟨more, hm⟩ := grow b m
          rw [hT b m] at e
          cases e
          exact .inr (.inl ⟨((PySem.W.codeHd_of_K KX hc).tab (hT b m)).isCodeTable, rfl, #[], more, rfl, by rw [Array.empty_append]; exact hm⟩)
        · exact .inl (stays b o m e)
      · by_cases m : b ∈ ts
        · obtain ⟨more, hm⟩ := grow b m
          exact ⟨_, hm⟩
        · exact ⟨o, stays b o m e⟩
end CL
set_option Elab.async false
set_option pp.maxSteps 300
set_option linter.all false
set_option maxRecDepth 100000
set_option maxHeartbeats 4000000
namespace CL
open PySem PySem.Spec PyProof.Rows L2 GE
theorem fnE {P : Program} {w : World} {K : PySem.W.Frag} {mg : Str → Option Value} {base : Heap} {k : Nat} {f : Addr} {fd : FuncData} {ps : List Str} {sp : Bg → Sp} (F : ∀ r, FnOk P w K mg base CX0 k f fd ps (sp r)) : FnOk P w K mg base CX0 k f fd ps (spE sp) :=
  ⟨fun vs H Q E ⟨r, h⟩ => (F r).len vs H Q E h, fun A outer s H args us vs Q E hr e0 hb rv ⟨r, h⟩ => (F r).run A outer s H args us vs Q E hr e0 hb rv h⟩
/-- the table of a def of the program is empty when the law is called -/
theorem tab_of {q : Program} {loose : List Str} {mean : ExcName → Option Value} {mg mb : Str → Option Value} {h : Heap} {K : PySem.W.Frag} {n : Str} {f c P : Addr} {o : Obj} {fd : FuncData} (T : Top q loose mean mg mb h) (KX : K.In h) (hr : ((recsOf q).any fun e => e.name == n) = true)
    (hm : mg n = some (.ref f)) (k1 : K.lookup f = some o) (k2 : o.data = .func fd) (k3 : fd.code = .ref c) (hh : PySem.W.codeHdIn K c P = true) : h.get? P = some { cls := .none, data := .fields #[] } := by
  obtain ⟨d, hd, e⟩ := List.any_eq_true.mp hr
  have e' : d.name = n := beq_iff_eq.mp e
  obtain ⟨a', o', fd', c', P', t1, t2, t3, t4, t5, t6⟩ := T.tab d hd
  rw [e', hm] at t1
  cases t1
  rw [KX _ _ k1] at t2
  cases t2
  rw [k2] at t3
  cases t3
  rw [k3] at t4
  cases t4
  obtain ⟨⟨oc, vc, g1, _, g3, g4⟩, g5⟩ := t6
  obtain ⟨oh, uh, _, _, _, _, _, _, _, i1, _, i2, i3, _⟩ := PySem.W.codeHd_of_K KX hh
  rw [g1] at i1
  cases i1
  rw [g3] at i2
  cases i2
  rw [g4] at i3
  cases i3
  exact g5
/-- what the head must know of the law's def -/
def AtLaw (l : PySem.W.OpenLaw) (w : World) (K : PySem.W.Frag) (mg : Str → Option Value) (fa : Addr) (h : Heap) : Prop :=
  ∃ (fd : FuncData) (Q1 : Addr), (∀ b ∈ ([Q1] : List Addr), h.get? b = some { cls := .none, data := .fields #[] }) ∧ (∀ b ∈ ([Q1] : List Addr), ∃ c, PySem.W.codeHdIn K c b = true) ∧ (∀ b ∈ ([Q1] : List Addr), K.lookup b = none) ∧ (∀ (s : Shared) (u : Value), BindsTo s fd ⟨[u], []⟩ [("script", u)]) ∧
    ∀ base : Heap, K.In base → base.Ns mainGlobals mg → (∃ o, base.get? sysModules = some o) → (∀ b ∈ ([Q1] : List Addr), base.BuiltinsAt mg b ∧ mainGlobals ≠ b) → FnG l.prog w K mg base 10 fa fd ["script"] (spLaw K Q1)
theorem walk {l : PySem.W.OpenLaw} {q : Program} {loose : List Str} {XP : (Str → Option Value) → Heap → Prop} {YP : World → Heap → Prop} {d : DefRec} {K : Params → PySem.W.Frag} (hn : l.most = some 63) (hdf : d.params.defaults = []) (hi0 : importsNone q = true)
    (hY : ∀ (w : World) (h : Heap), YP w h → (K w.params).In h)
    (F : ∀ (w : World) (mg mb : Str → Option Value) (mean : ExcName → Option Value) (lo : List Str) (fa : Addr) (h : Heap), (K w.params).In h → Top q lo mean mg mb h → mg d.name = some (.ref fa) → AtLaw l w (K w.params) mg fa h) :
    PySem.W.WalkO q loose XP YP l.row.toRowW d [] (fun f vs => PySem.call f vs) := by
  refine Att.attach_callB hn hdf fun w s₀ s₁ mg mb fa o pm cd doc a vs ns G Y ho hd hcd hmg hobj hints hlen _ hg => ?_
  obtain ⟨fd, Q1, h1, h2, h3, h4, h5⟩ := F w mg mb _ _ fa s₁.heap (hY w _ Y) G.T hmg
  exact end_own [Q1] (hY w _ Y) G.T hi0 hg h1 h2 h3 hobj hints (Nat.le_trans hlen (by decide)) ⟨rfl, by decide, by decide⟩ h5 h4 fun H t hS => ⟨a, ns, rfl, hS, hlen, ⟨#[], t Q1 (by simp), trivial⟩, fun _ => rfl⟩
theorem all_mk {l : PySem.W.OpenLaw} {w : World} {K : PySem.W.Frag} {q : Program} {lo : List Str} {mean : ExcName → Option Value} {h : Heap} {mg mb : Str → Option Value} {fa fW fR fIO fPE fPL fBI fBR fLP fRO fRC fBG fSR fDR fCA fQU fPA fHA fRA fRG fZ cIO PIO   : Addr} (X : K.In h) (G : Top q lo mean mg mb h) (hfa : mg "law" = some (.ref fa))
    {odW anW : Option Addr} {slW : Array (Option Value)} {ocW kVW dcW pmW cdW ctW : Value}
    {odR anR : Option Addr} {slR : Array (Option Value)} {ocR kVR dcR pmR cdR ctR : Value}
    {odIO anIO : Option Addr} {slIO : Array (Option Value)} {ocIO kVIO dcIO pmIO ctIO : Value}
    {odPE anPE : Option Addr} {slPE : Array (Option Value)} {ocPE kVPE dcPE pmPE cdPE ctPE : Value}
    {odPL anPL : Option Addr} {slPL : Array (Option Value)} {ocPL kVPL dcPL pmPL cdPL ctPL : Value}
    {odBI anBI : Option Addr} {slBI : Array (Option Value)} {ocBI kVBI dcBI pmBI cdBI ctBI : Value}
    {odBR anBR : Option Addr} {slBR : Array (Option Value)} {ocBR kVBR dcBR pmBR cdBR ctBR : Value}
    {odLP anLP : Option Addr} {slLP : Array (Option Value)} {ocLP kVLP dcLP pmLP cdLP ctLP : Value}
    {odRO anRO : Option Addr} {slRO : Array (Option Value)} {ocRO kVRO dcRO pmRO cdRO ctRO : Value}
    {odRC anRC : Option Addr} {slRC : Array (Option Value)} {ocRC kVRC dcRC pmRC cdRC ctRC : Value}
    {odBG anBG : Option Addr} {slBG : Array (Option Value)} {ocBG kVBG dcBG pmBG cdBG ctBG : Value}
    {odSR anSR : Option Addr} {slSR : Array (Option Value)} {ocSR kVSR dcSR pmSR cdSR ctSR : Value}
    {odDR anDR : Option Addr} {slDR : Array (Option Value)} {ocDR kVDR dcDR pmDR cdDR ctDR : Value}
    {odCA anCA : Option Addr} {slCA : Array (Option Value)} {ocCA kVCA dcCA pmCA cdCA ctCA : Value}
    {odQU anQU : Option Addr} {slQU : Array (Option Value)} {ocQU kVQU dcQU pmQU cdQU ctQU : Value}
    {odPA anPA : Option Addr} {slPA : Array (Option Value)} {ocPA kVPA dcPA pmPA cdPA ctPA : Value}
    {odHA anHA : Option Addr} {slHA : Array (Option Value)} {ocHA kVHA dcHA pmHA cdHA ctHA : Value}
    {odRA anRA : Option Addr} {slRA : Array (Option Value)} {ocRA kVRA dcRA pmRA cdRA ctRA : Value}
    {odRG anRG : Option Addr} {slRG : Array (Option Value)} {ocRG kVRG dcRG pmRG cdRG ctRG : Value}
    {odZ anZ : Option Addr} {slZ : Array (Option Value)} {ocZ kVZ dcZ pmZ cdZ ctZ : Value} {eIO : Value} {dIO : Option Addr} {usIO : Array Value} {wIO : Array (Option Value)} {tgM : Tok} {tgG : Tok}
    (aW : PySem.W.nsIn K mainGlobals "is_whole" = some (some (.ref fW))) (lW : K.lookup fW = some ⟨ocW, odW, .func (PySem.W.fnOf "is_whole" "is_whole" (defArgs sWhole) (defBody sWhole) (defScope sWhole) .none kVW dcW pmW anW cdW ctW), slW⟩) (Wc : PySem.W.codeIn K cdW "is_whole" = true) (kW : PySem.W.keepIn K (.ref fW) = true)
    (aR : PySem.W.nsIn K mainGlobals "is_row" = some (some (.ref fR))) (lR : K.lookup fR = some ⟨ocR, odR, .func (PySem.W.fnOf "is_row" "is_row" (defArgs sRow) (defBody sRow) (defScope sRow) .none kVR dcR pmR anR cdR ctR), slR⟩) (Rc : PySem.W.codeIn K cdR "is_row" = true) (kR : PySem.W.keepIn K (.ref fR) = true)
    (aIO : PySem.W.nsIn K mainGlobals "is_order" = some (some (.ref fIO))) (lIO : K.lookup fIO = some ⟨ocIO, odIO, .func (PySem.W.fnOf "is_order" "is_order" (defArgs sIsO) (defBody sIsO) (defScope sIsO) .none kVIO dcIO pmIO anIO (.ref cIO) ctIO), slIO⟩) (IOc : PySem.W.codeIn K (.ref cIO) "is_order" = true) (kIO : PySem.W.keepIn K (.ref fIO) = true)
    (aPE : PySem.W.nsIn K mainGlobals "people_of" = some (some (.ref fPE))) (lPE : K.lookup fPE = some ⟨ocPE, odPE, .func (PySem.W.fnOf "people_of" "people_of" (defArgs sPeople) (defBody sPeople) (defScope sPeople) .none kVPE dcPE pmPE anPE cdPE ctPE), slPE⟩) (PEc : PySem.W.codeIn K cdPE "people_of" = true) (kPE : PySem.W.keepIn K (.ref fPE) = true)
    (aPL : PySem.W.nsIn K mainGlobals "places_of" = some (some (.ref fPL))) (lPL : K.lookup fPL = some ⟨ocPL, odPL, .func (PySem.W.fnOf "places_of" "places_of" (defArgs sPlaces) (defBody sPlaces) (defScope sPlaces) .none kVPL dcPL pmPL anPL cdPL ctPL), slPL⟩) (PLc : PySem.W.codeIn K cdPL "places_of" = true) (kPL : PySem.W.keepIn K (.ref fPL) = true)
    (aBI : PySem.W.nsIn K mainGlobals "bar_it" = some (some (.ref fBI))) (lBI : K.lookup fBI = some ⟨ocBI, odBI, .func (PySem.W.fnOf "bar_it" "bar_it" (defArgs sBarIt) (defBody sBarIt) (defScope sBarIt) .none kVBI dcBI pmBI anBI cdBI ctBI), slBI⟩) (BIc : PySem.W.codeIn K cdBI "bar_it" = true) (kBI : PySem.W.keepIn K (.ref fBI) = true)
    (aBR : PySem.W.nsIn K mainGlobals "barring" = some (some (.ref fBR))) (lBR : K.lookup fBR = some ⟨ocBR, odBR, .func (PySem.W.fnOf "barring" "barring" (defArgs sBarring) (defBody sBarring) (defScope sBarring) .none kVBR dcBR pmBR anBR cdBR ctBR), slBR⟩) (BRc : PySem.W.codeIn K cdBR "barring" = true) (kBR : PySem.W.keepIn K (.ref fBR) = true)
    (aLP : PySem.W.nsIn K mainGlobals "least_patiences" = some (some (.ref fLP))) (lLP : K.lookup fLP = some ⟨ocLP, odLP, .func (PySem.W.fnOf "least_patiences" "least_patiences" (defArgs sLeast) (defBody sLeast) (defScope sLeast) .none kVLP dcLP pmLP anLP cdLP ctLP), slLP⟩) (LPc : PySem.W.codeIn K cdLP "least_patiences" = true) (kLP : PySem.W.keepIn K (.ref fLP) = true)
    (aRO : PySem.W.nsIn K mainGlobals "refuser_of" = some (some (.ref fRO))) (lRO : K.lookup fRO = some ⟨ocRO, odRO, .func (PySem.W.fnOf "refuser_of" "refuser_of" (defArgs sRefus) (defBody sRefus) (defScope sRefus) .none kVRO dcRO pmRO anRO cdRO ctRO), slRO⟩) (ROc : PySem.W.codeIn K cdRO "refuser_of" = true) (kRO : PySem.W.keepIn K (.ref fRO) = true)
    (aRC : PySem.W.nsIn K mainGlobals "rows_counted" = some (some (.ref fRC))) (lRC : K.lookup fRC = some ⟨ocRC, odRC, .func (PySem.W.fnOf "rows_counted" "rows_counted" (defArgs sRowsC) (defBody sRowsC) (defScope sRowsC) .none kVRC dcRC pmRC anRC cdRC ctRC), slRC⟩) (RCc : PySem.W.codeIn K cdRC "rows_counted" = true) (kRC : PySem.W.keepIn K (.ref fRC) = true)
    (aBG : PySem.W.nsIn K mainGlobals "_law_bag" = some (some (.ref fBG))) (lBG : K.lookup fBG = some ⟨ocBG, odBG, .func (PySem.W.fnOf "_law_bag" "_law_bag" (defArgs sBag) (defBody sBag) (defScope sBag) .none kVBG dcBG pmBG anBG cdBG ctBG), slBG⟩) (BGc : PySem.W.codeIn K cdBG "_law_bag" = true) (kBG : PySem.W.keepIn K (.ref fBG) = true)
    (aSR : PySem.W.nsIn K mainGlobals "_law_stir" = some (some (.ref fSR))) (lSR : K.lookup fSR = some ⟨ocSR, odSR, .func (PySem.W.fnOf "_law_stir" "_law_stir" (defArgs sStir) (defBody sStir) (defScope sStir) .none kVSR dcSR pmSR anSR cdSR ctSR), slSR⟩) (SRc : PySem.W.codeIn K cdSR "_law_stir" = true) (kSR : PySem.W.keepIn K (.ref fSR) = true)
    (aDR : PySem.W.nsIn K mainGlobals "_law_draw" = some (some (.ref fDR))) (lDR : K.lookup fDR = some ⟨ocDR, odDR, .func (PySem.W.fnOf "_law_draw" "_law_draw" (defArgs sDraw) (defBody sDraw) (defScope sDraw) .none kVDR dcDR pmDR anDR cdDR ctDR), slDR⟩) (DRc : PySem.W.codeIn K cdDR "_law_draw" = true) (kDR : PySem.W.keepIn K (.ref fDR) = true)
    (aCA : PySem.W.nsIn K mainGlobals "_law_came" = some (some (.ref fCA))) (lCA : K.lookup fCA = some ⟨ocCA, odCA, .func (PySem.W.fnOf "_law_came" "_law_came" (defArgs sCame) (defBody sCame) (defScope sCame) .none kVCA dcCA pmCA anCA cdCA ctCA), slCA⟩) (CAc : PySem.W.codeIn K cdCA "_law_came" = true) (kCA : PySem.W.keepIn K (.ref fCA) = true)
    (aQU : PySem.W.nsIn K mainGlobals "_law_queue" = some (some (.ref fQU))) (lQU : K.lookup fQU = some ⟨ocQU, odQU, .func (PySem.W.fnOf "_law_queue" "_law_queue" (defArgs sQueue) (defBody sQueue) (defScope sQueue) .none kVQU dcQU pmQU anQU cdQU ctQU), slQU⟩) (QUc : PySem.W.codeIn K cdQU "_law_queue" = true) (kQU : PySem.W.keepIn K (.ref fQU) = true)
    (aPA : PySem.W.nsIn K mainGlobals "_law_patience" = some (some (.ref fPA))) (lPA : K.lookup fPA = some ⟨ocPA, odPA, .func (PySem.W.fnOf "_law_patience" "_law_patience" (defArgs sPatL) (defBody sPatL) (defScope sPatL) .none kVPA dcPA pmPA anPA cdPA ctPA), slPA⟩) (PAc : PySem.W.codeIn K cdPA "_law_patience" = true) (kPA : PySem.W.keepIn K (.ref fPA) = true)
    (aHA : PySem.W.nsIn K mainGlobals "_law_handed" = some (some (.ref fHA))) (lHA : K.lookup fHA = some ⟨ocHA, odHA, .func (PySem.W.fnOf "_law_handed" "_law_handed" (defArgs sHand) (defBody sHand) (defScope sHand) .none kVHA dcHA pmHA anHA cdHA ctHA), slHA⟩) (HAc : PySem.W.codeIn K cdHA "_law_handed" = true) (kHA : PySem.W.keepIn K (.ref fHA) = true)
    (aRA : PySem.W.nsIn K mainGlobals "_law_raised" = some (some (.ref fRA))) (lRA : K.lookup fRA = some ⟨ocRA, odRA, .func (PySem.W.fnOf "_law_raised" "_law_raised" (defArgs sRaised) (defBody sRaised) (defScope sRaised) .none kVRA dcRA pmRA anRA cdRA ctRA), slRA⟩) (RAc : PySem.W.codeIn K cdRA "_law_raised" = true) (kRA : PySem.W.keepIn K (.ref fRA) = true)
    (aRG : PySem.W.nsIn K mainGlobals "_law_right" = some (some (.ref fRG))) (lRG : K.lookup fRG = some ⟨ocRG, odRG, .func (PySem.W.fnOf "_law_right" "_law_right" (defArgs sRight) (defBody sRight) (defScope sRight) .none kVRG dcRG pmRG anRG cdRG ctRG), slRG⟩) (RGc : PySem.W.codeIn K cdRG "_law_right" = true) (kRG : PySem.W.keepIn K (.ref fRG) = true)
    (aZ : PySem.W.nsIn K mainGlobals "law" = some (some (.ref fZ))) (lZ : K.lookup fZ = some ⟨ocZ, odZ, .func (PySem.W.fnOf "law" "law" (defArgs sLaw) (defBody sLaw) (defScope sLaw) .none kVZ dcZ pmZ anZ cdZ ctZ), slZ⟩) (Zc : PySem.W.codeIn K cdZ "law" = true) (kZ : PySem.W.keepIn K (.ref fZ) = true)
    (z_isinstance : PySem.W.nsIn K mainGlobals "isinstance" = some none) (z_len : PySem.W.nsIn K mainGlobals "len" = some none) (z_all : PySem.W.nsIn K mainGlobals "all" = some none) (z_int : PySem.W.nsIn K mainGlobals "int" = some none) (z_bool : PySem.W.nsIn K mainGlobals "bool" = some none) (z_list : PySem.W.nsIn K mainGlobals "list" = some none) (z_tuple : PySem.W.nsIn K mainGlobals "tuple" = some none) (z_range : PySem.W.nsIn K mainGlobals "range" = some none) (z_sorted : PySem.W.nsIn K mainGlobals "sorted" = some none) (z_enumerate : PySem.W.nsIn K mainGlobals "enumerate" = some none) (z_repr : PySem.W.nsIn K mainGlobals "repr" = some none) (z_min : PySem.W.nsIn K mainGlobals "min" = some none) (z_max : PySem.W.nsIn K mainGlobals "max" = some none)
    (mIO : K.lookup cIO = some ⟨eIO, dIO, .fields usIO, wIO⟩) (pIO : usIO[11]? = some (.ref PIO)) (qIO : PySem.W.codeHdIn K cIO PIO = true) (nIO : (K.lookup PIO).isNone = true) (rIO : ((recsOf q).any fun e => e.name == "is_order") = true)
    
    
    (gM : PySem.W.nsIn K mainGlobals "MOST_PEOPLE" = some (some (.int 60 tgM))) (gG : PySem.W.nsIn K mainGlobals "GREATEST_MOST" = some (some (.int 1000000000000000000 tgG))) : AtLaw l w K mg fa h := by
  have e := hfa.symm.trans (PySem.W.mg_of X G.g aZ)
  cases e
  have FW := fun_mk (st := sWhole) lW Wc kW
  have FR := fun_mk (st := sRow) lR Rc kR
  have FIO := fun_mk (st := sIsO) lIO IOc kIO
  have FPE := fun_mk (st := sPeople) lPE PEc kPE
  have FPL := fun_mk (st := sPlaces) lPL PLc kPL
  have FBI := fun_mk (st := sBarIt) lBI BIc kBI
  have FBR := fun_mk (st := sBarring) lBR BRc kBR
  have FLP := fun_mk (st := sLeast) lLP LPc kLP
  have FRO := fun_mk (st := sRefus) lRO ROc kRO
  have FRC := fun_mk (st := sRowsC) lRC RCc kRC
  have FBG := fun_mk (st := sBag) lBG BGc kBG
  have FSR := fun_mk (st := sStir) lSR SRc kSR
  have FDR := fun_mk (st := sDraw) lDR DRc kDR
  have FCA := fun_mk (st := sCame) lCA CAc kCA
  have FQU := fun_mk (st := sQueue) lQU QUc kQU
  have FPA := fun_mk (st := sPatL) lPA PAc kPA
  have FHA := fun_mk (st := sHand) lHA HAc kHA
  have FRA := fun_mk (st := sRaised) lRA RAc kRA
  have FRG := fun_mk (st := sRight) lRG RGc kRG
  have FZ := fun_mk (st := sLaw) lZ Zc kZ
  have bW := FW.binds (ps := ["thing"]) fun _ _ _ _ _ _ us hl => match us, hl with | [_], _ => rfl
  have bR := FR.binds (ps := ["thing"]) fun _ _ _ _ _ _ us hl => match us, hl with | [_], _ => rfl
  have bIO := FIO.binds (ps := ["thing"]) fun _ _ _ _ _ _ us hl => match us, hl with | [_], _ => rfl
  have bPE := FPE.binds (ps := ["order"]) fun _ _ _ _ _ _ us hl => match us, hl with | [_], _ => rfl
  have bPL := FPL.binds (ps := ["people"]) fun _ _ _ _ _ _ us hl => match us, hl with | [_], _ => rfl
  have bBI := FBI.binds (ps := ["places", "youngest", "oldest", "between"]) fun _ _ _ _ _ _ us hl => match us, hl with | [_, _, _, _], _ => rfl
  have bBR := FBR.binds (ps := ["order"]) fun _ _ _ _ _ _ us hl => match us, hl with | [_], _ => rfl
  have bLP := FLP.binds (ps := ["order"]) fun _ _ _ _ _ _ us hl => match us, hl with | [_], _ => rfl
  have bRO := FRO.binds (ps := ["people", "newcomer"]) fun _ _ _ _ _ _ us hl => match us, hl with | [_, _], _ => rfl
  have bRC := FRC.binds (ps := ["order", "most"]) fun _ _ _ _ _ _ us hl => match us, hl with | [_, _], _ => rfl
  have bBG := FBG.binds (ps := ["script"]) fun _ _ _ _ _ _ us hl => match us, hl with | [_], _ => rfl
  have bSR := FSR.binds (ps := ["number", "place"]) fun _ _ _ _ _ _ us hl => match us, hl with | [_, _], _ => rfl
  have bDR := FDR.binds (ps := ["bag", "many"]) fun _ _ _ _ _ _ us hl => match us, hl with | [_, _], _ => rfl
  have bCA := FCA.binds (ps := ["stand", "rest", "number", "patience"]) fun _ _ _ _ _ _ us hl => match us, hl with | [_, _, _, _], _ => rfl
  have bQU := FQU.binds (ps := ["patiences"]) fun _ _ _ _ _ _ us hl => match us, hl with | [_], _ => rfl
  have bPA := FPA.binds (ps := ["bag", "most"]) fun _ _ _ _ _ _ us hl => match us, hl with | [_, _], _ => rfl
  have bHA := FHA.binds (ps := ["bag", "thing"]) fun _ _ _ _ _ _ us hl => match us, hl with | [_, _], _ => rfl
  have bRA := FRA.binds (ps := ["least", "order"]) fun _ _ _ _ _ _ us hl => match us, hl with | [_, _], _ => rfl
  have bRG := FRG.binds (ps := ["bag", "patiences"]) fun _ _ _ _ _ _ us hl => match us, hl with | [_, _], _ => rfl
  have bZ := FZ.binds (ps := ["script"]) fun _ _ _ _ _ _ us hl => match us, hl with | [_], _ => rfl
  have CIO : FunC K "is_order" "is_order" sIsO fIO _ cIO := ⟨⟨ocIO, odIO, kVIO, dcIO, pmIO, anIO, ctIO, slIO, rfl, lIO, IOc⟩, kIO⟩
  have m := fun {n : Str} (e : PySem.W.nsIn K mainGlobals n = some none) => PySem.W.mg_none_of X G.g e
  have g := fun {n : Str} {v : Value} (e : PySem.W.nsIn K mainGlobals n = some (some v)) => PySem.W.mg_of X G.g e
  have T : Nm mg := ⟨m z_isinstance, m z_len, m z_all, m z_int, m z_bool, m z_list, m z_tuple, m z_range, m z_sorted, m z_enumerate, m z_repr, m z_min, ⟨_, g gM⟩⟩
  refine ⟨PySem.W.fnOf "law" "law" (defArgs sLaw) (defBody sLaw) (defScope sLaw) .none kVZ dcZ pmZ anZ cdZ ctZ, PIO, fun b hb => ?_, fun b hb => ?_, fun b hb => ?_, fun s v => .of_eq rfl, fun base _ _ hsys hB => ?_⟩
  · simp only [List.mem_cons, List.not_mem_nil, or_false] at hb
    rcases hb with rfl
    · exact tab_of G X rIO (PySem.W.mg_of X G.g aIO) lIO rfl rfl qIO
  · simp only [List.mem_cons, List.not_mem_nil, or_false] at hb
    rcases hb with rfl
    · exact ⟨_, qIO⟩
  · simp only [List.mem_cons, List.not_mem_nil, or_false] at hb
    rcases hb with rfl
    · exact Option.isNone_iff_eq_none.mp nIO
  · have XB : K.In base := ‹K.In base›
    have TBIO : GxR.TabB base mg cIO PIO := ⟨PySem.W.codeHd_of_K XB qIO, (hB PIO (by simp)).1, (hB PIO (by simp)).2⟩
    have KW : Cal l.prog w K mg base 1 "is_whole" ["thing"] (spOne isWhole) := ⟨fW, _, g aW, kW, bW, ok_whole FW T⟩
    have KR : Cal l.prog w K mg base 1 "is_row" ["thing"] (spOne isRow) := ⟨fR, _, g aR, kR, bR, ok_row FR T⟩
    have KIO : Cal l.prog w K mg base 4 "is_order" ["thing"] (spIsO PIO) := ⟨fIO, _, g aIO, kIO, bIO, ok_isO CIO T TBIO KR KW⟩
    have KPE : Cal l.prog w K mg base 5 "people_of" ["order"] (spPeople PIO) := ⟨fPE, _, g aPE, kPE, bPE, ok_people FPE T KIO⟩
    have KPL : Cal l.prog w K mg base 1 "places_of" ["people"] (spPlaces) := ⟨fPL, _, g aPL, kPL, bPL, ok_places FPL T⟩
    have KBI : Cal l.prog w K mg base 1 "bar_it" ["places", "youngest", "oldest", "between"] (spBarIt) := ⟨fBI, _, g aBI, kBI, bBI, ok_barIt FBI⟩
    have KBR : Cal l.prog w K mg base 6 "barring" ["order"] (spBarring PIO) := ⟨fBR, _, g aBR, kBR, bBR, ok_barring FBR T KPE KPL KBI⟩
    have KLP : Cal l.prog w K mg base 7 "least_patiences" ["order"] (spLeast PIO) := ⟨fLP, _, g aLP, kLP, bLP, ok_least FLP T KPE KPL KBR⟩
    have KRO : Cal l.prog w K mg base 1 "refuser_of" ["people", "newcomer"] (spRefus) := ⟨fRO, _, g aRO, kRO, bRO, ok_refus FRO T⟩
    have KRC : Cal l.prog w K mg base 8 "rows_counted" ["order", "most"] (spRowsC PIO) := ⟨fRC, _, g aRC, kRC, bRC, ok_rowsC FRC T (m z_max) ⟨_, g gG⟩ KW KPE KLP KRO⟩
    have KBG : Cal l.prog w K mg base 1 "_law_bag" ["script"] (spBag K) := ⟨fBG, _, g aBG, kBG, bBG, ok_bag FBG T.list⟩
    have KSR : Cal l.prog w K mg base 1 "_law_stir" ["number", "place"] (spStir) := ⟨fSR, _, g aSR, kSR, bSR, ok_stir FSR⟩
    have KDR : ∀ r, Cal l.prog w K mg base 2 "_law_draw" ["bag", "many"] (spDraw r) := fun r => ⟨fDR, _, g aDR, kDR, bDR, ok_draw FDR T.len KSR⟩
    have KDE : Cal l.prog w K mg base 2 "_law_draw" ["bag", "many"] (spE spDraw) := ⟨fDR, _, g aDR, kDR, bDR, fnE fun r => ok_draw FDR T.len KSR⟩
    have KCA : Cal l.prog w K mg base 1 "_law_came" ["stand", "rest", "number", "patience"] (spCame) := ⟨fCA, _, g aCA, kCA, bCA, ok_came FCA T.len⟩
    have KQU : Cal l.prog w K mg base 2 "_law_queue" ["patiences"] (spQueue) := ⟨fQU, _, g aQU, kQU, bQU, ok_queue FQU T.enum KCA⟩
    have KPA : ∀ r, Cal l.prog w K mg base 3 "_law_patience" ["bag", "most"] (spPatL r) := fun r => ⟨fPA, _, g aPA, kPA, bPA, ok_patL FPA (KDR r)⟩
    have KPAE : Cal l.prog w K mg base 3 "_law_patience" ["bag", "most"] (spE spPatL) := ⟨fPA, _, g aPA, kPA, bPA, fnE fun r => ok_patL FPA (KDR r)⟩
    have KHA : Cal l.prog w K mg base 3 "_law_handed" ["bag", "thing"] (spE spHand) := ⟨fHA, _, g aHA, kHA, bHA, fnE fun r => ok_hand FHA T (KDR r)⟩
    have KRA : Cal l.prog w K mg base 3 "_law_raised" ["least", "order"] (spRaised) := ⟨fRA, _, g aRA, kRA, bRA, ok_raised FRA T KQU⟩
    have KRG : Cal l.prog w K mg base 9 "_law_right" ["bag", "patiences"] (spE (spRight PIO)) := ⟨fRG, _, g aRG, kRG, bRG, fnE fun r => ok_right FRG T (m z_max) KQU KHA KLP KBR KRA (KDR r) KRC (KPA r)⟩
    exact (let GL := ok_law FZ T T.min KBG KDE KPAE KRG; ⟨fun A outer s H args us vs Q E _ hr he hb hv hs => GL.run A outer s H args us vs Q E hr he hb hv hs⟩)
end CL
open PySem PySem.W PyProof.Rows
set_option maxRecDepth 100000 in
set_option maxHeartbeats 0 in
theorem PySem.Challenge.cw_comersline_k38_whole_great_orders_holds : PySem.Challenge.rw_comersline_k38_whole_great_orders.Holds := by
  w_on; o_law; k_head; (case hw => w_witness2)
  k_fill
  refine CL.walk (l := PySem.Challenge.rw_comersline_k38_whole_great_orders) rfl rfl (by decide +kernel) (fun w h Y => PySem.W.kIn_of Y) ?F
  case F =>
    intro w mg mb mean lo fa h KX G hmg
    refine' CL.all_mk KX G hmg ?aW ?lW ?Wc ?kW ?aR ?lR ?Rc ?kR ?aIO ?lIO ?IOc ?kIO ?aPE ?lPE ?PEc ?kPE ?aPL ?lPL ?PLc ?kPL ?aBI ?lBI ?BIc ?kBI ?aBR ?lBR ?BRc ?kBR ?aLP ?lLP ?LPc ?kLP ?aRO ?lRO ?ROc ?kRO ?aRC ?lRC ?RCc ?kRC ?aBG ?lBG ?BGc ?kBG ?aSR ?lSR ?SRc ?kSR ?aDR ?lDR ?DRc ?kDR ?aCA ?lCA ?CAc ?kCA ?aQU ?lQU ?QUc ?kQU ?aPA ?lPA ?PAc ?kPA ?aHA ?lHA ?HAc ?kHA ?aRA ?lRA ?RAc ?kRA ?aRG ?lRG ?RGc ?kRG ?aZ ?lZ ?Zc ?kZ ?z_isinstance ?z_len ?z_all ?z_int ?z_bool ?z_list ?z_tuple ?z_range ?z_sorted ?z_enumerate ?z_repr ?z_min ?z_max ?mIO ?pIO ?qIO ?nIO ?rIO ?gM ?gG
    (case aW => k_is)
    (case lW => k_is)
    (case Wc => k_is)
    (case kW => k_is)
    (case aR => k_is)
    (case lR => k_is)
    (case Rc => k_is)
    (case kR => k_is)
    (case aIO => k_is)
    (case lIO => k_is)
    (case IOc => k_is)
    (case kIO => k_is)
    (case aPE => k_is)
    (case lPE => k_is)
    (case PEc => k_is)
    (case kPE => k_is)
    (case aPL => k_is)
    (case lPL => k_is)
    (case PLc => k_is)
    (case kPL => k_is)
    (case aBI => k_is)
    (case lBI => k_is)
    (case BIc => k_is)
    (case kBI => k_is)
    (case aBR => k_is)
    (case lBR => k_is)
    (case BRc => k_is)
    (case kBR => k_is)
    (case aLP => k_is)
    (case lLP => k_is)
    (case LPc => k_is)
    (case kLP => k_is)
    (case aRO => k_is)
    (case lRO => k_is)
    (case ROc => k_is)
    (case kRO => k_is)
    (case aRC => k_is)
    (case lRC => k_is)
    (case RCc => k_is)
    (case kRC => k_is)
    (case aBG => k_is)
    (case lBG => k_is)
    (case BGc => k_is)
    (case kBG => k_is)
    (case aSR => k_is)
    (case lSR => k_is)
    (case SRc => k_is)
    (case kSR => k_is)
    (case aDR => k_is)
    (case lDR => k_is)
    (case DRc => k_is)
    (case kDR => k_is)
    (case aCA => k_is)
    (case lCA => k_is)
    (case CAc => k_is)
    (case kCA => k_is)
    (case aQU => k_is)
    (case lQU => k_is)
    (case QUc => k_is)
    (case kQU => k_is)
    (case aPA => k_is)
    (case lPA => k_is)
    (case PAc => k_is)
    (case kPA => k_is)
    (case aHA => k_is)
    (case lHA => k_is)
    (case HAc => k_is)
    (case kHA => k_is)
    (case aRA => k_is)
    (case lRA => k_is)
    (case RAc => k_is)
    (case kRA => k_is)
    (case aRG => k_is)
    (case lRG => k_is)
    (case RGc => k_is)
    (case kRG => k_is)
    (case aZ => k_is)
    (case lZ => k_is)
    (case Zc => k_is)
    (case kZ => k_is)
    (case z_isinstance => k_is)
    (case z_len => k_is)
    (case z_all => k_is)
    (case z_int => k_is)
    (case z_bool => k_is)
    (case z_list => k_is)
    (case z_tuple => k_is)
    (case z_range => k_is)
    (case z_sorted => k_is)
    (case z_enumerate => k_is)
    (case z_repr => k_is)
    (case z_min => k_is)
    (case z_max => k_is)
    (case mIO => k_is)
    (case pIO => rfl)
    (case qIO => kernel_rfl)
    (case nIO => kernel_rfl)
    (case rIO => kernel_rfl)
    (case gM => k_is)
    (case gG => k_is)
