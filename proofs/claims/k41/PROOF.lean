import PyProof.Rows.All
import Wide.All
import OpenK.AllK
import Wide.FinOn
import HandS.ForMost
import HandS.ForExc
import HandS.AnyAll
import HandS.GenBody
import HandS.IsInst
import HandS.TupAny
import HandS.Wide
import HandS.Codes
import HandS.Conv
import HandS.Text
import HandS.More
import HandS.HotCalls
import HandS.ExcIs
import HandS.ExcValue
import HandS.ExcCtx
import HandS.Flow
import HandS.Walk
import HandS.Style
import HandS.Dict
import HandS.EndTab
import HandS.NestedK
import PySem.Challenge.RW_comersline_k41_lines_told_anew
namespace GE
end GE
set_option Elab.async false
set_option linter.all false
set_option maxRecDepth 100000
set_option maxHeartbeats 1000000
namespace CL
open PySem PySem.Spec PyProof.Rows L2 GE
/-! ### what a value is worth, as data -/
mutual
inductive Rp (H : Hp) : V → PyData → Prop
  | non : Rp H .non .none
  | bl (b : Bool) : Rp H (.bl b) (.bool b)
  | int (i : Int) : Rp H (.int i) (.int i)
  | str (x : Str) : Rp H (.str x) (.str x)
  | lst {a : Addr} {xs : List V} {ds : List PyData} : H a = some (.lst xs) → RpAll H xs ds → Rp H (.ref a) (.list ds)
  | tup {a : Addr} {xs : List V} {ds : List PyData} : H a = some (.tup xs) → RpAll H xs ds → Rp H (.ref a) (.tuple ds)
  | dct {a : Addr} : H a = some (.dK []) → Rp H (.ref a) (.dict [])
inductive RpAll (H : Hp) : List V → List PyData → Prop
  | nil : RpAll H [] []
  | cons {v : V} {vs : List V} {d : PyData} {ds : List PyData} : Rp H v d → RpAll H vs ds → RpAll H (v :: vs) (d :: ds)
end
/-- all stays but tables, which may grow -/
def Ex (H H' : Hp) : Prop := ∀ b o, H b = some o → H' b = some o ∨ ∃ ps qs, o = .tbl ps ∧ H' b = some (.tbl qs) ∧ TriplesOk qs.toList
theorem Ex.refl (H : Hp) : Ex H H := fun _ _ h => .inl h
theorem Ex.of {H H' : Hp} (s : Same H H') : Ex H H' := fun b o h => .inl (s b o h)
theorem Ex.trans {H H1 H2 : Hp} (a : Ex H H1) (b : Ex H1 H2) : Ex H H2 := fun c o h => by
  rcases a c o h with q | ⟨ps, qs, e, q⟩
  · exact b c o q
  · rcases b c _ q.1 with r | ⟨ps', qs', _, r⟩
    · exact .inr ⟨ps, qs, e, r, q.2⟩
    · exact .inr ⟨ps, qs', e, r⟩
theorem Ex.keep {H H' : Hp} (e : Ex H H') {b : Addr} {o : HO} (h : H b = some o) (n : ∀ ps, o ≠ .tbl ps) : H' b = some o := by
  rcases e b o h with q | ⟨ps, _, z, _⟩
  · exact q
  · exact absurd z (n ps)
theorem Ex.lst {H H' : Hp} (e : Ex H H') {b : Addr} {xs : List V} (h : H b = some (.lst xs)) : H' b = some (.lst xs) := e.keep h fun _ => nofun
theorem Ex.tup {H H' : Hp} (e : Ex H H') {b : Addr} {xs : List V} (h : H b = some (.tup xs)) : H' b = some (.tup xs) := e.keep h fun _ => nofun
theorem Ex.free {H H' : Hp} (e : Ex H H') {l : Addr} (h : H' l = none) : H l = none := by
  cases q : H l with
  | none => rfl
  | some o =>
    rcases e l o q with r | ⟨_, _, _, r, _⟩
    · rw [h] at r; cases r
    · rw [h] at r; cases r
theorem Ex.new {H : Hp} {p : Addr} {o : HO} (h : H p = none) : Ex H (upd H p o) := fun b x e => .inl (by rw [upd_ne (ne_of_none e h)]; exact e)
theorem same_upd {H : Hp} {p : Addr} {o : HO} (h : H p = none) : Same H (upd H p o) := fun b x e => by
  rw [upd_ne (ne_of_none e h)]
  exact e
mutual
theorem Rp.ex {H H' : Hp} (e : Ex H H') : ∀ (d : PyData) (v : V), Rp H v d → Rp H' v d
  | .none, _, h => by cases h; exact .non
  | .bool b, _, h => by cases h; exact .bl b
  | .int i, _, h => by cases h; exact .int i
  | .str x, _, h => by cases h; exact .str x
  | .list ds, _, h => by
    cases h with
    | lst h1 h2 => exact .lst (e.lst h1) (RpAll.ex e ds _ h2)
  | .tuple ds, _, h => by
    cases h with
    | tup h1 h2 => exact .tup (e.tup h1) (RpAll.ex e ds _ h2)
  | .dict _, _, h => by
    cases h with
    | dct h1 => exact .dct (e.keep h1 fun _ => nofun)
theorem RpAll.ex {H H' : Hp} (e : Ex H H') : ∀ (ds : List PyData) (vs : List V), RpAll H vs ds → RpAll H' vs ds
  | [], _, h => by cases h; exact .nil
  | d :: ds, _, h => by
    cases h with
    | cons h1 h2 => exact .cons (Rp.ex e d _ h1) (RpAll.ex e ds _ h2)
end
theorem RpAll.length {H : Hp} : ∀ {vs : List V} {ds : List PyData}, RpAll H vs ds → vs.length = ds.length
  | _, _, .nil => rfl
  | _, _, .cons _ t => congrArg (· + 1) (RpAll.length t)
theorem RpAll.get {H : Hp} : ∀ {vs : List V} {ds : List PyData} {i : Nat} {v : V}, RpAll H vs ds → vs[i]? = some v → ∃ d, ds[i]? = some d ∧ Rp H v d
  | _, _, _, _, .nil, e => by simp at e
  | _, _, 0, _, .cons r _, e => by simp at e; subst e; exact ⟨_, rfl, r⟩
  | _, _, i + 1, _, .cons _ t, e => by
    obtain ⟨d, h1, h2⟩ := RpAll.get (i := i) t (by simpa using e)
    exact ⟨d, by simpa using h1, h2⟩
theorem RpAll.take {H : Hp} : ∀ {vs : List V} {ds : List PyData} (n : Nat), RpAll H vs ds → RpAll H (vs.take n) (ds.take n)
  | _, _, 0, _ => .nil
  | _, _, _ + 1, .nil => .nil
  | _, _, n + 1, .cons r t => .cons r (RpAll.take n t)
theorem RpAll.append {H : Hp} : ∀ {vs ws : List V} {ds es : List PyData}, RpAll H vs ds → RpAll H ws es → RpAll H (vs ++ ws) (ds ++ es)
  | _, _, _, _, .nil, s => s
  | _, _, _, _, .cons r t, s => .cons r (RpAll.append t s)
/-! ### plans, as the document tells -/
def tyName : PyData → String
  | .none => "NoneType" | .bool _ => "bool" | .int _ => "int" | .str _ => "str" | .list _ => "list" | .tuple _ => "tuple" | .dict _ => "dict"
def rowsD : PyData → Option (List PyData)
  | .list xs => some xs
  | .tuple xs => some xs
  | _ => none
def isRow (d : PyData) : Bool := (rowsD d).isSome
def isWhole : PyData → Bool
  | .int _ => true
  | _ => false
def isIntB : PyData → Bool
  | .int _ => true
  | .bool _ => true
  | _ => false
def isBoolB : PyData → Bool
  | .bool _ => true
  | _ => false
def isNone : PyData → Bool
  | .none => true
  | _ => false
abbrev GREAT : Int := 1000000000000000000000000000000
def isPatience : PyData → Bool
  | .none => true
  | .int i => decide (0 ≤ i) && decide (i ≤ GREAT)
  | _ => false
def isTurns (d : PyData) : Bool := match rowsD d with
  | some ds => decide (1 ≤ ds.length) && decide (ds.length ≤ 8) && ds.all isPatience
  | none => false
def isMany : PyData → Bool
  | .none => true
  | .int i => decide (0 ≤ i)
  | _ => false
def isPiece (d : PyData) : Bool := match rowsD d with
  | some [t, m] => isTurns t && isMany m
  | _ => false
def sndD (d : PyData) : PyData := match rowsD d with
  | some [_, m] => m
  | _ => .none
def worth : PyData → Int
  | .int i => i
  | _ => 0
def sumSnd (ds : List PyData) : Int := (ds.map fun d => worth (sndD d)).sum
def isPlanL (ds : List PyData) : Bool := decide (1 ≤ ds.length) && decide (ds.length ≤ 8) && ds.all isPiece && !((ds.take (ds.length - 1)).any fun d => isNone (sndD d)) && decide (sumSnd ds ≤ GREAT)
def isPlan (d : PyData) : Bool := match rowsD d with
  | some ds => isPlanL ds
  | none => false
theorem Rp.ty {K : PySem.W.Frag} {H : Hp} {v : V} {d : PyData} (h : Rp H v d) : TyX K H v (.type (tyName d)) := by
  cases h with
  | non => exact .base .non
  | bl b => exact .base (.bl b)
  | int i => exact .base (.int i)
  | str x => exact .base (.str x)
  | lst h _ => exact .base (.lst h)
  | tup h _ => exact .base (.tup h)
  | dct h => exact .base (.dK h)
theorem kit_int {K : PySem.W.Frag} (d : PyData) : PySem.W.kitOne K (.type (tyName d)) (.type "int") = some (isIntB d) := by cases d <;> (refine kit_ty ?_; dsimp only [tyName, isIntB]; decide +kernel)
theorem kit_bool {K : PySem.W.Frag} (d : PyData) : PySem.W.kitOne K (.type (tyName d)) (.type "bool") = some (isBoolB d) := by cases d <;> (refine kit_ty ?_; dsimp only [tyName, isBoolB]; decide +kernel)
theorem kit_list {K : PySem.W.Frag} (d : PyData) : PySem.W.kitOne K (.type (tyName d)) (.type "list") = some (match d with | .list _ => true | _ => false) := by cases d <;> (refine kit_ty ?_; dsimp only [tyName]; decide +kernel)
theorem kit_tuple {K : PySem.W.Frag} (d : PyData) : PySem.W.kitOne K (.type (tyName d)) (.type "tuple") = some (match d with | .tuple _ => true | _ => false) := by cases d <;> (refine kit_ty ?_; dsimp only [tyName]; decide +kernel)
theorem kit_rows {K : PySem.W.Frag} (d : PyData) : PySem.W.kitAny K (.type (tyName d)) [.type "list", .type "tuple"] = some (isRow d) := by
  refine kitAny_cons (kit_list d) (fun h => kitAny_cons (kit_tuple d) (fun h2 => ?_) fun h2 => ?_) fun h => ?_
  · cases d <;> first | exact kitAny_nil | (simp at h; done) | (simp at h2; done)
  · cases d <;> first | rfl | (simp at h; done) | (simp at h2; done)
  · cases d <;> first | rfl | (simp at h; done)
/-- a row's things -/
theorem Rp.rows {H : Hp} {v : V} {d : PyData} {ds : List PyData} (h : Rp H v d) (e : rowsD d = some ds) : ∃ a xs, v = .ref a ∧ RpAll H xs ds ∧ (H a = some (.lst xs) ∨ H a = some (.tup xs)) := by
  cases h with
  | lst h1 h2 => cases e; exact ⟨_, _, rfl, h2, .inl h1⟩
  | tup h1 h2 => cases e; exact ⟨_, _, rfl, h2, .inr h1⟩
  | _ => cases e
/-! ### for x in a list or a tuple -/
structure StSeq (H : Hp) (a : Addr) (xs : List V) : Prop where
  or : H a = some (.lst xs) ∨ H a = some (.tup xs)
theorem StSeq.ex {H H' : Hp} {a : Addr} {xs : List V} (s : StSeq H a xs) (e : Ex H H') : StSeq H' a xs := ⟨s.or.elim (fun h => .inl (e.lst h)) fun h => .inr (e.tup h)⟩
theorem StSeq.sq {K : PySem.W.Frag} {H : Hp} {a : Addr} {xs : List V} (s : StSeq H a xs) : SqL K H a xs ∨ SqT K H a xs := s.or.elim (fun h => .inl (SqL.of h)) fun h => .inr (SqT.of h)
/-- the thing that is walked stands -/
def StandsAs (K : PySem.W.Frag) (a : Addr) (xs : List V) (J : It) (H : Hp) : Prop := (J = Itl K a ∧ SqL K H a xs) ∨ (J = Itt K a ∧ SqT K H a xs)
section
variable {X : Cx} {tg : Expr}
def iSeq (K : PySem.W.Frag) (tl : TE) : TI := fun σ H R => tl σ H fun x H1 => ∃ a xs, x = .ref a ∧ StSeq H1 a xs ∧ ∀ J, (∀ H2, Ex H1 H2 → StandsAs K a xs J H2) → R J H1
theorem pi_seq {l : Expr} {tl : TE} (hl : PE X l tl) : PI X tg l (iSeq X.K tl) := by
  refine ⟨fun pins s σ H R I h => ?_⟩
  refine thn (hl.run pins s σ H _ I h) fun v s1 ⟨x, H1, I1, r1, q1⟩ => ?_
  obtain ⟨a, xs, e, st, q⟩ := q1
  subst e
  cases r1
  have new : ∀ b ∈ [s1.heap.objs.size], FpOk X pins H1 b := fun b hb => by
    rw [List.mem_singleton.mp hb]
    exact I1.fpOk (Nat.le_refl _) (I1.hok.fresh (Nat.le_refl _))
  rcases st.or with hq | hq
  · obtain ⟨its, rv, p, hz⟩ := I1.list (SqL.of hq)
    exact wpAny_pyIter_list p.isList ⟨s1.heap.objs.size, [s1.heap.objs.size], _, _, H1, rfl, I1.kept (t' := s1.toks) fun b o e => Heap.get?_push_of_some _ e, turn_list a _, ⟨_, Heap.get?_push_size _ rfl, rfl, rfl⟩, new, q _ fun H2 e => .inl ⟨rfl, SqL.of (e.lst hq)⟩⟩
  · obtain ⟨its, rv, p, hz⟩ := I1.tuple (SqT.of hq)
    exact wpAny_pyIter_tuple (show s1.heap.IsTuple a its.toArray from p) ⟨s1.heap.objs.size, [s1.heap.objs.size], _, _, H1, rfl, I1.kept (t' := s1.toks) fun b o e => Heap.get?_push_of_some _ e, turn_tuple a _, ⟨_, Heap.get?_push_size _ rfl, rfl, rfl⟩, new, q _ fun H2 e => .inr ⟨rfl, SqT.of (e.tup hq)⟩⟩
end
theorem StandsAs.go {K : PySem.W.Frag} {a : Addr} {xs : List V} {J : It} {H : Hp} {i : Nat} {x : V} (s : StandsAs K a xs J H) (h : xs[i]? = some x) : J.go i H := by
  rcases s with ⟨rfl, q⟩ | ⟨rfl, q⟩ <;> exact ⟨xs, x, q, h⟩
theorem StandsAs.stop {K : PySem.W.Frag} {a : Addr} {xs : List V} {J : It} {H : Hp} {i : Nat} (s : StandsAs K a xs J H) (h : xs.length ≤ i) : J.stop i H := by
  rcases s with ⟨rfl, q⟩ | ⟨rfl, q⟩ <;> exact ⟨xs, q, h⟩
theorem StandsAs.yld {K : PySem.W.Frag} {a : Addr} {xs : List V} {J : It} {H H' : Hp} {i : Nat} {x : V} (s : StandsAs K a xs J H) (h : J.yld i H x H') : H' = H ∧ xs[i]? = some x := by
  rcases s with ⟨rfl, q⟩ | ⟨rfl, q⟩ <;> exact ⟨h.1, h.2 xs q⟩
end CL
set_option Elab.async false
set_option linter.all false
set_option maxRecDepth 100000
set_option maxHeartbeats 4000000
namespace CL
open PySem PySem.Spec PyProof.Rows L2 GE
def topS (i : Nat) : Stmt := PySem.Challenge.pw_comersline_k41_lines_told_anew.main.body.getD i (.Pass ⟨0, 0, 0, 0⟩)
abbrev sWhole : Stmt := topS 19
abbrev sPat : Stmt := topS 23
theorem scWhole : FnScope ["thing"] ["thing"] (defScope sWhole) := ⟨rfl, rfl, rfl, by decide +kernel, rfl, by decide +kernel, by decide +kernel⟩
theorem scPat : FnScope ["thing"] ["thing"] (defScope sPat) := ⟨rfl, rfl, rfl, by decide +kernel, rfl, by decide +kernel, by decide +kernel⟩
/-- a def that may be called by its name -/
structure Cal (P : Program) (w : World) (K : PySem.W.Frag) (mg : Str → Option Value) (base : Heap) (k : Nat) (x : Str) (ps : List Str) (sp : Sp) : Prop where
  ex : ∃ f fd, mg x = some (.ref f) ∧ PySem.W.keepIn K (.ref f) = true ∧ Binds K fd ps [] ∧ FnOk P w K mg base CX0 k f fd ps sp
theorem pe_cal {X : Cx} {k : Nat} {x : Str} {ps : List Str} {sp : Sp} {p pos : Pos} {e : Expr} {es : List Expr} {t : TA} (C : Cal X.prog X.w X.K X.mg X.base k x ps sp) (hr : Room k X.A) (hg : Gl X x) (ha : PA X (e :: es) t) (hdb : (x == ("__debug__" : Str)) = false := by decide)
    (he : starEach (e :: es) X.env = (false, eval e X.env) :: starEach es X.env := by rfl) (hpl : (backTo pos (starEach es X.env)).any (·.1) = false := by rfl) : PE X (.Call (.Name x p) (e :: es) [] pos) (tCall sp [] E0 t) := by
  obtain ⟨f, fd, h1, h2, h3, h4⟩ := C.ex
  exact pe_call h4 hr hg h1 h2 h3 .nil pass0 ha hdb he hpl
theorem Cal.mono {P : Program} {w : World} {K : PySem.W.Frag} {mg : Str → Option Value} {base : Heap} {j k : Nat} {x : Str} {ps : List Str} {sp : Sp} (C : Cal P w K mg base j x ps sp) (h : j ≤ k) : Cal P w K mg base k x ps sp := by
  obtain ⟨f, fd, h1, h2, h3, h4⟩ := C.ex
  exact ⟨f, fd, h1, h2, h3, h4.mono h⟩
/-- names that are still the built-in ones, and constants -/
structure Nm (mg : Str → Option Value) : Prop where
  isi : mg "isinstance" = none
  len : mg "len" = none
  int : mg "int" = none
  bool : mg "bool" = none
  list : mg "list" = none
  range : mg "range" = none
  min : mg "min" = none
  great : ∃ t, mg "GREATEST" = some (.int GREAT t)
def spOne (g : PyData → Bool) : Sp := fun vs H Q _ => ∃ v d, vs = [v] ∧ Rp H v d ∧ ∀ H', Same H H' → Q (.bl (g d)) H'
theorem spOne_len {g : PyData → Bool} : ∀ vs H Q E, spOne g vs H Q E → vs.length = 1 := fun vs H Q E ⟨v, d, e, _⟩ => by rw [e]; rfl
section
variable {P : Program} {w : World} {K : PySem.W.Frag} {mg : Str → Option Value} {base : Heap}
theorem ok_whole {f : Addr} {fd : FuncData} (F : Fun K "is_whole" "is_whole" sWhole f fd) (T : Nm mg) : FnOk P w K mg base CX0 1 f fd ["thing"] (spOne isWhole) := by
  refine F.ok scWhole spOne_len (fun cdv A outer s H vs Q E hr h => ?_)
  obtain ⟨v, d, rfl, hR, q⟩ := h
  refine ⟨_, pss_one (ps_ret (pe_and (pe_callB call_isi (by rfl) T.isi (by decide +kernel) (pa_cons (pv 0) (pa_cons (pe_bltn (v := .ty "int") (by rfl) T.int PyProof.Rows.boot_int rfl) pa_nil)))
    (pe_one (pe_not (pe_callB call_isi (by rfl) T.isi (by decide +kernel) (pa_cons (pv 0) (pa_cons (pe_bltn (v := .ty "bool") (by rfl) T.bool PyProof.Rows.boot_bool rfl) pa_nil))))))), ?_⟩
  refine ⟨v, rfl, v, .ty "int", _, _, isIntB d, rfl, .ty _, hR.ty, kit_int d, isIntB d, rfl, ite2 (fun e => ?_) (fun e => ?_)⟩
  · refine ⟨v, rfl, v, .ty "bool", _, _, isBoolB d, rfl, .ty _, hR.ty, kit_bool d, isBoolB d, rfl, ?_⟩
    have z : (!isBoolB d) = isWhole d := by cases d <;> first | rfl | (exact absurd e Bool.false_ne_true)
    rw [z]
    exact q H (Same.refl H)
  · have z : isWhole d = false := by cases d <;> first | rfl | (exact absurd rfl e)
    have q' := q H (Same.refl H)
    rw [z] at q'
    exact q'
theorem ok_pat {f : Addr} {fd : FuncData} (F : Fun K "is_patience" "is_patience" sPat f fd) (T : Nm mg) (CW : Cal P w K mg base 1 "is_whole" ["thing"] (spOne isWhole)) : FnOk P w K mg base CX0 2 f fd ["thing"] (spOne isPatience) := by
  refine F.ok scPat spOne_len (fun cdv A outer s H vs Q E hr h => ?_)
  obtain ⟨v, d, rfl, hR, q⟩ := h
  obtain ⟨tg, hgr⟩ := T.great
  refine ⟨_, pss_one (ps_ret (pe_or (pe_cmp (pc_isN (pv 0)) rfl) (pe_one (pe_and (pe_cal CW hr (by rfl) (pa_cons (pv 0) pa_nil))
    (pe_one (pe_chain op_le op_le pe_int (pv 0) (pe_glob (v := .int GREAT) (by rfl) hgr ⟨_, rfl⟩))))))), ?_⟩
  refine ⟨v, rfl, decide (v = .non), rfl, ite2 (fun e => ?_) (fun e => ?_)⟩
  · have ev : v = .non := of_decide_eq_true e
    subst ev
    cases hR
    exact q H (Same.refl H)
  · have nv : v ≠ .non := fun z => e (decide_eq_true z)
    refine ⟨v, rfl, v, d, rfl, hR, fun H1 s1 => ⟨isWhole d, rfl, ite2 (fun e2 => ?_) (fun e2 => ?_)⟩⟩
    · cases hR with
      | int i =>
        refine ⟨.int i, rfl, 0, i, rfl, rfl, decide (0 ≤ i), rfl, ite2 (fun e3 => ?_) (fun e3 => ?_)⟩
        · refine ⟨i, GREAT, rfl, rfl, ?_⟩
          have q' := q H1 s1
          have z : isPatience (.int i) = decide (i ≤ GREAT) := by
            show (decide (0 ≤ i) && decide (i ≤ GREAT)) = _
            rw [e3, Bool.true_and]
          rw [z] at q'
          exact q'
        · have q' := q H1 s1
          have z : isPatience (.int i) = false := by
            show (decide (0 ≤ i) && decide (i ≤ GREAT)) = _
            rw [Bool.eq_false_iff.mpr e3, Bool.false_and]
          rw [z] at q'
          exact q'
      | _ => exact absurd e2 Bool.false_ne_true
    · have q' := q H1 s1
      have z : isPatience d = false := by
        cases hR with
        | non => exact absurd rfl nv
        | int i => exact absurd rfl e2
        | _ => rfl
      rw [z] at q'
      exact q'
end
theorem all_take {p : PyData → Bool} {ds : List PyData} {i : Nat} {d : PyData} (h : ds[i]? = some d) : (ds.take (i + 1)).all p = ((ds.take i).all p && p d) := by
  rw [List.take_add_one, h, List.all_append]
  simp
theorem any_take {p : PyData → Bool} {ds : List PyData} {i : Nat} {d : PyData} (h : ds[i]? = some d) : (ds.take (i + 1)).any p = ((ds.take i).any p || p d) := by
  rw [List.take_add_one, h, List.any_append]
  simp
theorem all_false {p : PyData → Bool} {ds : List PyData} {i : Nat} {d : PyData} (h : ds[i]? = some d) (e : p d = false) : ds.all p = false := by
  rw [List.all_eq_false]
  exact ⟨d, List.mem_of_getElem? h, by rw [e]; exact Bool.false_ne_true⟩
theorem any_true {p : PyData → Bool} {ds : List PyData} {i : Nat} {d : PyData} (h : ds[i]? = some d) (e : p d = true) : ds.any p = true := by
  rw [List.any_eq_true]
  exact ⟨d, List.mem_of_getElem? h, e⟩
theorem name_yes {i : Nat} {x : V} {σ : L2.St} {H : Hp} {A B : L2.St → Hp → Prop} (h : A (σ.set i (some x)) H) : gName i x σ H (fun σ2 H2 => tYes σ2 H2 fun b H3 => if b = true then A σ2 H3 else B σ2 H3) := by
  show if true = true then A (σ.set i (some x)) H else B (σ.set i (some x)) H
  exact iteT h
theorem nd1 {x : Str} : [x].Nodup := by simp
theorem p18 : (10 : Int) ^ (18 : Int).toNat = 1000000000000000000 := by decide +kernel
theorem p30 : (10 : Int) ^ (30 : Int).toNat = GREAT := by decide +kernel
theorem same_ne {H H' : Hp} (s : Same H H') {p b : Addr} (np : H' p = none) (hb : H b ≠ none) : b ≠ p := fun z => by
  rw [z] at hb
  cases q : H p with
  | none => exact hb q
  | some o =>
    rw [s p o q] at np
    cases np
theorem ints_dp {K : PySem.W.Frag} {H : Hp} : ∀ gs : List Int, DpAll K H (gs.map V.int) (gs.map PyData.int)
  | [] => .nil
  | x :: gs => .cons (.int x) (ints_dp gs)
theorem ints_lay : ∀ gs : List Int, PyData.canLayAll0 (gs.map PyData.int) = true
  | [] => by simp [PyData.canLayAll0]
  | x :: gs => by
    have := ints_lay gs
    simp [PyData.canLayAll0, PyData.canLay0, this]
theorem ints_depth : ∀ gs : List Int, PyData.depthAll (gs.map PyData.int) = 0
  | [] => rfl
  | x :: gs => by
    have := ints_depth gs
    show max 0 (PyData.depthAll (gs.map PyData.int)) = 0
    rw [this]
    rfl
theorem ints_shaped (gs : List Int) : SeqAt.shaped (.list (gs.map PyData.int)) = true := by
  unfold SeqAt.shaped
  have h1 : PyData.canLay0 (.list (gs.map PyData.int)) = true := by
    have := ints_lay gs
    simp [PyData.canLay0, this]
  have h2 : PyData.depth (.list (gs.map PyData.int)) = 1 := by
    show PyData.depthAll (gs.map PyData.int) + 1 = 1
    rw [ints_depth]
  rw [h1, h2]
  rfl
theorem ints_take (gs : List Int) (k : Nat) : (gs.map V.int).take k = (gs.take k).map V.int := List.map_take.symm
theorem cut_to (xs : List V) (k : Nat) : cutV xs none (some (k : Int)) = xs.take k := by
  unfold cutV
  have e0 : HT.sIx xs.length 0 none = 0 := rfl
  have e1 : HT.sIx xs.length xs.length (some (k : Int)) = min k xs.length := HT.sIx_nat _ _ _
  rw [e0, e1, List.drop_zero, Nat.sub_zero]
  rcases Nat.le_total k xs.length with h | h
  · rw [Nat.min_eq_left h]
  · rw [Nat.min_eq_right h, List.take_of_length_le h, List.take_of_length_le (Nat.le_refl _)]
theorem cut_from (xs : List V) (k : Nat) : cutV xs (some (k : Int)) none = xs.drop k := by
  unfold cutV
  have e0 : HT.sIx xs.length 0 (some (k : Int)) = min k xs.length := HT.sIx_nat _ _ _
  have e1 : HT.sIx xs.length xs.length none = xs.length := rfl
  rw [e0, e1]
  rcases Nat.le_total k xs.length with h | h
  · rw [Nat.min_eq_left h]
    exact List.take_of_length_le (by rw [List.length_drop]; exact Nat.le_refl _)
  · rw [Nat.min_eq_right h, List.drop_of_length_le (Nat.le_refl _), List.drop_of_length_le h]
    simp
theorem small_add {a b : Nat} (ha : a ≤ 1000) (hb : b ≤ 1000) : a + b ≤ sizeLine := by
  have : 2000 ≤ sizeLine := by decide
  omega
theorem small_le {a : Nat} (ha : a ≤ 1000) : a ≤ sizeLine := by
  have : 1000 ≤ sizeLine := by decide
  omega
theorem yesT {σ : L2.St} {H : Hp} {A B : Hp → Prop} (h : A H) : tYes σ H (fun b H3 => if b = true then A H3 else B H3) := by
  show if true = true then A H else B H
  exact iteT h
open Classical in
noncomputable def Hw (W : Addr → Prop) (H : Hp) : Hp := fun b => if W b then none else H b
theorem Hw.at {W : Addr → Prop} {H : Hp} {b : Addr} (n : ¬ W b) : Hw W H b = H b := by
  unfold Hw
  rw [if_neg n]
theorem Hw.ne {W : Addr → Prop} {H : Hp} {b : Addr} {o : HO} (e : Hw W H b = some o) : ¬ W b := fun z => by
  unfold Hw at e
  rw [if_pos z] at e
  cases e
theorem Hw.sub (W : Addr → Prop) (H : Hp) : Same (Hw W H) H := fun b o e => by rw [Hw.at (Hw.ne e)] at e; exact e
theorem Hw.less {W W' : Addr → Prop} {H : Hp} (h : ∀ b, W b → W' b) : Same (Hw W' H) (Hw W H) := fun b o e => by
  rw [Hw.at fun z => Hw.ne e (h b z)]
  exact Hw.sub W' H b o e
theorem Hw.more {W W' : Addr → Prop} {H : Hp} (h : ∀ b, W' b → W b ∨ H b = none) : Same (Hw W H) (Hw W' H) := fun b o e => by
  have e1 := Hw.sub W H b o e
  rw [Hw.at fun z => (h b z).elim (Hw.ne e) fun q => by rw [q] at e1; cases e1]
  exact e1
theorem hw_upd {W : Addr → Prop} {a : Addr} {H : Hp} {o : HO} (h : W a) : Hw W (upd H a o) = Hw W H := by
  funext b
  by_cases hb : W b
  · unfold Hw
    rw [if_pos hb, if_pos hb]
  · rw [Hw.at hb, Hw.at hb, upd_ne fun z => hb (by rw [z]; exact h)]
theorem Same.hw {W : Addr → Prop} {H H' : Hp} (m : Same H H') : Same (Hw W H) (Hw W H') := fun b o e => by
  rw [Hw.at (Hw.ne e)]
  exact m b o (Hw.sub W H b o e)
theorem Rp.sm {H H' : Hp} (s : Same H H') {v : V} {d : PyData} (h : Rp H v d) : Rp H' v d := Rp.ex (Ex.of s) d v h
theorem RpAll.sm {H H' : Hp} (s : Same H H') {vs : List V} {ds : List PyData} (h : RpAll H vs ds) : RpAll H' vs ds := RpAll.ex (Ex.of s) ds vs h
theorem RpAll.snoc {H : Hp} : ∀ {vs : List V} {ds : List PyData} {v : V} {d : PyData}, RpAll H vs ds → Rp H v d → RpAll H (vs ++ [v]) (ds ++ [d])
  | _, _, _, _, .nil, h => .cons h .nil
  | _, _, _, _, .cons a b, h => .cons a (RpAll.snoc b h)
theorem cut_last (xs : List V) : cutV xs none (some (-1)) = xs.take (xs.length - 1) := by
  unfold cutV
  have e0 : HT.sIx xs.length 0 none = 0 := rfl
  have e1 : HT.sIx xs.length xs.length (some (-1)) = xs.length - 1 := by
    show (if (-1 : Int) < 0 then ((-1 : Int) + (xs.length : Int)).toNat else min (-1 : Int).toNat xs.length) = _
    rw [if_pos (by decide)]
    omega
  rw [e0, e1, List.drop_zero, Nat.sub_zero]
end CL
set_option Elab.async false
set_option linter.all false
set_option pp.maxSteps 600
set_option maxRecDepth 100000
set_option maxHeartbeats 4000000
namespace CL
open PySem PySem.Spec PyProof.Rows L2 GE HotX
/-! ### the end of an iterator where an exception is handled -/
section
variable {prog : Program} {w : World} {A : Around} {E : Value → Shared → Prop} {s : Shared}
theorem list_stops {it l x1 : Addr} {i : Nat} {items : Array Value} {Q : Option Value → Shared → Prop} (hot : HotAt A x1 s.heap) (hne : x1 ≠ it) (at_ : s.heap.IsListIter it l i) (li : s.heap.IsList l items) (no : items[i]? = none)
    (q : ∀ h', Heap.ExtBut it s.heap h' → Q none { s with heap := h' }) : wpAny (model prog w) A (pyNext (.ref it)) Q E s := by
  obtain ⟨n0, o1, vs1, g0, d1, c1⟩ := hot
  obtain ⟨oi, gi, ki, di⟩ := id at_
  obtain ⟨ol, gl, _, nl, dl⟩ := li
  unfold pyNext
  refine wpAny_bind (wpAny_attempt (wpAny_callSpecial?_slot (name := Str.ofString "__next__") at_.typeIs slot_listiter_next (wpAny_call_entry slot_listiter_next at_.typeIs entry_listiter_next ?_ (args_listiter_next _))))
  show wpAny _ _ (field (.ref it) 0 >>= _) _ _ s
  refine wpAny_bind (wpAny_field gi di (x := .ref l) rfl ?_)
  show wpAny _ _ (if (Value.ref l == Value.none) = true then _ else _) _ _ s
  rw [if_neg (show ¬ ((Value.ref l == Value.none) = true) from Bool.false_ne_true)]
  show wpAny _ _ (field (.ref it) 1 >>= _) _ _ s
  refine wpAny_bind (wpAny_field gi di (x := .int i 0) rfl (wpAny_bind (wpAny_seqItems gl dl ?_)))
  simp only [Int.toNat_natCast, no]
  refine wpAny_bind (wpAny_rule (wpAny_bind (wpAny_setField gi di (by simp) ?_)))
  have sb := Heap.SameBut.update s.heap it (Obj.mapFields (·.setIfInBounds 0 Value.none))
  have g1 := sb.extBut x1 _ hne g0
  have nx : ∀ b o, b ≠ it → s.heap.get? b = some o → (s.heap.update it (Obj.mapFields (·.setIfInBounds 0 Value.none))).get? b = some o := fun b o nb e => sb.extBut b o nb e
  show wpAny _ _ (newExc (.type "StopIteration") [] >>= _) _ _ _
  refine wpAny_bind ?_
  simp only [newExc, newTuple]
  refine wpAny_bind (wpAny_newObj_type ?_ (by size_fits))
  refine wpAny_bind (m := firstArgMember _ _) (wpAny_of_eq (a := Value.none) (by first | rfl | (simp only [firstArgMember]; rfl)) ?_)
  refine wpAny_newObj_type ?_ (by size_fits)
  refine raiseNew_hot (x1 := x1) ⟨n0, _, _, Heap.get?_push_of_some _ (Heap.get?_push_of_some _ g1), d1, c1⟩ (Nat.ne_of_lt (Heap.lt_size (Heap.get?_push_of_some _ g1))) (Heap.get?_push_size _ rfl) rfl (by first | (simp; done) | (simp; omega) | (simp only [Array.size_append]; simp; omega)) ?_
  refine wpAny_bind (wpAny_isInstance (T := "StopIteration") (b := true) ⟨_, Heap.get?_update_self _ (Heap.get?_push_size _ rfl) rfl, rfl⟩ isSubtype_stop ?_)
  refine wpAny_pure (q _ fun b o nb e => ?_)
  rw [Heap.get?_update_other _ _ (Nat.ne_of_gt (Heap.lt_size (Heap.get?_push_of_some _ (nx b o nb e))))]
  exact Heap.get?_push_of_some _ (Heap.get?_push_of_some _ (nx b o nb e))
theorem tuple_stops {it t x1 : Addr} {i : Nat} {items : Array Value} {Q : Option Value → Shared → Prop} (hot : HotAt A x1 s.heap) (hne : x1 ≠ it) (at_ : IsTupIter s.heap it t i) (li : IsTup s.heap t items) (no : items[i]? = none)
    (q : ∀ h', Heap.ExtBut it s.heap h' → Q none { s with heap := h' }) : wpAny (model prog w) A (pyNext (.ref it)) Q E s := by
  obtain ⟨n0, o1, vs1, g0, d1, c1⟩ := hot
  obtain ⟨oi, gi, ki, di⟩ := id at_
  obtain ⟨ol, gl, _, nl, dl⟩ := li
  unfold pyNext
  refine wpAny_bind (wpAny_attempt (wpAny_callSpecial?_slot (name := Str.ofString "__next__") at_.typeIs slot_tupleiter_next (wpAny_call_entry slot_tupleiter_next at_.typeIs entry_tupleiter_next ?_ (args_tupleiter_next _))))
  show wpAny _ _ (field (.ref it) 0 >>= _) _ _ s
  refine wpAny_bind (wpAny_field gi di (x := .ref t) rfl ?_)
  show wpAny _ _ (if (Value.ref t == Value.none) = true then _ else _) _ _ s
  rw [if_neg (show ¬ ((Value.ref t == Value.none) = true) from Bool.false_ne_true)]
  show wpAny _ _ (field (.ref it) 1 >>= _) _ _ s
  refine wpAny_bind (wpAny_field gi di (x := .int i 0) rfl (wpAny_bind (wpAny_seqItems gl dl ?_)))
  simp only [Int.toNat_natCast, no]
  refine wpAny_bind (wpAny_rule (wpAny_bind (wpAny_setField gi di (by simp) ?_)))
  have sb := Heap.SameBut.update s.heap it (Obj.mapFields (·.setIfInBounds 0 Value.none))
  have g1 := sb.extBut x1 _ hne g0
  have nx : ∀ b o, b ≠ it → s.heap.get? b = some o → (s.heap.update it (Obj.mapFields (·.setIfInBounds 0 Value.none))).get? b = some o := fun b o nb e => sb.extBut b o nb e
  show wpAny _ _ (newExc (.type "StopIteration") [] >>= _) _ _ _
  refine wpAny_bind ?_
  simp only [newExc, newTuple]
  refine wpAny_bind (wpAny_newObj_type ?_ (by size_fits))
  refine wpAny_bind (m := firstArgMember _ _) (wpAny_of_eq (a := Value.none) (by first | rfl | (simp only [firstArgMember]; rfl)) ?_)
  refine wpAny_newObj_type ?_ (by size_fits)
  refine raiseNew_hot (x1 := x1) ⟨n0, _, _, Heap.get?_push_of_some _ (Heap.get?_push_of_some _ g1), d1, c1⟩ (Nat.ne_of_lt (Heap.lt_size (Heap.get?_push_of_some _ g1))) (Heap.get?_push_size _ rfl) rfl (by first | (simp; done) | (simp; omega) | (simp only [Array.size_append]; simp; omega)) ?_
  refine wpAny_bind (wpAny_isInstance (T := "StopIteration") (b := true) ⟨_, Heap.get?_update_self _ (Heap.get?_push_size _ rfl) rfl, rfl⟩ isSubtype_stop ?_)
  refine wpAny_pure (q _ fun b o nb e => ?_)
  rw [Heap.get?_update_other _ _ (Nat.ne_of_gt (Heap.lt_size (Heap.get?_push_of_some _ (nx b o nb e))))]
  exact Heap.get?_push_of_some _ (Heap.get?_push_of_some _ (nx b o nb e))
/-- a, b = a tuple, there -/
theorem untupled_hot {env : Env} {es : List Expr} {n : Nat} {pos : Pos} {t x1 : Addr} {items : Array Value} {Q : Unit → Shared → Prop} (hot : HotAt A x1 s.heap) (li : IsTup s.heap t items) (many : (assignEach es env).length = items.size) (plain : (assignEach es env).findIdx? (·.1) = none)
    (q : ∀ h', Heap.ExtBut s.heap.objs.size s.heap h' → wpAny (model prog w) A (assignInOrder ((assignEach es env).map (·.2)) items.toList) Q E { s with heap := h' }) : wpAny (model prog w) A (assign (.Tuple es n pos) env (.ref t)) Q E s := by
  obtain ⟨n0, o1, vs1, g0, d1, c1⟩ := hot
  have lt : t ≠ s.heap.objs.size := by
    obtain ⟨o, e, _⟩ := li
    exact Nat.ne_of_lt (Heap.lt_size e)
  have lx : x1 ≠ s.heap.objs.size := Nat.ne_of_lt (Heap.lt_size g0)
  rw [assign_Tuple]
  refine wpAny_bind (wpAny_standAt ?_)
  unfold unpack
  rw [many, plain]
  refine wpAny_bind (wpAny_holding ?_)
  unfold unpackItems notIterableAtAll
  refine wpAny_bind (wpAny_bind (wpAny_specialOf li.typeIs slot_tuple_iter.lookup (wpAny_pure ?_)))
  simp only [Bool.false_eq_true, if_false]
  refine wpAny_bind (wpAny_holding (iter_tuple li (wpAny_bind (wpAny_holding (draw_tuple lt items.size 0 _ _ ⟨_, Heap.get?_push_size _ rfl, rfl, rfl⟩ (li.push _) (by omega) fun h1 at1 sb1 => ?_)))))
  have all : (items.toList.drop 0).take items.size = items.toList := by rw [List.drop_zero]; exact List.take_of_length_le (by simp)
  rw [all, if_neg (by simp)]
  have up : ∀ b o, b ≠ s.heap.objs.size → s.heap.get? b = some o → h1.get? b = some o := fun b o nb e => sb1.extBut b o nb (Heap.get?_push_of_some _ e)
  refine wpAny_bind (wpAny_holding (tuple_stops ⟨n0, o1, vs1, up _ _ lx g0, d1, c1⟩ lx at1 ((li.push _).extBut sb1.extBut lt) (by simp) fun h2 e2 => ?_))
  simp only [Option.isSome_none, Bool.false_eq_true, if_false]
  exact wpAny_pure (q h2 fun b o nb e => e2 b o nb (up b o nb e))
end
end CL
set_option Elab.async false
set_option linter.all false
set_option pp.maxSteps 600
set_option maxRecDepth 100000
set_option maxHeartbeats 4000000
namespace CL
open PySem PySem.Spec PyProof.Rows L2 GE HotX
/-! ### targets and comprehensions where an exception is handled -/
/-- p is handled, and pinned -/
def HotP (X : Cx) (pins : List (Addr × Obj)) : Prop := ∃ p : Addr × Obj, L2H.Hot1 X.A p ∧ p ∈ X.pn ++ pins
theorem HotP.at {X : Cx} {pins : List (Addr × Obj)} {σ : L2.St} {H : Hp} {s : Shared} (c : HotP X pins) (I : Inv X pins σ H s) : ∃ p : Addr × Obj, HotAt X.A p.1 s.heap ∧ p ∈ X.pn ++ pins := by
  obtain ⟨p, ⟨e, vs, d, n⟩, m⟩ := c
  exact ⟨p, ⟨e, p.2, vs, (I.pin p m).1, d, n⟩, m⟩
/-- a target, there -/
structure PGH (X : Cx) (tg : Expr) (g : TG) : Prop where
  go : ∀ pins s σ H v u Q, HotP X pins → Inv X pins σ H s → RelV v u → g v σ H Q → wpAny (model X.prog X.w) X.A (assign tg X.env u) (fun _ t => ∃ σ' H', Inv X pins σ' H' t ∧ Q σ' H') X.xe s
theorem pgh_tup {X : Cx} {es : List Expr} {k n : Nat} {g : TGs} {pos : Pos} (h : PGs X es g) (hn : (assignEach es X.env).length = n := by rfl) (hst : (assignEach es X.env).findIdx? (·.1) = none := by rfl) : PGH X (.Tuple es k pos) (gTup X.K n g) := by
  refine ⟨fun pins s σ H v u Q c I r y => ?_⟩
  obtain ⟨a, xs, rfl, q, len, y⟩ := y
  cases (show u = Value.ref a from r)
  obtain ⟨its, rv, ta, _⟩ := I.tuple q
  obtain ⟨p, hot, _⟩ := c.at I
  refine untupled_hot hot ta (by simp [hn, ← len, rv.length]) hst fun h' e => ?_
  have J : Inv X pins σ H { s with heap := h' } := I.kept (t' := s.toks) fun b o e1 => e b o (Nat.ne_of_lt (Heap.lt_size e1)) e1
  exact h.run pins _ σ H xs _ Q J (by simpa using rv) y
/-- [elt for tg in l if ..]: the list at a stays xs; Pv by the turn and the heap (the new list at D within) -/
def tLcH (K : PySem.W.Frag) (tl : TE) (g : TG) (tt : TT) (te : TE) (vs : List Nat) : TE := fun σ H Q => tl σ H fun x H1 => ∃ a xs, x = .ref a ∧ SqL K H1 a xs ∧ ∀ D, H1 D = none → ∃ Pv : Nat → Hp → Prop, Pv 0 (upd H1 D (.lst [])) ∧ (∀ i H, Pv i H → SqL K H a xs) ∧
  (∀ i x H, xs[i]? = some x → Pv i H → g x (wipe σ vs) H fun σ2 H2 => wipe σ2 vs = wipe σ vs ∧ tt σ2 H2 fun b H3 => if b = true then te σ2 H3 fun y H4 => ∃ acc, H4 D = some (.lst acc) ∧ acc.length < sizeLine ∧ Pv (i + 1) (upd H4 D (.lst (acc ++ [y]))) else Pv (i + 1) H3) ∧
  ∀ H, Pv xs.length H → Q (.ref D) H
section
variable {X : Cx}
theorem lcH_core {pins : List (Addr × Obj)} {s : Shared} {σ : L2.St} {H : Hp} {Q : VK} {elt tg l : Expr} {ifs : List Expr} {scope : Scope} {own : List (Str × Nat)} {pos q0 : Pos} {tl te : TE} {g : TG} {tt : TT} {use : Option (Value → Sem Unit)} {Qf : Value → Shared → Prop}
    (hot : L2H.HotC X) (nd : X.N.Nodup) (I : Inv X pins σ H s) (hl : PE X l tl) (ok : BlkOk X.N X.env.scope scope own)
    (hg : ∀ s H C cl fp, PGH (X.blk s H scope (compEnvC scope cl C X.env) fp) tg g) (ht : ∀ s H C cl fp, PTs (X.blk s H scope (compEnvC scope cl C X.env) fp) ifs tt) (he : ∀ s H C cl fp, PE (X.blk s H scope (compEnvC scope cl C X.env) fp) elt te)
    (hs : ∀ x, foldedSetIterable l X.env x = pure x) (h : tLcH X.K tl g tt te (own.map (·.2)) σ H Q)
    (out : ∀ D C t m H', Inv X pins σ H' t → Q (.ref D) H' → t.heap.Ns C m → FpOk X pins H' C → compPost (model X.prog X.w) X.A X.xe use Qf (.ref D) C (.ok .next) t) :
    wpAny (model X.prog X.w) X.A (comprehension (.ListComp elt [⟨tg, l, ifs, 0⟩] scope pos) scope X.env q0 (newList []) false (eval l X.env) use) Qf X.xe s := by
  obtain ⟨p, hp, pm⟩ := hot
  have frees : ∀ y ∈ scope.names, y.2 = .free → ∃ c, X.env.cells.lookup y.1 = some c := fun y m e => (ok.free y m e).elim (fun k => I.ok.has _ (.inl k)) (fun k => I.ok.has _ (.inr k))
  refine wpAny_comprehension_free (use := use) rfl hs (closure_ok frees) ok.kind (fun y m e => by rw [ok.uniq y m, e]) (thn (hl.run pins s σ H _ I h) fun v s1 ⟨x, H1, I1, r1, a, xs, e1, sq, wish⟩ => ?_)
  subst e1
  cases (show v = Value.ref a from r1)
  obtain ⟨its1, rv1, ls1, _⟩ := I1.list sq
  refine wpAny_pyIter_list ls1.isList ?_
  generalize hz : s1.heap.objs.size = it
  have I2 : Inv X pins σ H1 { s1 with heap := s1.heap.push { cls := .type "list_iterator", data := .fields #[.ref a, .int 0 0] } } := I1.kept (t' := s1.toks) fun b o e => Heap.get?_push_of_some _ e
  have fresh : FpOk X pins H1 it := hz ▸ I1.fpOk (Nat.le_refl _) (I1.hok.fresh (Nat.le_refl _))
  have at2 : ({ s1 with heap := s1.heap.push { cls := .type "list_iterator", data := .fields #[.ref a, .int 0 0] } } : Shared).heap.IsListIter it a 0 := hz ▸ ⟨_, Heap.get?_push_size _ rfl, rfl, rfl⟩
  generalize ({ s1 with heap := s1.heap.push { cls := .type "list_iterator", data := .fields #[.ref a, .int 0 0] } } : Shared) = s2 at I2 at2 ⊢
  refine wpAny_newObj_type (newEnv_comp ?_) (by show 0 ≤ sizeLine; decide)
  have itlt : it < s2.heap.objs.size := by
    obtain ⟨o, e, _⟩ := at2
    exact Heap.lt_size e
  generalize hD : s2.heap.objs.size = D at itlt ⊢
  have nD : H1 D = none := I2.hok.fresh (Nat.le_of_eq hD)
  obtain ⟨Pv, p0, pl, ps, pe⟩ := wish D nD
  generalize h3 : ({ s2 with heap := s2.heap.push { cls := .type "list", data := .seq ([] : List Value).toArray } } : Shared) = s3
  have s3h : s3.heap = s2.heap.push { cls := .type "list", data := .seq ([] : List Value).toArray } := by rw [← h3]
  have I3 : Inv X pins σ (upd H1 D (.lst [])) s3 := by
    rw [← h3]
    exact I2.laid (t' := s2.toks) (fun b o e => Heap.get?_push_of_some _ e) (Nat.le_of_eq hD) ⟨Nat.zero_le _, [], 0, .nil, by rw [← hD]; exact Heap.get?_push_size _ rfl⟩
  have itD : it ≠ D := Nat.ne_of_lt itlt
  have itOk : FpOk X pins (upd H1 D (.lst [])) it := ⟨by rw [upd_ne itD]; exact fresh.1, fresh.2⟩
  have big : it < s3.heap.objs.size := by rw [s3h, Heap.size_push, hD]; exact Nat.lt_succ_of_lt itlt
  have at3 : s3.heap.IsListIter it a 0 := at2.at fun {o} e => by rw [s3h]; exact Heap.get?_push_of_some _ e
  have J := block_start (fp := [it]) I3 ok nd fun b m => by
    cases List.mem_singleton.mp m
    exact ⟨itOk, big⟩
  have gg := hg s3 (upd H1 D (.lst [])) s3.heap.objs.size (cellsFrom (s3.heap.objs.size + 1) scope.names (cloFrom X.env.cells scope.names [])) [it]
  have tt1 := ht s3 (upd H1 D (.lst [])) s3.heap.objs.size (cellsFrom (s3.heap.objs.size + 1) scope.names (cloFrom X.env.cells scope.names [])) [it]
  have ee := he s3 (upd H1 D (.lst [])) s3.heap.objs.size (cellsFrom (s3.heap.objs.size + 1) scope.names (cloFrom X.env.cells scope.names [])) [it]
  show codeAny _ _ (.compStart (.ListComp elt [⟨tg, l, ifs, 0⟩] scope pos) 0 (.ref it) (.ref D) (compEnvC scope (cellsFrom (s3.heap.objs.size + 1) scope.names (cloFrom X.env.cells scope.names [])) s3.heap.objs.size X.env)) (compPost (model X.prog X.w) X.A X.xe use Qf (.ref D) s3.heap.objs.size) { s3 with heap := pushCells (s3.heap.push { cls := .type "dict", data := .dict #[] }) scope.names }
  have keeps4 : ∀ b o, s3.heap.get? b = some o → (pushCells (s3.heap.push { cls := .type "dict", data := .dict #[] }) scope.names).get? b = some o := fun b o e => pushCells_keeps _ _ _ _ (Heap.get?_push_of_some _ e)
  have pin3 := I3.pin p (List.mem_append_left _ pm)
  generalize hce : compEnvC scope (cellsFrom (s3.heap.objs.size + 1) scope.names (cloFrom X.env.cells scope.names [])) s3.heap.objs.size X.env = ce at J gg tt1 ee ⊢
  have ceL : ce.locals = s3.heap.objs.size := by subst hce; rfl
  generalize hH3 : upd H1 D (.lst []) = H3 at I3 J gg tt1 ee p0 itOk pin3
  generalize h4 : ({ s3 with heap := pushCells (s3.heap.push { cls := .type "dict", data := .dict #[] }) scope.names } : Shared) = s4 at J ⊢
  have at4 : s4.heap.IsListIter it a 0 := at3.at fun {o} e => by rw [← h4]; exact keeps4 _ _ e
  -- the handled one stays pinned in the block
  have I4 : Inv (X.blk s3 H3 scope ce [it]) [p] (wipe σ (own.map (·.2))) H3 s4 := J.pins_of fun r m => by
    cases List.mem_singleton.mp m
    refine ⟨by rw [← h4]; exact keeps4 _ _ pin3.1, pin3.2.1, ?_, fun z => ?_, pin3.2.2.2.2⟩
    · show p.1 ≠ ce.locals
      rw [ceL]
      exact Nat.ne_of_lt (Heap.lt_size pin3.1)
    · exact (List.mem_cons.mp (I3.stkSub p.1 z)).elim pin3.2.2.1 pin3.2.2.2.1
  have hp4 : ∀ {pl : List (Addr × Obj)}, HotP (X.blk s3 H3 scope ce [it]) ([p] ++ pl) := fun {pl} => ⟨p, hp, List.mem_append_right _ (List.mem_append_left _ (List.mem_singleton.mpr rfl))⟩
  have pne : p.1 ≠ it := fun z => itOk.2.2.2.2.2 p (List.mem_append_left _ pm) z
  have own4 : ∀ {σ' : L2.St} {H' : Hp} {t : Shared}, Inv (X.blk s3 H3 scope ce [it]) [p] σ' H' t → H' it = none → FpOk (X.blk s3 H3 scope ce [it]) [p] H' it := fun {σ' H' t} I' n =>
    ⟨n, (I'.ok.exf it (List.mem_singleton.mpr rfl)).1, I'.ok.exfs it (List.mem_singleton.mpr rfl), .inl (List.mem_singleton.mpr rfl), fun y c e => (I'.ok.exf it (List.mem_singleton.mpr rfl)).2 y c e, fun r m => by
      rcases List.mem_append.mp m with m | m
      · exact nomatch m
      · cases List.mem_singleton.mp m
        exact pne⟩
  have loop : codeAny (model X.prog X.w) X.A (.compLoop (.ListComp elt [⟨tg, l, ifs, 0⟩] scope pos) 0 (.ref it) (.ref D) ce) (compPost (model X.prog X.w) X.A X.xe use Qf (.ref D) s3.heap.objs.size) s4 := by
    refine compLoop_any (fun n t => ∃ i H', Inv (X.blk s3 H3 scope ce [it]) [p] (wipe σ (own.map (·.2))) H' t ∧ t.heap.IsListIter it a i ∧ H' it = none ∧ Pv i H' ∧ n = xs.length - i ∧ i ≤ xs.length) ?_ xs.length ⟨0, H3, I4, at4, itOk.1, p0, by omega, Nat.zero_le _⟩
    rintro n s5 ⟨i, H5, I5, at5, n5, v5, rfl, le⟩
    have sq5 := pl i H5 v5
    obtain ⟨its5, rv5, ls5, _⟩ := I5.list sq5
    obtain ⟨f0, f1, f2, f3, f4, f5⟩ := own4 I5 n5
    have len5 := rv5.length
    by_cases lt : i < xs.length
    · obtain ⟨u, hu, ru⟩ := rv5.get (show xs[i]? = some xs[i] by simp [lt])
      refine wpAny_pyNext_list_item at5 ls5.isList (x := u) (by simpa using hu) fun h6 at6 sb6 => ?_
      have I6 : Inv (X.blk s3 H3 scope ce [it]) [p] (wipe σ (own.map (·.2))) H5 { s5 with heap := h6 } := I5.turned (t' := s5.toks) (fun b o nb e => (sb6.2 b nb).trans e) f0 f1 f3 f4 f5
      obtain ⟨oi, gi, ki, di⟩ := id at6
      refine go_of (s := { s5 with heap := h6 }) gi ki di (by decide) ?_
      have there6 : ∀ b ∈ [it], ∃ o, ({ s5 with heap := h6 } : Shared).heap.get? b = some o ∧ ∀ v, o.data ≠ .cell v := fun b m => by
        cases List.mem_singleton.mp m
        exact ⟨oi, gi, fun v z => by rw [di] at z; cases z⟩
      have I7 := I6.pinned (fp := [it]) (fun b m => by cases List.mem_singleton.mp m; exact own4 I6 n5) there6
      refine thnF (gg.go _ _ _ H5 xs[i] u _ hp4 I7 ru (ps i xs[i] H5 (by simp [lt]) v5)) fun _ s8 ⟨σ8, H8, I8, w8, q8⟩ => ?_
      refine thnF (tt1.run _ s8 σ8 H8 _ I8 q8) fun b s9 ⟨H9, I9, q9⟩ => ?_
      have fin : ∀ {t : Shared} {H' : Hp}, Inv (X.blk s3 H3 scope ce [it]) ([p] ++ pinsAt [it] h6) σ8 H' t → Pv (i + 1) H' → ∃ m, m < xs.length - i ∧ ∃ j H', Inv (X.blk s3 H3 scope ce [it]) [p] (wipe σ (own.map (·.2))) H' t ∧ t.heap.IsListIter it a j ∧ H' it = none ∧ Pv j H' ∧ m = xs.length - j ∧ j ≤ xs.length := fun {t H'} I' v' => by
        have k := I'.pin (it, oi) (List.mem_append_right _ (List.mem_append_right _ (mem_pinsAt (List.mem_singleton.mpr rfl) gi)))
        have hl : (wipe σ (own.map (·.2))).length = σ8.length := by rw [← w8, wipe_length]
        refine ⟨xs.length - (i + 1), by omega, i + 1, H', I'.unpinned.weak hl (fun j v e => ?_), ⟨oi, k.1, ki, di⟩, k.2.1, v', rfl, lt⟩
        rw [← w8] at e
        exact (wipe_some e).1
      cases b with
      | false =>
        simp only [Bool.false_eq_true, if_false] at q9 ⊢
        exact fin I9 q9
      | true =>
        simp only [if_true] at q9 ⊢
        refine thnF (ee.run _ s9 σ8 H9 _ I9 q9) fun z s10 ⟨yv, H10, I10, r10, acc, hD10, hz10, nx⟩ => ?_
        exact app_ok (X := X.blk s3 H3 scope ce [it]) I10 hD10 hz10 r10 fun s11 I11 => fin I11 nx
    · have e0 : i = xs.length := by omega
      subst e0
      obtain ⟨p', hot5, m5⟩ := HotP.at (X := X.blk s3 H3 scope ce [it]) (pins := [p]) ⟨p, hp, List.mem_append_right _ (List.mem_singleton.mpr rfl)⟩ I5
      have pe5 : p' = p := by
        exact (List.mem_append.mp m5).elim (fun m => nomatch m) (fun m => List.mem_singleton.mp m)
      rw [pe5] at hot5
      refine list_stops hot5 pne at5 ls5.isList (by simp; omega) fun h6 e6 => ?_
      have I6 : Inv (X.blk s3 H3 scope ce [it]) [p] (wipe σ (own.map (·.2))) H5 { s5 with heap := h6 } := I5.turned (t' := s5.toks) (fun b o nb e => e6 b o nb e) f0 f1 f3 f4 f5
      have I7 : Inv X pins σ H5 { s5 with heap := h6 } := I3.call' (ch := [it]) I6.os I6.base I6.hok I6.bare fun b m => by
        cases List.mem_singleton.mp m
        exact ⟨itOk.2.2.2.1, itOk.2.1, itOk.2.2.2.2.1, itOk.2.2.2.2.2⟩
      have nC : H5 s3.heap.objs.size = none := by
        have z : H5 ce.locals = none := I6.free
        rwa [ceL] at z
      obtain ⟨m, hn, _⟩ := I6.loc
      have hn : (h6 : Heap).Ns ce.locals m := hn
      rw [ceL] at hn
      exact out D s3.heap.objs.size { s5 with heap := h6 } m H5 I7 (pe _ v5) hn (I3.fpOk (Nat.le_refl _) nC)
  exact codeAny_compStart_list loop (wpAny_pyIter_listiter at4 loop)
/-- name = [..], there -/
theorem ps_setLcH {i : Nat} {y : Str} {py : Pos} {elt tg l : Expr} {ifs : List Expr} {scope : Scope} {own : List (Str × Nat)} {pos spos : Pos} {tl te : TE} {g : TG} {tt : TT} (hot : L2H.HotC X) (nd : X.N.Nodup) (hy : X.N[i]? = some y) (loc : X.env.scope.names.lookup y = some .local)
    (sw : swapsWith (.ListComp elt [⟨tg, l, ifs, 0⟩] scope pos) (some (.Name y py)) spos.line X.env = pure true) (hl : PE X l tl) (ok : BlkOk X.N X.env.scope scope own)
    (hg : ∀ s H C cl fp, PGH (X.blk s H scope (compEnvC scope cl C X.env) fp) tg g) (ht : ∀ s H C cl fp, PTs (X.blk s H scope (compEnvC scope cl C X.env) fp) ifs tt) (he : ∀ s H C cl fp, PE (X.blk s H scope (compEnvC scope cl C X.env) fp) elt te)
    (hs : ∀ x, foldedSetIterable l X.env x = pure x := by intro _; rfl) : PS X (.Assign [.Name y py] (.ListComp elt [⟨tg, l, ifs, 0⟩] scope pos) spos) (tAsg (tLcH X.K tl g tt te (own.map (·.2))) (gName i)) := by
  refine ⟨fun pins s σ H D I h => ?_⟩
  rw [exec_Assign_Name_used _ _ _ _ sw]
  refine wpAny_bind (wpAny_standAt (wpAny_bind ?_))
  show wpAny _ X.A (do let _ ← comprehension (.ListComp elt [⟨tg, l, ifs, 0⟩] scope pos) scope X.env (firstIterPos [⟨tg, l, ifs, 0⟩] pos) (newList []) false (eval l X.env) (some (assign (.Name y py) X.env))) _ _ s
  have h : tLcH X.K tl g tt te (own.map (·.2)) σ H (fun x H1 => gName i x σ H1 D.nx) := h
  refine wpAny_bind (thn (lcH_core (Qf := fun _ t => SP X pins D .next t) hot nd I hl ok hg ht he hs h fun L C t m H' J q ns f => ?_) fun _ t q => wpAny_pure (wpAny_pure q))
  show wpAny _ _ (assign (.Name y py) X.env (.ref L)) _ _ _
  refine wpAny_assign_Name (store_ok2 (v := V.ref L) J nd hy (.inl loc) rfl (fun t2 J2 ⟨b, sb, where_⟩ => ?_) (.inr loc))
  obtain ⟨f0, f1, f2, f3, f4, f5⟩ := f
  have other : C ≠ b := where_.elim (fun z => z ▸ f1) (fun z e => f4 y b z e.symm)
  exact ⟨m, ns.sameBut sb other, fun h3 sb3 => ⟨_, H', J2.turned (t' := t2.toks) (fun b o nb e => (sb3.2 b nb).trans e) f0 f1 f3 f4 f5, q⟩⟩
end
end CL
set_option Elab.async false
set_option linter.all false
set_option pp.maxSteps 600
set_option maxRecDepth 100000
set_option maxHeartbeats 4000000
namespace CL
open PySem PySem.Spec PyProof.Rows L2 GE HotX
/-! ### a def that is handed the error that is handled -/
structure FnP (P : Program) (w : World) (K : PySem.W.Frag) (mg : Str → Option Value) (base : Heap) (k : Nat) (f : Addr) (fd : FuncData) (ps : List Str) (sp : Addr → Addr → Sp) : Prop where
  len : ∀ a D vs H Q E, sp a D vs H Q E → vs.length = ps.length
  go : ∀ A outer s H args us vs Q E p D, L2H.RoomH k A → L2H.Hot1 A p → Zc (.ref D) none p.2 → L2H.PinOk outer H s p → Env0 P w K mg base A outer s H → BindsTo s fd args (ps.zip us) → Vals vs us → sp p.1 D vs H Q E → codeAny (model P w) A (.call (.ref f) args) (CR CX0 outer P w H s Q E) s
theorem fnP_of {P : Program} {w : World} {K : PySem.W.Frag} {mg : Str → Option Value} {base : Heap} {k : Nat} {f : Addr} {x qual : Str} {st : Stmt} {fd : FuncData} {N ps : List Str} {sp : Addr → Addr → Sp} (F : Fun K x qual st f fd) (S : FnScope N ps (defScope st)) (len : ∀ a D vs H Q E, sp a D vs H Q E → vs.length = ps.length)
    (body : ∀ (cdv : Value) (A : Around) (outer : List Env) (s : Shared) (H : Hp) (vs : List V) (Q : VK) (E : XK) (p : Addr × Obj) (D : Addr), L2H.Hot1 A p → Zc (.ref D) none p.2 → L2H.RoomH k (A.deeper (envOfC qual (defScope st) s.heap.objs.size f cdv)) → sp p.1 D vs H Q E →
      ∃ t, PSs (L2H.cxH CX0 P w K mg base N qual (defScope st) f cdv A outer s H E p) (defBody st) t ∧ t { nx := fun _ H' => Q .non H', rt := Q } (start N vs) H) : FnP P w K mg base (k + 1) f fd ps sp := by
  obtain ⟨oc, od, kV, doc, pm, an, cdv, ct, osl, rfl, lk, hcd⟩ := F.ex
  refine ⟨len, fun A outer s H args us vs Q E p D rm h1 z pk e0 bn rv h => ?_⟩
  have nl := len _ _ _ _ _ _ h
  have low : ∀ b o, base.get? b = some o → s.heap.get? b = some o := fun b o e => (e0.bs b o e).1
  have kinds : ∀ y ∈ ps.zip us, (defScope st).names.lookup y.1 = some .local ∨ ((defScope st).names.lookup y.1 = some .cell ∧ ((cellsFrom (s.heap.objs.size + 1) (defScope st).names []).lookup y.1).isSome = true) := by
    rintro ⟨n, v⟩ m
    exact (S.par n (List.of_mem_zip m).1).elim .inl fun e => .inr ⟨e, PySem.W.cellsFrom_some _ _ _ (.inl e)⟩
  refine codeAny_call_function rm.depth (e0.mod.kin.keeps low _ _ lk) rfl S.co S.gen rfl (PySem.W.codeRec_of (e0.mod.kin.keeps low) hcd) (bn _ _ _ _ ?_)
  refine wpAny_newFunctionEnv_cells S.kind kinds fun env he s1 x1 => ?_
  subst he
  refine ⟨(e0.mod.nolimit.keeps low).keeps x1.toInCall.keep, codeAny_func ?_⟩
  obtain ⟨t, ht, q⟩ := body cdv A outer s H vs Q E p D h1 z (rm.deeper _) h
  have J : Inv (L2H.cxH CX0 P w K mg base N qual (defScope st) f cdv A outer s H E p) [] (start N vs) H s1 := L2H.inv_startH S pk e0 nl rv x1
  refine wpAny_mono (ht.run [] s1 _ H _ J q) (fun g s' y => ?_) fun _ _ y => y
  cases g with
  | next =>
    obtain ⟨σ', H', J', q'⟩ := y
    exact ⟨.non, H', J'.os, J'.bare, J'.base, J'.hok, rfl, q'⟩
  | ret u =>
    obtain ⟨v, σ', H', J', r', q'⟩ := y
    exact ⟨v, H', J'.os, J'.bare, J'.base, J'.hok, r', q'⟩
  | brk => exact (show ∃ _ _, _ from y).elim fun _ y => y.elim fun _ y => y.2.elim
  | cont => exact (show ∃ _ _, _ from y).elim fun _ y => y.elim fun _ y => y.2.elim
/-- such a def by its name -/
structure CalP (P : Program) (w : World) (K : PySem.W.Frag) (mg : Str → Option Value) (base : Heap) (k : Nat) (x : Str) (ps : List Str) (sp : Addr → Addr → Sp) : Prop where
  ex : ∃ f fd, mg x = some (.ref f) ∧ PySem.W.keepIn K (.ref f) = true ∧ Binds K fd ps [] ∧ FnP P w K mg base k f fd ps sp
section
variable {X : Cx}
theorem pe_calP {k : Nat} {x : Str} {ps : List Str} {sp : Addr → Addr → Sp} {p pos : Pos} {e : Expr} {es : List Expr} {t : TA} {h : Addr × Obj} {D : Addr} (C : CalP X.prog X.w X.K X.mg X.base k x ps sp) (hr : L2H.RoomH k X.A) (h1 : L2H.Hot1 X.A h) (hm : h ∈ X.pn) (z : Zc (.ref D) none h.2) (hg : Gl X x) (ha : PA X (e :: es) t)
    (hdb : (x == ("__debug__" : Str)) = false := by decide) (he : starEach (e :: es) X.env = (false, eval e X.env) :: starEach es X.env := by rfl) (hpl : (backTo pos (starEach es X.env)).any (·.1) = false := by rfl) :
    PE X (.Call (.Name x p) (e :: es) [] pos) (fun σ H Q => t σ H fun vs H1 => sp h.1 D vs H1 Q E0) := by
  obtain ⟨f, fd, g, kp, bn, F⟩ := C.ex
  refine ⟨fun pins s σ H Q I y => ?_⟩
  refine wpAny_Call_Name_kw (ld_glob I hg g ?_ hdb)
  refine PySem.W.callWith_K (h₀ := X.base) I.ok.mod.kin kp (thn (ha.run pos pins s σ H _ I y) fun us s1 ⟨vs, H1, J, r, q⟩ => ⟨J.kIn, ?_⟩) he hpl
  have nl : us.length = ps.length := r.length.symm.trans (F.len _ _ _ _ _ _ q)
  have b := bn s1 us J.kIn (by rw [List.append_nil]; exact nl)
  rw [List.append_nil] at b
  have pj := J.pin h (List.mem_append_left _ hm)
  refine wpAny_call (codeAny_mono (F.go X.A X.stack s1 H1 ⟨us, []⟩ us vs Q E0 h D hr h1 z ⟨pj.1, pj.2.1, fun m => (List.mem_cons.mp (J.stkSub h.1 m)).elim pj.2.2.1 pj.2.2.2.1, pj.2.2.2.2⟩ J.env0 b r q) fun c s' y => ?_)
  match c, y with
  | .ok (.ret u), y => exact J.after y
/-! ### isinstance of it -/
theorem pin_inst {pins : List (Addr × Obj)} {σ : L2.St} {H : Hp} {s : Shared} {p : Addr × Obj} {D : Addr} (I : Inv X pins σ H s) (hm : p ∈ X.pn) (z : Zc (.ref D) none p.2) (h1 : L2H.Hot1 X.A p) : PySem.W.InstAt s.heap p.1 p.2 D none := by
  obtain ⟨a, oc, od, oda, osl⟩ := p
  obtain ⟨_, vs, d, _⟩ := h1
  obtain ⟨z1, z2⟩ := z
  dsimp only at z1 z2 d
  subst z1 z2 d
  exact ⟨(I.pin _ (List.mem_append_left _ hm)).1, rfl, rfl, trivial⟩
def rIsP (K : PySem.W.Frag) (a D : Addr) : List V → Hp → VK → Prop := fun xs H Q => ∃ (c : V) (u : Value) (b : Bool), xs = [.ref a, c] ∧ L2.ExcC K D ∧ ClsV c u ∧ PySem.W.kitOne K (.ref D) u = some b ∧ Q (.bl b) H
theorem call_isP {p : Addr × Obj} {D : Addr} (hm : p ∈ X.pn) (z : Zc (.ref D) none p.2) (h1 : L2H.Hot1 X.A p) : CallR X (.builtin "isinstance") (rIsP X.K p.1 D) := by
  intro pins s σ H xs us Q I r h
  obtain ⟨c, u, b, rfl, C, k, e, q⟩ := h
  obtain ⟨u1, u2, rfl, r1, r2⟩ := vals2 r
  have e2 := k.eq r2
  subst e2
  cases (show u1 = Value.ref p.1 from r1)
  exact PySem.W.kia_one (PySem.W.handS_kitx_exc C.hg C.hk C.hs C.hd C.ha C.hn C.ht C.hm) I.kIn (pin_inst I hm z h1) e (fun z => nomatch z) fun tk => ⟨.bl b, H, I.tok tk, rfl, q⟩
def rIsPT (K : PySem.W.Frag) (a D : Addr) : List V → Hp → VK → Prop := fun xs H Q => ∃ (tp : Addr) (cs : List V) (us : List Value) (b : Bool), xs = [.ref a, .ref tp] ∧ L2.ExcC K D ∧ H tp = some (.tup cs) ∧ Paired ClsV cs us ∧ PySem.W.kitAny K (.ref D) us = some b ∧ Q (.bl b) H
theorem call_isPT {p : Addr × Obj} {D : Addr} (hm : p ∈ X.pn) (z : Zc (.ref D) none p.2) (h1 : L2H.Hot1 X.A p) : CallR X (.builtin "isinstance") (rIsPT X.K p.1 D) := by
  intro pins s σ H xs us Q I r h
  obtain ⟨tp, cs, ws, b, rfl, C, hT, k, e, q⟩ := h
  obtain ⟨u1, u2, rfl, r1, r2⟩ := vals2 r
  cases (show u1 = Value.ref p.1 from r1)
  cases (show u2 = Value.ref tp from r2)
  obtain ⟨_, its, rv, o, e1, e2, n, e3⟩ := (show ObjOk X.prog X.w H s.heap tp (.tup cs) from I.hok tp _ hT)
  have same := ClsV.all k rv
  subst same
  obtain ⟨oc, od, dt, sl⟩ := o
  simp only at e2 e3
  subst e2 e3
  exact PySem.W.kia_tup (PySem.W.handS_kitx_exc C.hg C.hk C.hs C.hd C.ha C.hn C.ht C.hm) I.kIn (pin_inst I hm z h1) e1 e (fun z => nomatch z) fun tk => ⟨.bl b, H, I.tok tk, rfl, q⟩
end
end CL
set_option Elab.async false
set_option linter.all false
set_option pp.maxSteps 600
set_option maxRecDepth 100000
set_option maxHeartbeats 4000000
namespace CL
open PySem PySem.Spec PyProof.Rows L2 GE HotX
abbrev sClass : Stmt := topS 42
abbrev nClass : List Str := ["caught", "odd", "some", "found", "word", "there"]
theorem scClass : FnScope nClass ["caught"] (defScope sClass) := ⟨rfl, rfl, rfl, by decide +kernel, rfl, by decide +kernel, by decide +kernel⟩
/-- the classes that it names -/
structure ClsG (K : PySem.W.Frag) (mg : Str → Option Value) where
  aNoHistory : Addr
  gNoHistory : mg "NoHistory" = some (.ref aNoHistory)
  aNothing : Addr
  gNothing : mg "Nothing" = some (.ref aNothing)
  aNoPlan : Addr
  gNoPlan : mg "NoPlan" = some (.ref aNoPlan)
  aNoPerson : Addr
  gNoPerson : mg "NoPerson" = some (.ref aNoPerson)
  aNoMoment : Addr
  gNoMoment : mg "NoMoment" = some (.ref aNoMoment)
  aTooMany : Addr
  gTooMany : mg "TooMany" = some (.ref aTooMany)
  aNoOther : Addr
  gNoOther : mg "NoOther" = some (.ref aNoOther)
  aNoPlace : Addr
  gNoPlace : mg "NoPlace" = some (.ref aNoPlace)
  aNoEnd : Addr
  gNoEnd : mg "NoEnd" = some (.ref aNoEnd)
  aNoOrder : Addr
  gNoOrder : mg "NoOrder" = some (.ref aNoOrder)
  aNoNumber : Addr
  gNoNumber : mg "NoNumber" = some (.ref aNoNumber)
  aNoPatience : Addr
  gNoPatience : mg "NoPatience" = some (.ref aNoPatience)
  aNobody : Addr
  gNobody : mg "Nobody" = some (.ref aNobody)
  aNoText : Addr
  gNoText : mg "NoText" = some (.ref aNoText)
  aNoForm : Addr
  gNoForm : mg "NoForm" = some (.ref aNoForm)
  aNoneYet : Addr
  gNoneYet : mg "NoneYet" = some (.ref aNoneYet)
  ve : mg "ValueError" = none
def clsWs (b1 b2 : Bool) : List (Str × Bool) := [("NoHistory", b1), ("Nothing", b2)]
def metW (l : List (Str × Bool)) : List Str := (l.filter (·.2)).map (·.1)
theorem clsVs : ∀ l : List Addr, Paired ClsV (l.map V.ref) (l.map Value.ref)
  | [] => .nil
  | a :: l => .cons (.own a) (clsVs l)
/-- what the classes say of the class D -/
structure ClsF (K : PySem.W.Frag) (mg : Str → Option Value) (G : ClsG K mg) (D : Addr) (b1 b2 : Bool) : Prop where
  ex : L2.ExcC K D
  ve : PySem.W.kitOne K (.ref D) (.type "ValueError") = some true
  o0 : PySem.W.kitAny K (.ref D) ([G.aNoPlan, G.aNoPerson, G.aNoMoment, G.aTooMany, G.aNoOther, G.aNoPlace].map Value.ref) = some false
  o1 : PySem.W.kitAny K (.ref D) ([G.aNoEnd, G.aNoOrder, G.aNoNumber, G.aNoPatience, G.aNobody, G.aNoText].map Value.ref) = some false
  o2 : PySem.W.kitAny K (.ref D) ([G.aNoForm, G.aNoneYet].map Value.ref) = some false
  kb1 : PySem.W.kitOne K (.ref D) (.ref G.aNoHistory) = some b1
  kb2 : PySem.W.kitOne K (.ref D) (.ref G.aNothing) = some b2
/-- D is that word's class -/
def ClsW (K : PySem.W.Frag) (mg : Str → Option Value) (G : ClsG K mg) (D : Addr) (word : Str) : Prop := ∃ b1 b2, ClsF K mg G D b1 b2 ∧ metW (clsWs b1 b2) = [word]
def spClass (K : PySem.W.Frag) (mg : Str → Option Value) (G : ClsG K mg) : Addr → Addr → Sp := fun a D vs H Q _ => ∃ word, vs = [.ref a] ∧ ClsW K mg G D word ∧ ∀ H', Same H H' → Q (.str word) H'
section
variable {P : Program} {w : World} {K : PySem.W.Frag} {mg : Str → Option Value} {base : Heap}
theorem ok_class {f : Addr} {fd : FuncData} (F : Fun K "_law_class" "_law_class" sClass f fd) (T : Nm mg) (G : ClsG K mg) : FnP P w K mg base 1 f fd ["caught"] (spClass K mg G) := by
  refine fnP_of F scClass (fun a D vs H Q E ⟨word, e, _⟩ => by rw [e]; rfl) (fun cdv A outer s H vs Q E p D h1 z hr h => ?_)
  obtain ⟨word, rfl, ⟨b1, b2, KF, hw⟩, q⟩ := h
  have nd := scClass.nd
  have pm : p ∈ (L2H.cxH CX0 P w K mg base nClass "_law_class" (defScope sClass) f cdv A outer s H E p).pn := List.mem_singleton.mpr rfl
  have hot : L2H.HotC (L2H.cxH CX0 P w K mg base nClass "_law_class" (defScope sClass) f cdv A outer s H E p) := ⟨p, h1, pm⟩
  refine ⟨_, (pss_cons (ps_set (i := 1) nd rfl (.inl rfl) (pe_not (pe_callB (call_isP pm z h1) (by rfl) T.isi (by decide +kernel) (pa_cons (pv 0) (pa_cons (pe_bltn (v := .ty "ValueError") (by rfl) G.ve (by decide +kernel) rfl) pa_nil)))))
    (pss_cons (ps_set (i := 1) nd rfl (.inl rfl) (pe_or (pv 1) (pe_one (pe_callB (call_isPT pm z h1) (by rfl) T.isi (by decide +kernel) (pa_cons (pv 0) (pa_cons (pe_tup (pa_cons (pe_glob (v := .ref G.aNoPlan) (by rfl) G.gNoPlan rfl (by decide)) (pa_cons (pe_glob (v := .ref G.aNoPerson) (by rfl) G.gNoPerson rfl (by decide)) (pa_cons (pe_glob (v := .ref G.aNoMoment) (by rfl) G.gNoMoment rfl (by decide)) (pa_cons (pe_glob (v := .ref G.aTooMany) (by rfl) G.gTooMany rfl (by decide)) (pa_cons (pe_glob (v := .ref G.aNoOther) (by rfl) G.gNoOther rfl (by decide)) (pa_cons (pe_glob (v := .ref G.aNoPlace) (by rfl) G.gNoPlace rfl (by decide)) pa_nil))))))) pa_nil))))))
    (pss_cons (ps_set (i := 1) nd rfl (.inl rfl) (pe_or (pv 1) (pe_one (pe_callB (call_isPT pm z h1) (by rfl) T.isi (by decide +kernel) (pa_cons (pv 0) (pa_cons (pe_tup (pa_cons (pe_glob (v := .ref G.aNoEnd) (by rfl) G.gNoEnd rfl (by decide)) (pa_cons (pe_glob (v := .ref G.aNoOrder) (by rfl) G.gNoOrder rfl (by decide)) (pa_cons (pe_glob (v := .ref G.aNoNumber) (by rfl) G.gNoNumber rfl (by decide)) (pa_cons (pe_glob (v := .ref G.aNoPatience) (by rfl) G.gNoPatience rfl (by decide)) (pa_cons (pe_glob (v := .ref G.aNobody) (by rfl) G.gNobody rfl (by decide)) (pa_cons (pe_glob (v := .ref G.aNoText) (by rfl) G.gNoText rfl (by decide)) pa_nil))))))) pa_nil))))))
    (pss_cons (ps_set (i := 1) nd rfl (.inl rfl) (pe_or (pv 1) (pe_one (pe_callB (call_isPT pm z h1) (by rfl) T.isi (by decide +kernel) (pa_cons (pv 0) (pa_cons (pe_tup (pa_cons (pe_glob (v := .ref G.aNoForm) (by rfl) G.gNoForm rfl (by decide)) (pa_cons (pe_glob (v := .ref G.aNoneYet) (by rfl) G.gNoneYet rfl (by decide)) pa_nil))) pa_nil))))))
    (pss_cons (ps_set (i := 2) nd rfl (.inl rfl) (pe_lst pa_nil))
    (pss_cons (ps_expr (pe_bm PySem.F.plainAttrs_list PySem.F.slot_list_append PySem.F.type_list_append mt_append (pv 2) (pa_cons (pe_tup (pa_cons pe_str (pa_cons (pe_callB (call_isP pm z h1) (by rfl) T.isi (by decide +kernel) (pa_cons (pv 0) (pa_cons (pe_glob (v := .ref G.aNoHistory) (by rfl) G.gNoHistory rfl (by decide)) pa_nil))) pa_nil))) pa_nil)))
    (pss_cons (ps_expr (pe_bm PySem.F.plainAttrs_list PySem.F.slot_list_append PySem.F.type_list_append mt_append (pv 2) (pa_cons (pe_tup (pa_cons pe_str (pa_cons (pe_callB (call_isP pm z h1) (by rfl) T.isi (by decide +kernel) (pa_cons (pv 0) (pa_cons (pe_glob (v := .ref G.aNothing) (by rfl) G.gNothing rfl (by decide)) pa_nil))) pa_nil))) pa_nil)))
    (pss_cons (ps_setLcH (i := 3) (own := [("word", 4), ("there", 5)]) (g := gTup K 2 (gCons (gName 4) (gCons (gName 5) gNil))) hot nd rfl rfl (sw_true rfl rfl rfl (by decide +kernel)) (pv 2) (blkOk_by (N := nClass) (sc := defScope sClass) (by decide +kernel))
      (fun _ _ _ _ _ => pgh_tup (pgs_cons (pg_name (i := 4) nd rfl (.inl rfl) (.inr rfl)) (pgs_cons (pg_name (i := 5) nd rfl (.inl rfl) (.inr rfl)) pgs_nil))) (fun _ _ _ _ _ => pts_one (pt_val (pv 5))) (fun _ _ _ _ _ => pv 4))
    (pss_one (ps_ret (pe_ifExp (PW.pt (pw_and (pt_cmpR op_eq (pe_callB call_len_seq (by rfl) T.len PySem.boot_len (pa_cons (pv 3) pa_nil)) pe_int (nomark _)) (pw_and1 (pt_not (pt_val (pv 1)))))) (pe_ix ix_list (pv 3) pe_int (fun _ _ => rfl)) pe_str))))))))))), ?_⟩
  have two : ∀ {x y : V}, [x, y].length ≤ sizeLine := fun {x y} => small_le (by show 2 ≤ 1000; decide)
  refine ⟨.ref p.1, rfl, .ty "ValueError", .type "ValueError", true, rfl, KF.ex, .ty _, KF.ve, true, rfl, ?_⟩
  refine ⟨.bl false, rfl, false, rfl, iteF ⟨.ref p.1, rfl, small_le (by show 6 ≤ 1000; decide), fun o0 no0 => ?_⟩⟩
  have so0 : Same H (upd H o0 (.tup [.ref G.aNoPlan, .ref G.aNoPerson, .ref G.aNoMoment, .ref G.aTooMany, .ref G.aNoOther, .ref G.aNoPlace])) := same_upd no0
  have to0 : (upd H o0 (.tup [.ref G.aNoPlan, .ref G.aNoPerson, .ref G.aNoMoment, .ref G.aTooMany, .ref G.aNoOther, .ref G.aNoPlace])) o0 = some (.tup ([G.aNoPlan, G.aNoPerson, G.aNoMoment, G.aTooMany, G.aNoOther, G.aNoPlace].map V.ref)) := upd_same
  generalize upd H o0 (.tup [.ref G.aNoPlan, .ref G.aNoPerson, .ref G.aNoMoment, .ref G.aTooMany, .ref G.aNoOther, .ref G.aNoPlace]) = Ha0 at so0 to0 ⊢
  refine ⟨o0, _, _, false, rfl, KF.ex, to0, clsVs _, KF.o0, ?_⟩
  refine ⟨.bl false, rfl, false, rfl, iteF ⟨.ref p.1, rfl, small_le (by show 6 ≤ 1000; decide), fun o1 no1 => ?_⟩⟩
  have so1 : Same Ha0 (upd Ha0 o1 (.tup [.ref G.aNoEnd, .ref G.aNoOrder, .ref G.aNoNumber, .ref G.aNoPatience, .ref G.aNobody, .ref G.aNoText])) := same_upd no1
  have to1 : (upd Ha0 o1 (.tup [.ref G.aNoEnd, .ref G.aNoOrder, .ref G.aNoNumber, .ref G.aNoPatience, .ref G.aNobody, .ref G.aNoText])) o1 = some (.tup ([G.aNoEnd, G.aNoOrder, G.aNoNumber, G.aNoPatience, G.aNobody, G.aNoText].map V.ref)) := upd_same
  generalize upd Ha0 o1 (.tup [.ref G.aNoEnd, .ref G.aNoOrder, .ref G.aNoNumber, .ref G.aNoPatience, .ref G.aNobody, .ref G.aNoText]) = Ha1 at so1 to1 ⊢
  refine ⟨o1, _, _, false, rfl, KF.ex, to1, clsVs _, KF.o1, ?_⟩
  refine ⟨.bl false, rfl, false, rfl, iteF ⟨.ref p.1, rfl, small_le (by show 2 ≤ 1000; decide), fun o2 no2 => ?_⟩⟩
  have so2 : Same Ha1 (upd Ha1 o2 (.tup [.ref G.aNoForm, .ref G.aNoneYet])) := same_upd no2
  have to2 : (upd Ha1 o2 (.tup [.ref G.aNoForm, .ref G.aNoneYet])) o2 = some (.tup ([G.aNoForm, G.aNoneYet].map V.ref)) := upd_same
  generalize upd Ha1 o2 (.tup [.ref G.aNoForm, .ref G.aNoneYet]) = Ha2 at so2 to2 ⊢
  refine ⟨o2, _, _, false, rfl, KF.ex, to2, clsVs _, KF.o2, ?_⟩
  refine ⟨Nat.zero_le _, fun l nl => ?_⟩
  have sl : Same Ha2 (upd Ha2 l (.lst [])) := same_upd nl
  have tl0 : (upd Ha2 l (.lst [])) l = some (.lst []) := upd_same
  show tSeq _ _ _ [some (.ref p.1), some (.bl false), some (.ref l), none, none, none] (upd Ha2 l (.lst []))
  have sH : Same H Ha2 := ((so0).trans so1).trans so2
  generalize hL : upd Ha2 l (.lst []) = HL at sl tl0 ⊢
  have nlH : H l = none := by
    cases e : H l with
    | none => rfl
    | some o => rw [sH _ _ e] at nl; cases nl
  have s0 : Same H HL := sH.trans sl
  -- NoHistory
  refine ⟨.ref l, rfl, .inl ⟨rfl, _, SqL.of tl0⟩, .ref p.1, rfl, .ref G.aNoHistory, .ref G.aNoHistory, b1, rfl, KF.ex, .own _, KF.kb1, two, fun p1 np1 => ?_⟩
  have up1 : Same HL (upd HL p1 (.tup [.str "NoHistory", .bl b1])) := same_upd np1
  have tp1 : (upd HL p1 (.tup [.str "NoHistory", .bl b1])) p1 = some (.tup [.str "NoHistory", .bl b1]) := upd_same
  generalize upd HL p1 (.tup [.str "NoHistory", .bl b1]) = Hb1 at up1 tp1 ⊢
  have m0 := up1 _ _ tl0
  refine ⟨l, _, .ref p1, rfl, rfl, m0, small1000 (by show 0 ≤ 1000; decide), ?_⟩
  have tl1 : (upd Hb1 l (.lst ([] ++ [.ref p1]))) l = some (.lst [.ref p1]) := upd_same
  have s1 : Same H (upd Hb1 l (.lst ([] ++ [.ref p1]))) := fun b o e => by
    rw [upd_ne (fun y => by rw [y, nlH] at e; cases e)]
    exact up1 _ _ (s0 _ _ e)
  have ne0 : ∀ {b : Addr} {xs : List V}, Hb1 b = some (.tup xs) → b ≠ l := fun {b xs} e y => by rw [y, m0] at e; cases e
  have tp1 : (upd Hb1 l (.lst ([] ++ [.ref p1]))) p1 = some (.tup [.str "NoHistory", .bl b1]) := by rw [upd_ne (ne0 tp1)]; exact tp1
  generalize upd Hb1 l (.lst ([] ++ [.ref p1])) = Hc1 at s1 tl1  tp1 ⊢
  -- Nothing
  refine ⟨.ref l, rfl, .inl ⟨rfl, _, SqL.of tl1⟩, .ref p.1, rfl, .ref G.aNothing, .ref G.aNothing, b2, rfl, KF.ex, .own _, KF.kb2, two, fun p2 np2 => ?_⟩
  have up2 : Same Hc1 (upd Hc1 p2 (.tup [.str "Nothing", .bl b2])) := same_upd np2
  have tp2 : (upd Hc1 p2 (.tup [.str "Nothing", .bl b2])) p2 = some (.tup [.str "Nothing", .bl b2]) := upd_same
  generalize upd Hc1 p2 (.tup [.str "Nothing", .bl b2]) = Hb2 at up2 tp2 ⊢
  have m1 := up2 _ _ tl1
  refine ⟨l, _, .ref p2, rfl, rfl, m1, small1000 (by show 1 ≤ 1000; decide), ?_⟩
  have tl2 : (upd Hb2 l (.lst ([.ref p1] ++ [.ref p2]))) l = some (.lst [.ref p1, .ref p2]) := upd_same
  have s2 : Same H (upd Hb2 l (.lst ([.ref p1] ++ [.ref p2]))) := fun b o e => by
    rw [upd_ne (fun y => by rw [y, nlH] at e; cases e)]
    exact up2 _ _ (s1 _ _ e)
  have ne1 : ∀ {b : Addr} {xs : List V}, Hb2 b = some (.tup xs) → b ≠ l := fun {b xs} e y => by rw [y, m1] at e; cases e
  have tp1 : (upd Hb2 l (.lst ([.ref p1] ++ [.ref p2]))) p1 = some (.tup [.str "NoHistory", .bl b1]) := by rw [upd_ne (ne1 (up2 _ _ tp1))]; exact up2 _ _ tp1
  have tp2 : (upd Hb2 l (.lst ([.ref p1] ++ [.ref p2]))) p2 = some (.tup [.str "Nothing", .bl b2]) := by rw [upd_ne (ne1 tp2)]; exact tp2
  generalize upd Hb2 l (.lst ([.ref p1] ++ [.ref p2])) = Hc2 at s2 tl2 tp1 tp2 ⊢
  have items : ∀ (j : Nat) (x : V), [V.ref p1, .ref p2][j]? = some x → ∃ b wd so, x = .ref b ∧ Hc2 b = some (.tup [.str wd, .bl so]) ∧ (clsWs b1 b2)[j]? = some (wd, so) := fun j x hx => by
    match j, hx with
    | 0, hx => cases hx; exact ⟨p1, _, _, rfl, tp1, rfl⟩
    | 1, hx => cases hx; exact ⟨p2, _, _, rfl, tp2, rfl⟩
  refine ⟨.ref l, rfl, l, [V.ref p1, .ref p2], rfl, SqL.of tl2, fun D2 n2 => ?_⟩
  refine ⟨fun j H' => H' = upd Hc2 D2 (.lst ((metW ((clsWs b1 b2).take j)).map V.str)), rfl, fun j H' e => by rw [e]; exact SqL.of ((same_upd n2 : Same Hc2 _) _ _ tl2), fun j x H' hx e => ?_, fun H' e => ?_⟩
  · subst e
    obtain ⟨b, wd, so, rfl, hb, hk⟩ := items j x hx
    have hb' := (same_upd n2 : Same Hc2 (upd Hc2 D2 (.lst ((metW ((clsWs b1 b2).take j)).map V.str)))) _ _ hb
    have est : metW ((clsWs b1 b2).take (j + 1)) = metW ((clsWs b1 b2).take j) ++ (if so = true then [wd] else []) := by
      unfold metW
      rw [List.take_add_one, hk, List.filter_append, List.map_append]
      cases so <;> rfl
    have len : ((metW ((clsWs b1 b2).take j)).map V.str).length < sizeLine := by
      unfold metW
      rw [List.length_map, List.length_map]
      have y1 := List.length_filter_le (fun x : Str × Bool => x.2) ((clsWs b1 b2).take j)
      have y2 : ((clsWs b1 b2).take j).length ≤ 2 := by rw [List.length_take]; exact Nat.min_le_right _ _
      exact small1000 (by omega)
    refine ⟨b, [.str wd, .bl so], rfl, SqT.of hb', rfl, .str wd, [.bl so], rfl, .bl so, [], rfl, rfl, rfl, .bl so, rfl, so, rfl, ?_⟩
    cases so with
    | false =>
      refine iteF ?_
      show upd Hc2 D2 (.lst ((metW ((clsWs b1 b2).take j)).map V.str)) = upd Hc2 D2 (.lst ((metW ((clsWs b1 b2).take (j + 1))).map V.str))
      rw [est]
      show _ = upd Hc2 D2 (.lst ((metW ((clsWs b1 b2).take j) ++ []).map V.str))
      rw [List.append_nil]
    | true =>
      refine iteT ⟨.str wd, rfl, _, upd_same, len, ?_⟩
      show _ = upd Hc2 D2 (.lst ((metW ((clsWs b1 b2).take (j + 1))).map V.str))
      rw [est, upd_upd, List.map_append]
      rfl
  · have e2 : H' = upd Hc2 D2 (.lst [.str word]) := by
      rw [e]
      show upd Hc2 D2 (.lst ((metW ((clsWs b1 b2).take 2)).map V.str)) = _
      have all : (clsWs b1 b2).take 2 = clsWs b1 b2 := rfl
      rw [all, hw]
      rfl
    subst e2
    have sF : Same H (upd Hc2 D2 (.lst [.str word])) := s2.trans (same_upd n2)
    have em : (upd Hc2 D2 (.lst [.str word])) D2 = some (.lst [.str word]) := upd_same
    refine ⟨.ref D2, rfl, D2, _, rfl, .inl (SqL.of em), rfl, _, rfl, ite2 (fun _ => ?_) (fun y => absurd (show decide (V.int ((1 : Nat) : Int) = V.int 1) = true from by decide) y)⟩
    refine ⟨.bl false, rfl, false, rfl, iteT ⟨.ref D2, rfl, D2, _, 0, .str word, rfl, rfl, SqL.of em, atI_nat (j := 0) rfl, q _ sF⟩⟩
end
end CL
set_option Elab.async false
set_option linter.all false
set_option maxRecDepth 100000
set_option maxHeartbeats 4000000
namespace CL
open PySem PySem.Spec PyProof.Rows L2 GE
abbrev sBag : Stmt := topS 32
abbrev sStir : Stmt := topS 33
abbrev sDraw : Stmt := topS 34
theorem scBag : FnScope ["script", "total", "cell"] ["script"] (defScope sBag) := ⟨rfl, rfl, rfl, by decide +kernel, rfl, by decide +kernel, by decide +kernel⟩
theorem scStir : FnScope ["number", "place", "one", "two"] ["number", "place"] (defScope sStir) := ⟨rfl, rfl, rfl, by decide +kernel, rfl, by decide +kernel, by decide +kernel⟩
theorem scDraw : FnScope ["bag", "many", "cell", "found"] ["bag", "many"] (defScope sDraw) := ⟨rfl, rfl, rfl, by decide +kernel, rfl, by decide +kernel, by decide +kernel⟩
abbrev MSP : Int := 2305843009213693951
theorem t64 : (2 : Int) ^ 64 = 18446744073709551616 := by decide +kernel
abbrev M60 : Nat := 1000000000000000000
/-- a bag's place, and its cells' -/
structure Bg where
  a : Addr
  c : Addr
/-- the bag: the cells, which is next, what is left of one, how many draws (n at most), a number mixed -/
structure BagAt (n : Nat) (H : Hp) (r : Bg) : Prop where
  ex : ∃ (ns : List Int) (i : Nat) (b k t : Int), H r.a = some (.lst [.ref r.c, .int i, .int b, .int k, .int t]) ∧ H r.c = some (.lst (ns.map V.int)) ∧ i ≤ ns.length ∧ 0 ≤ b ∧ 0 ≤ k ∧ k ≤ n ∧ 0 ≤ t ∧ t < MSP
/-- all but the bag stays -/
structure Mv (r : Bg) (H H' : Hp) : Prop where
  keep : ∀ b o, b ≠ r.a → H b = some o → H' b = some o
theorem Mv.refl (r : Bg) (H : Hp) : Mv r H H := ⟨fun _ _ _ h => h⟩
theorem Mv.of {r : Bg} {H H' : Hp} (s : Same H H') : Mv r H H' := ⟨fun b o _ h => s b o h⟩
theorem Mv.trans {r : Bg} {H H1 H2 : Hp} (a : Mv r H H1) (b : Mv r H1 H2) : Mv r H H2 := ⟨fun c o n h => b.keep c o n (a.keep c o n h)⟩
theorem Mv.upd {r : Bg} {p : Addr} {H H' : Hp} {o : HO} (m : Mv r H H') (hn : H p = none) : Mv r H (upd H' p o) := ⟨fun b x nb e => by
  rw [upd_ne (ne_of_none e hn)]
  exact m.keep b x nb e⟩
theorem BagAt.mono {n m : Nat} {H : Hp} {r : Bg} (h : BagAt n H r) (l : n ≤ m) : BagAt m H r := by
  obtain ⟨ns, i, b, k, t, er, ec, hi, hb, hk, hn, ht⟩ := h
  exact ⟨ns, i, b, k, t, er, ec, hi, hb, hk, by omega, ht⟩
theorem BagAt.same {n : Nat} {r : Bg} {H H' : Hp} (s : Same H H') (hr : BagAt n H r) : BagAt n H' r := by
  obtain ⟨ns, i, b, k, t, er, ec, h⟩ := hr
  exact ⟨ns, i, b, k, t, s _ _ er, s _ _ ec, h⟩
theorem BagAt.some {n : Nat} {r : Bg} {H : Hp} (hr : BagAt n H r) : H r.a ≠ none := by
  obtain ⟨ns, i, b, k, t, er, h⟩ := hr
  rw [er]
  exact nofun
theorem BagAt.someC {n : Nat} {r : Bg} {H : Hp} (hr : BagAt n H r) : H r.c ≠ none := by
  obtain ⟨ns, i, b, k, t, er, ec, h⟩ := hr
  rw [ec]
  exact nofun
/-- a place that is neither -/
structure Off (r : Bg) (p : Addr) : Prop where
  a : p ≠ r.a
  c : p ≠ r.c
theorem BagAt.new {n : Nat} {r : Bg} {p : Addr} {H : Hp} (hr : BagAt n H r) (np : H p = none) : Off r p := ⟨fun z => hr.some (by rw [← z]; exact np), fun z => hr.someC (by rw [← z]; exact np)⟩
theorem BagAt.store {n : Nat} {r : Bg} {p : Addr} {H : Hp} {o : HO} (hr : BagAt n H r) (f : Off r p) : BagAt n (upd H p o) r := by
  obtain ⟨ns, i, b, k, t, er, ec, h⟩ := hr
  exact ⟨ns, i, b, k, t, by rw [upd_ne (Ne.symm f.a)]; exact er, by rw [upd_ne (Ne.symm f.c)]; exact ec, h⟩
theorem BagAt.kx {n : Nat} {r : Bg} {H H' : Hp} (h : BagAt n H r) (e : Ex H H') : BagAt n H' r := by
  obtain ⟨ns, i, b, k, t, er, ec, h⟩ := h
  exact ⟨ns, i, b, k, t, e.lst er, e.lst ec, h⟩
theorem bag_ne {c r : Addr} {H : Hp} {ns : List Int} {vs : List V} (er : H r = some (.lst (.ref c :: vs))) (ec : H c = some (.lst (ns.map V.int))) : c ≠ r := fun z => by
  rw [z, er] at ec
  cases ns with
  | nil => simp at ec
  | cons x ns => simp at ec
theorem mem_keep {r : Bg} {b : Addr} {H H' : Hp} (m : Mv r H H') (n : b ≠ r.a) (h : H b ≠ none) : H' b ≠ none := fun z => by
  cases q : H b with
  | none => exact h q
  | some o =>
    rw [m.keep b o n q] at z
    cases z
def spStir : Sp := fun vs H Q _ => ∃ a b : Int, vs = [.int a, .int b] ∧ 0 ≤ a ∧ a < MSP ∧ 0 ≤ b ∧ b ≤ (M60 : Int) ∧ ∀ x, Q (.int x) H
def spDraw (r : Bg) : Sp := fun vs H Q _ => ∃ (m : Int) (n : Nat), vs = [.ref r.a, .int m] ∧ BagAt n H r ∧ n < M60 ∧ 1 ≤ m ∧ m < 2 ^ 140 ∧ ∀ x H', BagAt (n + 1) H' r → Mv r H H' → 0 ≤ x → x < m → Q (.int x) H'
def spBag (K : PySem.W.Frag) : Sp := fun vs H Q _ => ∃ (a : Addr) (ns : List Int), vs = [.ref a] ∧ SqL K H a (ns.map V.int) ∧ ∀ (r : Bg) H', Same H H' → H r.a = none → BagAt 0 H' r → Q (.ref r.a) H'
section
variable {P : Program} {w : World} {K : PySem.W.Frag} {mg : Str → Option Value} {base : Heap}
theorem ok_stir {f : Addr} {fd : FuncData} (F : Fun K "_law_stir" "_law_stir" sStir f fd) : FnOk P w K mg base CX0 1 f fd ["number", "place"] spStir := by
  refine F.ok scStir (fun vs H Q E ⟨a, b, e, _⟩ => by rw [e]; rfl) (fun cdv A outer s H vs Q E hr h => ?_)
  obtain ⟨a, b, rfl, a0, a1, b0, b1, q⟩ := h
  have nd := scStir.nd
  refine ⟨_, pss_cons (ps_set (i := 2) nd rfl (.inl rfl) (pe_op op_mod (pe_op op_add (pe_op op_add (pe_op op_mul (pv 0) pe_int) (pe_op op_mul (pv 1) pe_int)) pe_int) pe_int))
    (pss_cons (ps_set (i := 3) nd rfl (.inl rfl) (pe_op op_mod (pe_op op_mul (pv 2) (pv 2)) pe_int))
    (pss_one (ps_ret (pe_op op_fdiv (pe_op op_mod (pe_op op_add (pe_op op_add (pe_op op_mul (pv 3) pe_int) (pe_op op_mul (pe_op op_mul (pv 1) (pv 1)) pe_int)) (pe_op op_fdiv (pv 2) pe_int)) pe_int) pe_int)))), ?_⟩
  have a1' : a < 2305843009213693951 := a1
  have b1' : b ≤ 1000000000000000000 := b1
  refine ⟨.int a, rfl, a, 998244353, rfl, rfl, .inr ⟨by decide, by decide⟩, .int b, rfl, b, 1000000007, rfl, rfl, .inr ⟨by decide, by decide⟩, _, _, rfl, rfl, _, 5, rfl, rfl, _, _, rfl, rfl, (by show (0 : Int) < 2305843009213693951; decide), ?_⟩
  show tSeq _ _ _ [some (.int a), some (.int b), some (.int ((a * 998244353 + b * 1000000007 + 5) % 2305843009213693951)), none] H
  generalize hz : (a * 998244353 + b * 1000000007 + 5) % 2305843009213693951 = z
  have z0 : 0 ≤ z := by rw [← hz]; exact Int.emod_nonneg _ (by decide)
  have z1 : z < 2305843009213693951 := by rw [← hz]; exact Int.emod_lt_of_pos _ (by decide)
  refine ⟨.int z, rfl, .int z, rfl, z, z, rfl, rfl, .inl ⟨by rw [t64]; omega, by rw [t64]; omega⟩, _, _, rfl, rfl, (by show (0 : Int) < 2305843009213693951; decide), ?_⟩
  refine ⟨.int (z * z % 2305843009213693951), rfl, z * z % 2305843009213693951, 2860486313, rfl, rfl, .inr ⟨by decide, by decide⟩, .int b, rfl, .int b, rfl, b, b, rfl, rfl, .inl ⟨by rw [t64]; omega, by rw [t64]; omega⟩, _, 48271, rfl, rfl, .inr ⟨by decide, by decide⟩, _, _, rfl, rfl, .int z, rfl, z, 3, rfl, rfl, ⟨by decide, by decide⟩, _, _, rfl, rfl, _, _, rfl, rfl, (by show (0 : Int) < 2305843009213693921; decide), _, _, rfl, rfl, ⟨by decide, by decide⟩, ?_⟩
  exact q _
theorem ok_draw {f : Addr} {r : Bg} {fd : FuncData} (F : Fun K "_law_draw" "_law_draw" sDraw f fd) (hlen : mg "len" = none) (CS : Cal P w K mg base 1 "_law_stir" ["number", "place"] spStir) : FnOk P w K mg base CX0 2 f fd ["bag", "many"] (spDraw r) := by
  refine F.ok scDraw (fun vs H Q E ⟨m, n, e, _⟩ => by rw [e]; rfl) (fun cdv A outer s H vs Q E hr h => ?_)
  obtain ⟨m, n, rfl, ⟨ns, i, b, k, t, er, ec, hi, hb, hk, hn, ht0, ht1⟩, hn1, m1, m2, q⟩ := h
  have nd := scDraw.nd
  refine ⟨_, pss_cons (ps_if (pt_cmpR op_eq (pv 1) pe_int (nomark _)) (pss_one (ps_ret pe_int)) pss_nil)
    (pss_cons (ps_asg (pe_op op_add (pe_ix ix_list (pv 0) pe_int (fun _ _ => rfl)) pe_int) (pg_sub (pv 0) pe_int set_list))
    (pss_cons (ps_if (PW.pt (pw_and (pt_cmpR op_lt (pe_ix ix_list (pv 0) pe_int (fun _ _ => rfl)) pe_int (nomark _)) (pw_and1 (pt_cmpR op_eq (pe_ix ix_list (pv 0) pe_int (fun _ _ => rfl)) (pe_callB call_len_seq (by rfl) hlen PySem.boot_len (pa_cons (pe_ix ix_list (pv 0) pe_int (fun _ _ => rfl)) pa_nil)) (nomark _)))))
      (pss_one (ps_ret (pe_op op_mod (pe_cal CS hr (by rfl) (pa_cons (pe_ix ix_list (pv 0) pe_int (fun _ _ => rfl)) (pa_cons (pe_ix ix_list (pv 0) pe_int (fun _ _ => rfl)) pa_nil))) (pv 1)))) pss_nil)
    (pss_cons (ps_if (pt_cmpR op_lt (pe_ix ix_list (pv 0) pe_int (fun _ _ => rfl)) pe_int (nomark _))
      (pss_cons (ps_set (i := 2) nd rfl (.inl rfl) (pe_ix ix_list (pe_ix ix_list (pv 0) pe_int (fun _ _ => rfl)) (pe_ix ix_list (pv 0) pe_int (fun _ _ => rfl)) (fun _ _ => rfl)))
      (pss_cons (ps_asg (pe_op op_add (pe_ix ix_list (pv 0) pe_int (fun _ _ => rfl)) pe_int) (pg_sub (pv 0) pe_int set_list))
      (pss_cons (ps_if (pt_cmpR op_lt (pv 2) (pe_op op_pow pe_int pe_int) (nomark _)) (pss_one (ps_ret (pe_op op_mod (pe_cal CS hr (by rfl) (pa_cons (pe_op op_mod (pv 2) pe_int) (pa_cons (pe_ix ix_list (pv 0) pe_int (fun _ _ => rfl)) pa_nil))) (pv 1)))) pss_nil)
      (pss_one (ps_asg (pe_op op_sub (pv 2) (pe_op op_pow pe_int pe_int)) (pg_sub (pv 0) pe_int set_list)))))) pss_nil)
    (pss_cons (ps_set (i := 3) nd rfl (.inl rfl) (pe_op op_mod (pe_ix ix_list (pv 0) pe_int (fun _ _ => rfl)) (pv 1)))
    (pss_cons (ps_asg (pe_op op_fdivW (pe_ix ix_list (pv 0) pe_int (fun _ _ => rfl)) (pv 1)) (pg_sub (pv 0) pe_int set_list))
    (pss_one (ps_ret (pv 3)))))))), ?_⟩
  have hcr := bag_ne er ec
  have mdiv : ∀ f : Int, CDivW f m := fun f => wide_div (b := 140) (by omega) (by omega) (by decide) (by decide)
  have mp : (0 : Int) < m := by omega
  refine ⟨.int m, rfl, rfl, _, rfl, ite2 (fun e => ?_) (fun _ => ?_)⟩
  · exact q 0 H (BagAt.mono (n := n) ⟨ns, i, b, k, t, er, ec, hi, hb, hk, hn, ht0, ht1⟩ (Nat.le_succ n)) (Mv.refl r H) (Int.le_refl 0) mp
  -- the counter
  refine ⟨.ref r.a, rfl, r.a, _, 3, .int k, rfl, rfl, SqL.of er, atI_nat (j := 3) rfl, k, 1, rfl, rfl, .ref r.a, rfl, r.a, _, 3, 3, rfl, rfl, er, rfl, ?_⟩
  show tSeq _ _ _ _ (upd H r.a (.lst [.ref r.c, .int i, .int b, .int (k + 1), .int t]))
  have m1' : Mv r H (upd H r.a (.lst [.ref r.c, .int i, .int b, .int (k + 1), .int t])) := ⟨fun b o nb e => by rw [upd_ne nb]; exact e⟩
  have er1 : (upd H r.a (.lst [.ref r.c, .int i, .int b, .int (k + 1), .int t])) r.a = some (.lst [.ref r.c, .int i, .int b, .int (k + 1), .int t]) := upd_same
  generalize upd H r.a (.lst [.ref r.c, .int i, .int b, .int (k + 1), .int t]) = H1 at m1' er1
  have ec1 := m1'.keep r.c _ hcr ec
  have fin1 : ∀ x : Int, Q (.int (x % m)) H1 := fun x => q _ H1 ⟨ns, i, b, k + 1, t, er1, ec1, hi, hb, by omega, by omega, ht0, ht1⟩ m1' (Int.emod_nonneg _ (by omega)) (Int.emod_lt_of_pos _ mp)
  have last : ∀ (H2 : Hp) (i2 : Nat) (b2 : Int) (y : Option V), Mv r H H2 → H2 r.a = some (.lst [.ref r.c, .int i2, .int b2, .int (k + 1), .int t]) → i2 ≤ ns.length → 0 ≤ b2 → ∀ x : Int, x = b2 % m → Q (.int x) (upd H2 r.a (.lst [.ref r.c, .int i2, .int (b2 / m), .int (k + 1), .int t])) := fun H2 i2 b2 y mv e2 hi2 hb2 x hx => by
    rw [hx]
    exact q _ _ ⟨ns, i2, b2 / m, k + 1, t, upd_same, by rw [upd_ne hcr]; exact mv.keep r.c _ hcr ec, hi2, Int.ediv_nonneg hb2 (by omega), by omega, by omega, ht0, ht1⟩ ⟨fun b o nb e => by rw [upd_ne nb]; exact mv.keep b o nb e⟩ (Int.emod_nonneg _ (by omega)) (Int.emod_lt_of_pos _ mp)
  refine ⟨.ref r.a, rfl, r.a, _, 2, .int b, rfl, rfl, SqL.of er1, atI_nat (j := 2) rfl, b, 2, rfl, rfl, decide (b < 2), rfl, ?_⟩
  by_cases hb2 : b < 2
  · rw [decide_eq_true hb2]
    refine iteT ⟨.ref r.a, rfl, r.a, _, 1, .int i, rfl, rfl, SqL.of er1, atI_nat (j := 1) rfl, .ref r.a, rfl, r.a, _, 0, .ref r.c, rfl, rfl, SqL.of er1, atI_nat (j := 0) rfl, r.c, _, rfl, .inl (SqL.of ec1), rfl, _, rfl, ite2 (fun e => ?_) (fun e => ?_)⟩
    · refine ⟨.ref r.a, rfl, r.a, _, 4, .int t, rfl, rfl, SqL.of er1, atI_nat (j := 4) rfl, .ref r.a, rfl, r.a, _, 3, .int (k + 1), rfl, rfl, SqL.of er1, atI_nat (j := 3) rfl, t, k + 1, rfl, ht0, ht1, by omega, by omega, fun x => ?_⟩
      exact ⟨.int m, rfl, x, m, rfl, rfl, mp, fin1 x⟩
    · have hi2 : i < ns.length := by
        rcases Nat.lt_or_ge i ns.length with z | z
        · exact z
        · refine absurd ?_ e
          have : i = ns.length := by omega
          rw [this, List.length_map]
          exact decide_eq_true rfl
      refine ⟨.ref r.a, rfl, r.a, _, 2, .int b, rfl, rfl, SqL.of er1, atI_nat (j := 2) rfl, b, 2, rfl, rfl, decide (b < 2), rfl, ?_⟩
      rw [decide_eq_true hb2]
      refine iteT ?_
      refine ⟨.ref r.a, rfl, r.a, _, 0, .ref r.c, rfl, rfl, SqL.of er1, atI_nat (j := 0) rfl, .ref r.a, rfl, r.a, _, 1, .int i, rfl, rfl, SqL.of er1, atI_nat (j := 1) rfl, r.c, _, i, .int ns[i], rfl, rfl, SqL.of ec1, atI_nat (j := i) (by rw [List.getElem?_map, List.getElem?_eq_getElem hi2]; rfl), ?_⟩
      refine ⟨.ref r.a, rfl, r.a, _, 1, .int i, rfl, rfl, SqL.of er1, atI_nat (j := 1) rfl, i, 1, rfl, rfl, .ref r.a, rfl, r.a, _, 1, 1, rfl, rfl, er1, rfl, ?_⟩
      show tSeq _ _ _ _ (upd H1 r.a (.lst [.ref r.c, .int (i + 1 : Int), .int b, .int (k + 1), .int t]))
      have m2' : Mv r H (upd H1 r.a (.lst [.ref r.c, .int (i + 1 : Int), .int b, .int (k + 1), .int t])) := ⟨fun b o nb e => by rw [upd_ne nb]; exact m1'.keep b o nb e⟩
      have er2 : (upd H1 r.a (.lst [.ref r.c, .int (i + 1 : Int), .int b, .int (k + 1), .int t])) r.a = some (.lst [.ref r.c, .int ((i + 1 : Nat) : Int), .int b, .int (k + 1), .int t]) := by rw [upd_same]; rfl
      generalize upd H1 r.a (.lst [.ref r.c, .int (i + 1 : Int), .int b, .int (k + 1), .int t]) = H2 at m2' er2
      generalize hcell : ns[i] = cell
      have ec2 := m2'.keep r.c _ hcr ec
      refine ⟨.int cell, rfl, 10, 18, rfl, rfl, ⟨by decide, by decide, by decide⟩, cell, _, rfl, rfl, _, rfl, ?_⟩
      rw [show (10 : Int) ^ (18 : Int).toNat = 1000000000000000000 from p18]
      refine ite2 (fun e1 => ?_) (fun e1 => ?_)
      · refine ⟨.int cell, rfl, cell, 2305843009213693951, rfl, rfl, (by show (0 : Int) < 2305843009213693951; decide), .ref r.a, rfl, r.a, _, 3, .int (k + 1), rfl, rfl, SqL.of er2, atI_nat (j := 3) rfl, cell % 2305843009213693951, k + 1, rfl, Int.emod_nonneg _ (by decide), Int.emod_lt_of_pos _ (by decide), by omega, by omega, fun x => ?_⟩
        exact ⟨.int m, rfl, x, m, rfl, rfl, mp, q _ H2 ⟨ns, i + 1, b, k + 1, t, er2, ec2, hi2, hb, by omega, by omega, ht0, ht1⟩ m2' (Int.emod_nonneg _ (by omega)) (Int.emod_lt_of_pos _ mp)⟩
      · have hc18 : 1000000000000000000 ≤ cell := by
          rcases Int.lt_or_le cell 1000000000000000000 with z | z
          · exact absurd (decide_eq_true z) e1
          · exact z
        refine ⟨.int cell, rfl, 10, 18, rfl, rfl, ⟨by decide, by decide, by decide⟩, cell, _, rfl, rfl, .ref r.a, rfl, r.a, _, 2, 2, rfl, rfl, er2, rfl, ?_⟩
        show tSeq _ _ _ _ (upd H2 r.a (.lst [.ref r.c, .int ((i + 1 : Nat) : Int), .int (cell - (10 : Int) ^ (18 : Int).toNat), .int (k + 1), .int t]))
        rw [show (10 : Int) ^ (18 : Int).toNat = 1000000000000000000 from p18]
        have m3' : Mv r H (upd H2 r.a (.lst [.ref r.c, .int ((i + 1 : Nat) : Int), .int (cell - 1000000000000000000), .int (k + 1), .int t])) := ⟨fun b o nb e => by rw [upd_ne nb]; exact m2'.keep b o nb e⟩
        have er3 : (upd H2 r.a (.lst [.ref r.c, .int ((i + 1 : Nat) : Int), .int (cell - 1000000000000000000), .int (k + 1), .int t])) r.a = some (.lst [.ref r.c, .int ((i + 1 : Nat) : Int), .int (cell - 1000000000000000000), .int (k + 1), .int t]) := upd_same
        have hb3 : 0 ≤ cell - 1000000000000000000 := by omega
        generalize cell - 1000000000000000000 = b2 at m3' er3 hb3
        generalize upd H2 r.a (.lst [.ref r.c, .int ((i + 1 : Nat) : Int), .int b2, .int (k + 1), .int t]) = H3 at m3' er3
        exact ⟨.ref r.a, rfl, r.a, _, 2, .int b2, rfl, rfl, SqL.of er3, atI_nat (j := 2) rfl, .int m, rfl, b2, m, rfl, rfl, mp, .ref r.a, rfl, r.a, _, 2, .int b2, rfl, rfl, SqL.of er3, atI_nat (j := 2) rfl, .int m, rfl, b2, m, rfl, rfl, mdiv b2, .ref r.a, rfl, r.a, _, 2, 2, rfl, rfl, er3, rfl, .int (b2 % m), rfl, last H3 (i + 1) b2 none m3' er3 hi2 hb3 _ rfl⟩
  · rw [decide_eq_false hb2]
    refine iteF ⟨.ref r.a, rfl, r.a, _, 2, .int b, rfl, rfl, SqL.of er1, atI_nat (j := 2) rfl, b, 2, rfl, rfl, decide (b < 2), rfl, ?_⟩
    rw [decide_eq_false hb2]
    exact iteF ⟨.ref r.a, rfl, r.a, _, 2, .int b, rfl, rfl, SqL.of er1, atI_nat (j := 2) rfl, .int m, rfl, b, m, rfl, rfl, mp, .ref r.a, rfl, r.a, _, 2, .int b, rfl, rfl, SqL.of er1, atI_nat (j := 2) rfl, .int m, rfl, b, m, rfl, rfl, mdiv b, .ref r.a, rfl, r.a, _, 2, 2, rfl, rfl, er1, rfl, .int (b % m), rfl, last H1 i b none m1' er1 hi hb _ rfl⟩
theorem ok_bag {f : Addr} {fd : FuncData} (F : Fun K "_law_bag" "_law_bag" sBag f fd) (hlist : mg "list" = none) : FnOk P w K mg base CX0 1 f fd ["script"] (spBag K) := by
  refine F.ok scBag (fun vs H Q E ⟨a, ns, e, _⟩ => by rw [e]; rfl) (fun cdv A outer s H vs Q E hr h => ?_)
  obtain ⟨a, ns, rfl, hS, q⟩ := h
  have nd := scBag.nd
  refine ⟨_, pss_cons (ps_set (i := 1) nd rfl (.inl rfl) pe_int)
    (pss_cons (ps_for PassesOwn.never rfl (pi_list (pv 0)) (pg_name (i := 2) nd rfl (.inl rfl))
      (pss_one (ps_set (i := 1) nd rfl (.inl rfl) (pe_op op_mod (pe_op op_add (pe_op op_add (pe_op op_mul (pv 1) pe_int) (pe_op op_mod (pv 2) pe_int)) pe_int) pe_int))))
    (pss_one (ps_ret (pe_lst (pa_cons (pe_callTy call_list_of (by rfl) hlist (by decide +kernel) (pa_cons (pv 0) pa_nil)) (pa_cons pe_int (pa_cons pe_int (pa_cons pe_int (pa_cons (pv 1) pa_nil))))))))), ?_⟩
  refine ⟨.ref a, rfl, a, rfl, ⟨_, hS⟩, for_list (xs := ns.map V.int) (fun i σ H2 => H2 = H ∧ ∃ t y2, σ = [some (.ref a), some (.int t), y2] ∧ 0 ≤ t ∧ t < MSP) ⟨rfl, 1, none, rfl, by decide, by decide⟩
    (fun i σ H2 _ ⟨e, _⟩ => by rw [e]; exact hS) (fun i x σ H2 hx ⟨e, t, y2, es, t0, t1⟩ => ?_) (fun σ H2 ⟨e, t, y2, es, t0, t1⟩ => ?_)⟩
  · subst e es
    obtain ⟨c, rfl⟩ : ∃ c, x = .int c := by
      rw [List.getElem?_map] at hx
      cases q : ns[i]? with
      | none => rw [q] at hx; cases hx
      | some c => rw [q] at hx; cases hx; exact ⟨c, rfl⟩
    exact ⟨.int t, rfl, t, 1000003, rfl, rfl, .inr ⟨by decide, by decide⟩, .int c, rfl, c, _, rfl, rfl, (by show (0 : Int) < 2305843009213693951; decide), _, _, rfl, rfl, _, 1, rfl, rfl, _, _, rfl, rfl, (by show (0 : Int) < 2305843009213693951; decide), rfl, _, some (.int c), rfl, Int.emod_nonneg _ (by decide), Int.emod_lt_of_pos _ (by decide)⟩
  · subst e es
    refine ⟨.ref a, rfl, a, _, rfl, .inl hS, fun l nl => ⟨.int t, rfl, small_le (by show 5 ≤ 1000; decide), fun r nr => ?_⟩⟩
    have s1 : Same H2 (upd H2 l (.lst (ns.map V.int))) := same_upd nl
    have lr : l ≠ r := fun z => by rw [← z, upd_same] at nr; cases nr
    exact q ⟨r, l⟩ _ (s1.trans (same_upd nr)) (s1.free nr) ⟨ns, 0, 0, 0, t, upd_same, by rw [upd_ne lr]; exact upd_same, Nat.zero_le _, Int.le_refl 0, Int.le_refl 0, Int.le_refl 0, t0, t1⟩
end
end CL
set_option Elab.async false
set_option linter.all false
set_option maxRecDepth 100000
set_option maxHeartbeats 4000000
namespace CL
open PySem PySem.Spec PyProof.Rows L2 GE
/-! ### who comes goes past all that let it -/
def goes : Nat → List (Option Int) → Nat × List (Option Int)
  | 0, l => (0, l)
  | p + 1, l => match l[p]? with
    | some (some k) => if k = 0 then (p + 1, l) else goes p (l.set p (some (k - 1)))
    | some none => goes p l
    | none => (p + 1, l)
theorem goes_le : ∀ (p : Nat) (l : List (Option Int)), (goes p l).1 ≤ p ∧ (goes p l).2.length = l.length
  | 0, l => ⟨Nat.le_refl 0, rfl⟩
  | p + 1, l => by
    unfold goes
    split
    · split
      · exact ⟨Nat.le_refl _, rfl⟩
      · have h := goes_le p (l.set p (some (‹Int› - 1)))
        exact ⟨Nat.le_succ_of_le h.1, by rw [h.2, List.length_set]⟩
    · have h := goes_le p l
      exact ⟨Nat.le_succ_of_le h.1, h.2⟩
    · exact ⟨Nat.le_refl _, rfl⟩
theorem goes_zero : ∀ (p : Nat) (l : List (Option Int)) (j : Nat), l[j]? = some (some 0) → (goes p l).2[j]? = some (some 0)
  | 0, l, j, h => h
  | p + 1, l, j, h => by
    unfold goes
    split
    · rename_i k hk
      split
      · exact h
      · rename_i k0
        refine goes_zero p _ j ?_
        rw [List.getElem?_set, if_neg (fun z => ?_)]
        · exact h
        · rw [z, h] at hk
          cases hk
          exact k0 rfl
    · exact goes_zero p l j h
    · exact h
/-- where a nought stands behind, or at, the last of the first g: these are let be -/
theorem goes_drop (g : Nat) : ∀ (p : Nat) (l : List (Option Int)), g + p ≤ l.length → (∃ j, g ≤ j + 1 ∧ j < g + p ∧ l[j]? = some (some 0)) →
    goes p (l.drop g) = ((goes (g + p) l).1 - g, (goes (g + p) l).2.drop g) ∧ g ≤ (goes (g + p) l).1 ∧ (goes (g + p) l).2.take g = l.take g
  | 0, l, hl, ⟨j, h1, h2, h3⟩ => by
    obtain ⟨g', rfl⟩ : ∃ g', g = g' + 1 := ⟨g - 1, by omega⟩
    obtain rfl : j = g' := by omega
    have e : goes (j + 1 + 0) l = (j + 1, l) := by
      show goes (j + 1) l = _
      unfold goes
      rw [h3]
      rfl
    rw [e]
    exact ⟨by simp [goes], Nat.le_refl _, rfl⟩
  | p + 1, l, hl, ⟨j, h1, h2, h3⟩ => by
    have hlt : g + p < l.length := by omega
    have ed : (l.drop g)[p]? = l[g + p]? := List.getElem?_drop
    have es : goes (g + (p + 1)) l = goes (g + p + 1) l := rfl
    rw [es]
    conv => lhs; lhs; unfold goes
    rw [ed]
    have eu : goes (g + p + 1) l = match l[g + p]? with
      | some (some k) => if k = 0 then (g + p + 1, l) else goes (g + p) (l.set (g + p) (some (k - 1)))
      | some none => goes (g + p) l
      | none => (g + p + 1, l) := by conv => lhs; unfold goes
    rw [eu]
    cases q : l[g + p]? with
    | none => rw [List.getElem?_eq_getElem hlt] at q; cases q
    | some o =>
      cases o with
      | none =>
        refine goes_drop g p l (by omega) ⟨j, h1, ?_, h3⟩
        rcases Nat.lt_or_ge j (g + p) with z | z
        · exact z
        · obtain rfl : j = g + p := by omega
          rw [q] at h3; cases h3
      | some k =>
        dsimp only
        by_cases hk : k = 0
        · rw [if_pos hk, if_pos hk]
          exact ⟨by congr 1; show p + 1 = g + p + 1 - g; omega, by show g ≤ g + p + 1; omega, rfl⟩
        · rw [if_neg hk, if_neg hk]
          have hj : j ≠ g + p := fun z => by rw [z, q] at h3; cases h3; exact hk rfl
          obtain ⟨i1, i2, i3⟩ := goes_drop g p (l.set (g + p) (some (k - 1))) (by rw [List.length_set]; omega) ⟨j, h1, by omega, by rw [List.getElem?_set, if_neg (Ne.symm hj)]; exact h3⟩
          have e2 : (l.drop g).set p (some (k - 1)) = (l.set (g + p) (some (k - 1))).drop g := by
            rw [List.drop_set]
            rw [if_neg (by omega)]
            congr 1
            omega
          rw [e2]
          refine ⟨i1, i2, ?_⟩
          rw [i3, List.take_set_of_le (by omega)]
/-! ### a line's state -/
inductive Deed where
  | come (p : Option Int)
  | serve
structure LS where
  xs : List Nat
  rs : List (Option Int)
  ps : List Nat
  sv : List (Nat × Option Int)
  ds : List Deed
def LS.nil : LS := ⟨[], [], [], [], []⟩
def bump (ps : List Nat) : List Nat → List Nat
  | [] => ps
  | y :: ys => bump (ps.set y (ps.getD y 0 + 1)) ys
theorem bump_len : ∀ (ys ps : List Nat), (bump ps ys).length = ps.length
  | [], _ => rfl
  | y :: ys, ps => by
    unfold bump
    rw [bump_len ys, List.length_set]
abbrev LS.k (s : LS) : Nat := (goes s.rs.length s.rs).1
def comeS (s : LS) (p : Option Int) : LS :=
  ⟨s.xs.take s.k ++ s.ps.length :: s.xs.drop s.k, (goes s.rs.length s.rs).2.take s.k ++ p :: (goes s.rs.length s.rs).2.drop s.k, bump s.ps (s.xs.drop s.k) ++ [0], s.sv, s.ds ++ [.come p]⟩
def serveS (s : LS) (x : Nat) (r : Option Int) : LS := ⟨s.xs.tail, s.rs.tail, s.ps, s.sv ++ [(x, r)], s.ds ++ [.serve]⟩
structure LS.Ok (s : LS) : Prop where
  len : s.xs.length = s.rs.length
  lt : ∀ x ∈ s.xs, x < s.ps.length
  tot : s.xs.length + s.sv.length = s.ps.length
  dl : s.ds.length = s.ps.length + s.sv.length
theorem nil_ok : LS.nil.Ok := ⟨rfl, (fun x h => nomatch h), rfl, rfl⟩
theorem LS.Ok.come {s : LS} (h : s.Ok) (p : Option Int) : (comeS s p).Ok := by
  obtain ⟨g1, g2⟩ := goes_le s.rs.length s.rs
  have hl := h.len
  have hps : (comeS s p).ps.length = s.ps.length + 1 := by
    show (bump _ _ ++ [0]).length = _
    rw [List.length_append, bump_len]; rfl
  have hxs : (comeS s p).xs.length = s.xs.length + 1 := by
    show (_ ++ _ :: _).length = _
    rw [List.length_append, List.length_cons, List.length_take, List.length_drop]
    omega
  refine ⟨?_, fun x hx => ?_, ?_, ?_⟩
  · rw [hxs]
    show _ = (_ ++ _ :: _).length
    rw [List.length_append, List.length_cons, List.length_take, List.length_drop, g2]
    omega
  · rw [hps]
    rcases List.mem_append.mp (show x ∈ s.xs.take s.k ++ s.ps.length :: s.xs.drop s.k from hx) with z | z
    · exact Nat.lt_succ_of_lt (h.lt x (List.mem_of_mem_take z))
    · rcases List.mem_cons.mp z with z | z
      · rw [z]; exact Nat.lt_succ_self _
      · exact Nat.lt_succ_of_lt (h.lt x (List.mem_of_mem_drop z))
  · rw [hxs, hps]
    have := h.tot
    show s.xs.length + 1 + s.sv.length = _
    omega
  · rw [hps]
    show (s.ds ++ [_]).length = s.ps.length + 1 + s.sv.length
    rw [List.length_append, h.dl, List.length_singleton]
    omega
theorem LS.Ok.serve {s : LS} (h : s.Ok) {x : Nat} {r : Option Int} {xs : List Nat} (e : s.xs = x :: xs) : (serveS s x r).Ok := by
  have hl := h.len
  refine ⟨?_, fun y hy => h.lt y (List.mem_of_mem_tail (show y ∈ s.xs.tail from hy)), ?_, ?_⟩
  · show s.xs.tail.length = s.rs.tail.length
    rw [List.length_tail, List.length_tail, hl]
  · show s.xs.tail.length + (s.sv ++ [_]).length = s.ps.length
    have := h.tot
    rw [List.length_append, List.length_singleton, List.length_tail, e, List.length_cons] at *
    omega
  · show (s.ds ++ [_]).length = s.ps.length + (s.sv ++ [_]).length
    rw [List.length_append, List.length_append, h.dl, List.length_singleton, List.length_singleton]
    omega
/-! ### the one line serves its front where that is safe -/
structure Beh (g : Nat) (s t : LS) : Prop where
  xs : s.xs = t.xs.drop g
  rs : s.rs = t.rs.drop g
  ps : s.ps = t.ps
  le : g ≤ t.xs.length
  zero : g = 0 ∨ ∃ j, g ≤ j + 1 ∧ t.rs[j]? = some (some 0)
theorem Beh.goes {g : Nat} {s t : LS} (b : Beh g s t) (ht : t.Ok) : CL.goes s.rs.length s.rs = ((CL.goes t.rs.length t.rs).1 - g, (CL.goes t.rs.length t.rs).2.drop g) ∧ g ≤ (CL.goes t.rs.length t.rs).1 ∧ (CL.goes t.rs.length t.rs).2.take g = t.rs.take g := by
  have hl := ht.len
  have hg := b.le
  rw [b.rs]
  rcases b.zero with z | ⟨j, h1, h2⟩
  · subst z
    exact ⟨by simp, Nat.zero_le _, rfl⟩
  · have hj := (List.getElem?_eq_some_iff.mp h2).1
    have h := goes_drop g (t.rs.length - g) t.rs (by omega) ⟨j, h1, by omega, h2⟩
    have e : g + (t.rs.length - g) = t.rs.length := by omega
    rw [e] at h
    rw [List.length_drop]
    exact h
theorem drop_take_cons {α : Type} (l : List α) (a : α) (g k : Nat) (h : g ≤ k) (hk : k ≤ l.length) : (l.take k ++ a :: l.drop k).drop g = (l.drop g).take (k - g) ++ a :: (l.drop g).drop (k - g) := by
  rw [List.drop_append_of_le_length (by rw [List.length_take]; omega), List.drop_take, List.drop_drop]
  congr 3
  omega
theorem take_take_cons {α : Type} (l : List α) (a : α) (g k : Nat) (h : g ≤ k) (hk : k ≤ l.length) : (l.take k ++ a :: l.drop k).take g = l.take g := by
  rw [List.take_append_of_le_length (by rw [List.length_take]; omega), List.take_take, Nat.min_eq_left h]
theorem Beh.come {g : Nat} {s t : LS} (b : Beh g s t) (ht : t.Ok) (p : Option Int) : Beh g (comeS s p) (comeS t p) ∧ (comeS t p).xs.take g = t.xs.take g := by
  obtain ⟨h1, h2, h3⟩ := b.goes ht
  obtain ⟨k1, k2⟩ := goes_le t.rs.length t.rs
  have hl := ht.len
  have hk : s.k = t.k - g := by show (CL.goes s.rs.length s.rs).1 = _; rw [h1]
  have hr : (CL.goes s.rs.length s.rs).2 = (CL.goes t.rs.length t.rs).2.drop g := by rw [h1]
  have hx : (s.xs.drop s.k) = t.xs.drop t.k := by
    rw [hk, b.xs, List.drop_drop]
    congr 1
    show g + ((CL.goes t.rs.length t.rs).1 - g) = (CL.goes t.rs.length t.rs).1
    omega
  refine ⟨⟨?_, ?_, ?_, ?_, ?_⟩, take_take_cons _ _ _ _ h2 (by show (CL.goes t.rs.length t.rs).1 ≤ _; omega)⟩
  · show s.xs.take s.k ++ s.ps.length :: s.xs.drop s.k = (t.xs.take t.k ++ t.ps.length :: t.xs.drop t.k).drop g
    rw [drop_take_cons _ _ _ _ h2 (by show (CL.goes t.rs.length t.rs).1 ≤ _; omega), hk, b.xs, b.ps]
  · show (CL.goes s.rs.length s.rs).2.take s.k ++ p :: (CL.goes s.rs.length s.rs).2.drop s.k = ((CL.goes t.rs.length t.rs).2.take t.k ++ p :: (CL.goes t.rs.length t.rs).2.drop t.k).drop g
    rw [drop_take_cons _ _ _ _ h2 (by show (CL.goes t.rs.length t.rs).1 ≤ _; omega), hk, hr]
  · show bump s.ps (s.xs.drop s.k) ++ [0] = bump t.ps (t.xs.drop t.k) ++ [0]
    rw [hx, b.ps]
  · show g ≤ (_ ++ _ :: _).length
    have := b.le
    rw [List.length_append, List.length_cons, List.length_take, List.length_drop]
    omega
  · rcases b.zero with z | ⟨j, j1, j2⟩
    · exact .inl z
    · refine .inr ?_
      have hz := goes_zero t.rs.length t.rs j j2
      have hkk : t.k = (CL.goes t.rs.length t.rs).1 := rfl
      by_cases hj : j < t.k
      · refine ⟨j, j1, ?_⟩
        show (_ ++ _ :: _)[j]? = _
        rw [List.getElem?_append_left (by rw [List.length_take]; omega), List.getElem?_take, if_pos hj]
        exact hz
      · refine ⟨j + 1, by omega, ?_⟩
        show (_ ++ _ :: _)[j + 1]? = _
        rw [List.getElem?_append_right (by rw [List.length_take]; omega), List.length_take, Nat.min_eq_left (by omega)]
        have e : j + 1 - t.k = (j - t.k) + 1 := by omega
        rw [e, List.getElem?_cons_succ, List.getElem?_drop]
        rw [show t.k + (j - t.k) = j by omega]
        exact hz
theorem Beh.serve {g : Nat} {s t : LS} (b : Beh g s t) (h0 : some 0 ∈ s.rs) {x : Nat} {r : Option Int} {xs : List Nat} (e : s.xs = x :: xs) : Beh (g + 1) (serveS s x r) t ∧ t.xs.take (g + 1) = t.xs.take g ++ [x] := by
  have hx : t.xs.drop g = x :: xs := by rw [← b.xs]; exact e
  have hlt : g < t.xs.length := by
    rcases Nat.lt_or_ge g t.xs.length with z | z
    · exact z
    · rw [List.drop_of_length_le z] at hx; cases hx
  have hget : t.xs[g]? = some x := by
    have : (t.xs.drop g)[0]? = some x := by rw [hx]; rfl
    rw [List.getElem?_drop] at this
    exact this
  refine ⟨⟨?_, ?_, b.ps, hlt, .inr ?_⟩, by rw [List.take_add_one, hget]; rfl⟩
  · show s.xs.tail = _
    rw [b.xs, List.tail_drop]
  · show s.rs.tail = _
    rw [b.rs, List.tail_drop]
  · obtain ⟨j, hj⟩ := List.getElem?_of_mem h0
    rw [b.rs, List.getElem?_drop] at hj
    exact ⟨g + j, by omega, hj⟩
end CL
set_option Elab.async false
set_option linter.all false
set_option maxRecDepth 100000
set_option maxHeartbeats 4000000
namespace CL
open PySem PySem.Spec PyProof.Rows L2 GE
abbrev sLet : Stmt := topS 24
abbrev sLn : Stmt := topS 26
abbrev sInit : Stmt := inClass sLn 0
abbrev sComeM : Stmt := inClass sLn 1
abbrev sServeM : Stmt := inClass sLn 2
abbrev sQueM : Stmt := inClass sLn 5
abbrev sLeftM : Stmt := inClass sLn 6
abbrev sWentM : Stmt := inClass sLn 7
abbrev sLenM : Stmt := inClass sLn 9
theorem scLet : FnScope ["left", "place"] ["left"] (defScope sLet) := ⟨rfl, rfl, rfl, by decide +kernel, rfl, by decide +kernel, by decide +kernel⟩
theorem scInit : FnScope ["self"] ["self"] (defScope sInit) := ⟨rfl, rfl, rfl, by decide +kernel, rfl, by decide +kernel, by decide +kernel⟩
theorem scComeM : FnScope ["self", "patience", "newcomer", "place", "person"] ["self", "patience"] (defScope sComeM) := ⟨rfl, rfl, rfl, by decide +kernel, rfl, by decide +kernel, by decide +kernel⟩
theorem scServeM : FnScope ["self", "person"] ["self"] (defScope sServeM) := ⟨rfl, rfl, rfl, by decide +kernel, rfl, by decide +kernel, by decide +kernel⟩
theorem scQueM : FnScope ["self"] ["self"] (defScope sQueM) := ⟨rfl, rfl, rfl, by decide +kernel, rfl, by decide +kernel, by decide +kernel⟩
theorem scLeftM : FnScope ["self"] ["self"] (defScope sLeftM) := ⟨rfl, rfl, rfl, by decide +kernel, rfl, by decide +kernel, by decide +kernel⟩
theorem scWentM : FnScope ["self", "person"] ["self", "person"] (defScope sWentM) := ⟨rfl, rfl, rfl, by decide +kernel, rfl, by decide +kernel, by decide +kernel⟩
theorem scLenM : FnScope ["self"] ["self"] (defScope sLenM) := ⟨rfl, rfl, rfl, by decide +kernel, rfl, by decide +kernel, by decide +kernel⟩
/-! ### xs[i] -= e -/
theorem get_list {X : Cx} : PGet X (fun x y H Q => ∃ p xs, ∃ i : Nat, ∃ v, x = .ref p ∧ y = .int (i : Int) ∧ SqL X.K H p xs ∧ xs[i]? = some v ∧ Q v H) := by
  intro pins s σ H o k ov iv Q I ro ri h
  obtain ⟨p, xs, i, v, rfl, rfl, hs, hv, q⟩ := h
  cases ro
  obtain ⟨t, rfl⟩ := ri
  obtain ⟨its, r, pl, hz⟩ := I.list hs
  obtain ⟨w, ew, rw'⟩ := r.get hv
  have hn := line63
  have hl : i < xs.length := (List.getElem?_eq_some_iff.mp hv).1
  exact wpAny_getItem_list pl.isList (by omega) (by omega) (by simpa using ew) ⟨v, H, I, rw', q⟩
def optD : Option Int → PyData
  | some i => .int i
  | none => .none
def optV : Option Int → V
  | some i => .int i
  | none => .non
theorem rp_opt2 {H : Hp} : ∀ o : Option Int, Rp H (optV o) (optD o)
  | none => .non
  | some i => .int i
def spLet : Sp := fun vs H Q _ => ∃ (L : Addr) (l : List (Option Int)), vs = [.ref L] ∧ H L = some (.lst (l.map optV)) ∧ l.length ≤ 2000 ∧ ∀ H', (∀ b, b ≠ L → H' b = H b) → H' L = some (.lst ((goes l.length l).2.map optV)) → Q (.int ((goes l.length l).1 : Int)) H'
theorem optV_dp {K : PySem.W.Frag} {H : Hp} : ∀ o : Option Int, Dp K H (optV o) (optD o)
  | none => .non
  | some i => .int i
theorem optD_shaped : ∀ o : Option Int, SeqAt.shaped (optD o) = true
  | none => by decide
  | some i => by unfold SeqAt.shaped; simp [optD, PyData.canLay0, PyData.depth]
theorem optV_ne0 : ∀ o : Option Int, (!PyData.eqv (optD o) (.int 0)) = !decide (o = some 0)
  | none => by simp [optD, PyData.eqv]
  | some i => by
    by_cases h : i = 0
    · subst h; simp [optD, PyData.eqv]
    · simp [optD, PyData.eqv, h]
theorem rp_optV {H : Hp} {v : V} : ∀ {o : Option Int}, Rp H v (optD o) → v = optV o
  | none, h => by cases h; rfl
  | some i, h => by cases h; rfl
theorem ixN_nat {n j : Nat} (h : j < n) : ixN n (j : Int) = some j := by
  unfold ixN
  rw [if_pos (by omega)]
  simp [h]
section
variable {P : Program} {w : World} {K : PySem.W.Frag} {mg : Str → Option Value} {base : Heap}
theorem ok_let {f : Addr} {fd : FuncData} (F : Fun K "let_past" "let_past" sLet f fd) (T : Nm mg) : FnOk P w K mg base CX0 1 f fd ["left"] spLet := by
  refine F.ok scLet (fun vs H Q E ⟨L, l, e, _⟩ => by rw [e]; rfl) (fun cdv A outer s H vs Q E hr h => ?_)
  obtain ⟨L2, l0, rfl, eL, hl0, q⟩ := h
  have nd := scLet.nd
  refine ⟨_, (pss_cons (ps_set (i := 1) nd rfl (.inl rfl) (pe_callB call_len_seq (by rfl) T.len PySem.boot_len (pa_cons (pv 0) pa_nil)))
      (pss_cons (ps_while PassesOwn.never (PW.pt (pw_and (pt_cmpR op_gt (pv 1) pe_int (nomark _)) (pw_and1 (pt_cmpR (op_neD hr.units) (pe_ix ix_list (pv 0) (pe_op op_sub (pv 1) pe_int) (fun _ _ => rfl)) pe_int (nomark _)))))
        (pss_cons (ps_aug (i := 1) nd rfl (.inl rfl) pe_int ip_sub)
        (pss_one (ps_if (pt_cmp (pc_notN (pe_ix ix_list (pv 0) (pv 1) (fun _ _ => rfl)))) (pss_one (ps_augS (pv 0) (pv 1) get_list pe_int ip_sub set_list)) pss_nil))))
      (pss_one (ps_ret (pv 1))))), ?_⟩
  refine ⟨.ref L2, rfl, L2, _, rfl, .inl (SqL.of eL), ?_⟩
  rw [List.length_map]
  refine ⟨fun k σ H3 => ∃ l : List (Option Int), σ = [some (.ref L2), some (.int (k : Int))] ∧ (∀ b, b ≠ L2 → H3 b = H b) ∧ H3 L2 = some (.lst (l.map optV)) ∧ l.length = l0.length ∧ k ≤ l0.length ∧ goes k l = goes l0.length l0,
      ⟨l0.length, l0, rfl, fun b _ => rfl, eL, rfl, Nat.le_refl _, rfl⟩, fun k σ H3 hW => ?_⟩
  obtain ⟨l, rfl, s3, f2, hl, hk, hg⟩ := hW
  have ix : ∀ {b : Nat} {o : Option Int}, l[b]? = some o → (l.map optV)[b]? = some (optV o) := fun {b o} e => by rw [List.getElem?_map, e]; rfl
  have fin : ∀ {k : Nat}, (k, l) = goes l0.length l0 → Q (.int (k : Int)) H3 := fun {k} e => by
    have q' := q H3 s3
    rw [← e] at q'
    exact q' f2
  cases k with
  | zero =>
    refine ⟨.int ((0 : Nat) : Int), rfl, ((0 : Nat) : Int), 0, rfl, rfl, decide ((0 : Int) < ((0 : Nat) : Int)), rfl, iteF ?_⟩
    exact ⟨.int ((0 : Nat) : Int), rfl, fin hg⟩
  | succ k' =>
    have hk' : k' < l.length := by omega
    obtain ⟨o, ho⟩ : ∃ o, l[k']? = some o := ⟨_, List.getElem?_eq_getElem hk'⟩
    have hi1 : ((k' + 1 : Nat) : Int) - 1 = (k' : Int) := by omega
    refine ⟨.int ((k' + 1 : Nat) : Int), rfl, ((k' + 1 : Nat) : Int), 0, rfl, rfl, decide ((0 : Int) < ((k' + 1 : Nat) : Int)), rfl, ?_⟩
    rw [decide_eq_true (by omega : (0 : Int) < ((k' + 1 : Nat) : Int))]
    refine iteT ⟨.ref L2, rfl, .int ((k' + 1 : Nat) : Int), rfl, ((k' + 1 : Nat) : Int), 1, rfl, rfl, L2, _, ((k' + 1 : Nat) : Int) - 1, optV o, rfl, rfl, SqL.of f2, by rw [hi1]; exact atI_nat (ix ho), optD o, .int 0, optV_dp o, .int 0, optD_shaped o, optD_shaped (some 0), _, rfl, ?_⟩
    rw [optV_ne0]
    by_cases hz : o = some 0
    · rw [decide_eq_true hz]
      have hg2 : (k' + 1, l) = goes l0.length l0 := by
        rw [← hg]
        unfold goes
        rw [ho, hz]
        rfl
      exact iteF ⟨.int ((k' + 1 : Nat) : Int), rfl, fin hg2⟩
    · rw [decide_eq_false hz]
      cases o with
      | none =>
        have hg2 : goes k' l = goes l0.length l0 := by
          rw [← hg]
          conv => rhs; unfold goes
          rw [ho]
        refine iteT ⟨fun σ' H'' => σ' = [some (.ref L2), some (.int (((k' + 1 : Nat) : Int) - 1))] ∧ H'' = H3, fun σ' H'' z => ⟨k', Nat.lt_succ_self k', l, by rw [z.1, hi1], by rw [z.2]; exact s3, by rw [z.2]; exact f2, hl, by omega, hg2⟩, ?_⟩
        refine ⟨.int ((k' + 1 : Nat) : Int), rfl, ((k' + 1 : Nat) : Int), 1, rfl, rfl, .ref L2, rfl, .int (((k' + 1 : Nat) : Int) - 1), rfl, L2, _, ((k' + 1 : Nat) : Int) - 1, optV none, rfl, rfl, SqL.of f2, by rw [hi1]; exact atI_nat (ix ho), _, rfl, iteF ⟨rfl, rfl⟩⟩
      | some j =>
        have hj0 : j ≠ 0 := fun z => hz (by rw [z])
        have hg2 : goes k' (l.set k' (some (j - 1))) = goes l0.length l0 := by
          rw [← hg]
          conv => rhs; unfold goes
          rw [ho]
          exact (if_neg hj0).symm
        refine iteT ⟨fun σ' H'' => σ' = [some (.ref L2), some (.int (((k' + 1 : Nat) : Int) - 1))] ∧ H'' = upd H3 L2 (.lst ((l.set k' (some (j - 1))).map optV)), fun σ' H'' z => ⟨k', Nat.lt_succ_self k', l.set k' (some (j - 1)), by rw [z.1, hi1], by rw [z.2]; exact fun b hb => by rw [upd_ne hb]; exact s3 b hb, by rw [z.2]; exact upd_same, by rw [List.length_set]; exact hl, by omega, hg2⟩, ?_⟩
        refine ⟨.int ((k' + 1 : Nat) : Int), rfl, ((k' + 1 : Nat) : Int), 1, rfl, rfl, .ref L2, rfl, .int (((k' + 1 : Nat) : Int) - 1), rfl, L2, _, ((k' + 1 : Nat) : Int) - 1, optV (some j), rfl, rfl, SqL.of f2, by rw [hi1]; exact atI_nat (ix ho), _, rfl, iteT ?_⟩
        refine ⟨.ref L2, rfl, .int (((k' + 1 : Nat) : Int) - 1), rfl, L2, _, k', optV (some j), rfl, by rw [hi1], SqL.of f2, ix ho, j, 1, rfl, rfl, L2, _, (k' : Int), k', rfl, by rw [hi1], f2, ixN_nat (by rw [List.length_map]; exact hk'), rfl, ?_⟩
        rw [List.map_set]
        first | rfl | exact ⟨rfl, rfl⟩
end
/-- people by their numbers, as values -/
def ppl (xs : List Nat) : List V := xs.map fun x : Nat => V.int (x : Int)
theorem ppl_len (xs : List Nat) : (ppl xs).length = xs.length := List.length_map ..
theorem ppl_get {xs : List Nat} {i : Nat} (h : i < xs.length) : (ppl xs)[i]? = some (.int (xs[i] : Int)) := by
  unfold ppl
  rw [List.getElem?_map, List.getElem?_eq_getElem h]
  rfl
theorem small1000 {n : Nat} (h : n < 1000) : n < sizeLine := by
  have : 1000 ≤ sizeLine := by decide
  omega
theorem seq_nat {n j : Nat} (h : j < n) : seqIndex? (j : Int) n = some j := by
  unfold seqIndex?
  have h1 : ¬ ((j : Int) < 0) := by omega
  simp [h1, h]
theorem bump_snoc : ∀ (ys ps : List Nat) (y : Nat), bump ps (ys ++ [y]) = (bump ps ys).set y ((bump ps ys).getD y 0 + 1)
  | [], ps, y => rfl
  | x :: ys, ps, y => bump_snoc ys _ y
/-! ### the class, and a line's places -/
structure LnT (K : PySem.W.Frag) (mg : Str → Option Value) (C : Addr) : Prop where
  cl : Cls K C
  n_pe : NoAttr K C "people"
  n_re : NoAttr K C "rest"
  n_pa : NoAttr K C "past"
  n_se : NoAttr K C "served"
  n_de : NoAttr K C "deeds"
  mgC : mg "Line" = some (.ref C)
structure LnA where
  o : Addr
  pe : Addr
  re : Addr
  pa : Addr
  se : Addr
  de : Addr
def LnA.has (L : LnA) (b : Addr) : Prop := b = L.pe ∨ b = L.re ∨ b = L.pa ∨ b = L.se ∨ b = L.de
structure Flds (fs : List (Str × V)) (L : LnA) : Prop where
  pe : fs.lookup ("people" : Str) = some (V.ref L.pe)
  re : fs.lookup ("rest" : Str) = some (V.ref L.re)
  pa : fs.lookup ("past" : Str) = some (V.ref L.pa)
  se : fs.lookup ("served" : Str) = some (V.ref L.se)
  de : fs.lookup ("deeds" : Str) = some (V.ref L.de)
  no : ∀ m : Str, m ≠ "people" → m ≠ "rest" → m ≠ "past" → m ≠ "served" → m ≠ "deeds" → fs.lookup m = none
def ServV (H : Hp) (v : V) (x : Nat × Option Int) : Prop := ∃ t, v = .ref t ∧ H t = some (.tup [.int (x.1 : Int), optV x.2])
def DeedV (H : Hp) (v : V) : Deed → Prop
  | .come p => ∃ t, v = .ref t ∧ H t = some (.tup [.str "come", optV p])
  | .serve => ∃ t, v = .ref t ∧ H t = some (.tup [.str "serve"])
inductive All2 {α : Type} (R : V → α → Prop) : List V → List α → Prop
  | nil : All2 R [] []
  | cons {v : V} {x : α} {vs : List V} {xs : List α} : R v x → All2 R vs xs → All2 R (v :: vs) (x :: xs)
theorem All2.length {α : Type} {R : V → α → Prop} : ∀ {vs : List V} {xs : List α}, All2 R vs xs → vs.length = xs.length
  | _, _, .nil => rfl
  | _, _, .cons _ t => congrArg (· + 1) (All2.length t)
theorem All2.imp {α : Type} {R R' : V → α → Prop} (h : ∀ v x, R v x → R' v x) : ∀ {vs : List V} {xs : List α}, All2 R vs xs → All2 R' vs xs
  | _, _, .nil => .nil
  | _, _, .cons a t => .cons (h _ _ a) (All2.imp h t)
theorem All2.snoc {α : Type} {R : V → α → Prop} : ∀ {vs : List V} {xs : List α} {v : V} {x : α}, All2 R vs xs → R v x → All2 R (vs ++ [v]) (xs ++ [x])
  | _, _, _, _, .nil, h => .cons h .nil
  | _, _, _, _, .cons a t, h => .cons a (All2.snoc t h)
structure LineAt (C : Addr) (H : Hp) (L : LnA) (s : LS) : Prop where
  ob : ∃ dx fs, H L.o = some (.ins C dx fs) ∧ Flds fs L
  pe : H L.pe = some (.lst (ppl s.xs))
  re : H L.re = some (.lst (s.rs.map optV))
  pa : H L.pa = some (.lst (ppl s.ps))
  se : ∃ vs, H L.se = some (.lst vs) ∧ All2 (ServV H) vs s.sv
  de : ∃ vs, H L.de = some (.lst vs) ∧ All2 (DeedV H) vs s.ds
  nd : [L.pe, L.re, L.pa, L.se, L.de].Nodup
  ok : s.Ok
/-- all but a line's own lists stays -/
structure MvL (L : LnA) (H H' : Hp) : Prop where
  keep : ∀ b o, ¬ L.has b → H b = some o → H' b = some o
theorem MvL.refl (L : LnA) (H : Hp) : MvL L H H := ⟨fun _ _ _ h => h⟩
theorem MvL.trans {L : LnA} {H H1 H2 : Hp} (a : MvL L H H1) (b : MvL L H1 H2) : MvL L H H2 := ⟨fun c o n h => b.keep c o n (a.keep c o n h)⟩
theorem MvL.of {L : LnA} {H H' : Hp} (s : Same H H') : MvL L H H' := ⟨fun b o _ h => s b o h⟩
theorem MvL.upd {L : LnA} {H H' : Hp} {p : Addr} {o : HO} (m : MvL L H H') (h : L.has p) : MvL L H (L2.upd H' p o) := ⟨fun b x nb e => by
  rw [upd_ne fun z => nb (by rw [z]; exact h)]
  exact m.keep b x nb e⟩
theorem MvL.new {L : LnA} {H H' : Hp} {p : Addr} {o : HO} (m : MvL L H H') (h : H' p = none) : MvL L H (L2.upd H' p o) := m.trans (MvL.of (same_upd h))
section
variable {C : Addr} {H H' : Hp} {L : LnA} {s : LS}
theorem LineAt.isl (h : LineAt C H L s) {b : Addr} (hb : L.has b) : ∃ vs, H b = some (.lst vs) := by
  rcases hb with rfl | rfl | rfl | rfl | rfl
  · exact ⟨_, h.pe⟩
  · exact ⟨_, h.re⟩
  · exact ⟨_, h.pa⟩
  · obtain ⟨vs, e, _⟩ := h.se; exact ⟨vs, e⟩
  · obtain ⟨vs, e, _⟩ := h.de; exact ⟨vs, e⟩
theorem LineAt.nol (h : LineAt C H L s) {b : Addr} {o : HO} (e : H b = some o) (n : ∀ vs, o ≠ .lst vs) : ¬ L.has b := fun hb => by
  obtain ⟨vs, z⟩ := h.isl hb
  rw [e] at z
  exact n vs (Option.some.inj z)
theorem ServV.kx {v : V} {x : Nat × Option Int} (k : ∀ t ys, H t = some (.tup ys) → H' t = some (.tup ys)) (h : ServV H v x) : ServV H' v x := by
  obtain ⟨t, e, q⟩ := h
  exact ⟨t, e, k t _ q⟩
theorem DeedV.kx {v : V} {d : Deed} (k : ∀ t ys, H t = some (.tup ys) → H' t = some (.tup ys)) (h : DeedV H v d) : DeedV H' v d := by
  cases d with
  | come p => obtain ⟨t, e, q⟩ := h; exact ⟨t, e, k t _ q⟩
  | serve => obtain ⟨t, e, q⟩ := h; exact ⟨t, e, k t _ q⟩
/-- a line whose own places stay, stays -/
theorem LineAt.kx (h : LineAt C H L s) (k : ∀ b o, (L.has b ∨ ∀ vs, o ≠ .lst vs) → H b = some o → H' b = some o) : LineAt C H' L s := by
  obtain ⟨dx, fs, ho, hf⟩ := h.ob
  obtain ⟨vs, e1, a1⟩ := h.se
  obtain ⟨ws, e2, a2⟩ := h.de
  have kt : ∀ t ys, H t = some (.tup ys) → H' t = some (.tup ys) := fun t ys e => k t _ (.inr fun _ => nofun) e
  exact ⟨⟨dx, fs, k _ _ (.inr fun _ => nofun) ho, hf⟩, k _ _ (.inl (.inl rfl)) h.pe, k _ _ (.inl (.inr (.inl rfl))) h.re, k _ _ (.inl (.inr (.inr (.inl rfl)))) h.pa, ⟨vs, k _ _ (.inl (.inr (.inr (.inr (.inl rfl))))) e1, a1.imp fun _ _ => ServV.kx kt⟩, ⟨ws, k _ _ (.inl (.inr (.inr (.inr (.inr rfl))))) e2, a2.imp fun _ _ => DeedV.kx kt⟩, h.nd, h.ok⟩
theorem LineAt.same (h : LineAt C H L s) (m : Same H H') : LineAt C H' L s := h.kx fun b o _ e => m b o e
/-- one line's deeds are nothing to another one -/
theorem LineAt.other {C' : Addr} {L' : LnA} {s' : LS} (h : LineAt C H L s) (h' : LineAt C' H L' s') (d : ∀ b, L.has b → ¬ L'.has b) (m : MvL L' H H') : LineAt C H' L s := h.kx fun b o hb e => m.keep b o (hb.elim (d b) (h'.nol e)) e
theorem nodup5 {a b c d e : Addr} (h : [a, b, c, d, e].Nodup) : a ≠ b ∧ a ≠ c ∧ a ≠ d ∧ a ≠ e ∧ b ≠ c ∧ b ≠ d ∧ b ≠ e ∧ c ≠ d ∧ c ≠ e ∧ d ≠ e := by
  simp only [List.nodup_cons, List.mem_cons, List.not_mem_nil, or_false, not_or, List.nodup_nil, and_true] at h
  obtain ⟨⟨h1, h2, h3, h4⟩, ⟨h5, h6, h7⟩, ⟨h8, h9⟩, h10, _⟩ := h
  exact ⟨h1, h2, h3, h4, h5, h6, h7, h8, h9, h10⟩
end
/-! ### what each method promises -/
def spInit (C : Addr) : Sp := fun vs H Q _ => ∃ o dx, vs = [.ref o] ∧ H o = some (.ins C dx []) ∧ ∀ (L : LnA) H', L.o = o → (∀ b, L.has b → H b = none) → LineAt C H' L LS.nil → (∀ b x, b ≠ o → H b = some x → H' b = some x) → Q .non H'
def spComeM (C : Addr) : Sp := fun vs H Q _ => ∃ (L : LnA) (s : LS) (p : Option Int), vs = [.ref L.o, optV p] ∧ LineAt C H L s ∧ isPatience (optD p) = true ∧ s.ps.length ≤ 400 ∧ ∀ H', LineAt C H' L (comeS s p) → MvL L H H' → Q (.int (s.ps.length : Int)) H'
def spServeM (C : Addr) : Sp := fun vs H Q _ => ∃ (L : LnA) (s : LS) (x : Nat) (xs : List Nat), vs = [.ref L.o] ∧ LineAt C H L s ∧ s.xs = x :: xs ∧ s.ps.length ≤ 400 ∧ ∀ H' r, s.rs.head? = some r → LineAt C H' L (serveS s x r) → MvL L H H' → Q (.int (x : Int)) H'
def spQueM (C : Addr) : Sp := fun vs H Q _ => ∃ (L : LnA) (s : LS), vs = [.ref L.o] ∧ LineAt C H L s ∧ ∀ p, H p = none → Q (.ref p) (upd H p (.lst (ppl s.xs)))
def spLeftM (C : Addr) : Sp := fun vs H Q _ => ∃ (L : LnA) (s : LS), vs = [.ref L.o] ∧ LineAt C H L s ∧ ∀ p, H p = none → Q (.ref p) (upd H p (.lst (s.rs.map optV)))
def spWentM (C : Addr) : Sp := fun vs H Q _ => ∃ (L : LnA) (s : LS) (x : Nat) (h : x < s.ps.length), vs = [.ref L.o, .int (x : Int)] ∧ LineAt C H L s ∧ ∀ H', Same H H' → Q (.int (s.ps[x] : Int)) H'
def spLenM (C : Addr) : Sp := fun vs H Q _ => ∃ (L : LnA) (s : LS), vs = [.ref L.o] ∧ LineAt C H L s ∧ Q (.int (s.xs.length : Int)) H
theorem init_one {K : PySem.W.Frag} {D : Ends} {σ : L2.St} {G : Hp} {o C dx : Addr} {fs : List (Str × V)} {f : Str} {n : Nat} (h0 : σ[0]? = some (some (.ref o))) (ho : G o = some (.ins C dx fs)) (hc : Cls K C) (hn : NoAttr K C f) (hl : fs.length ≤ n) (h9 : n < 900)
    (q : ∀ p, G p = none → ∀ G', G' o = some (.ins C dx (putF f (.ref p) fs)) → G' p = some (.lst []) → (∀ b x, b ≠ o → G b = some x → G' b = some x) → (putF f (.ref p) fs).length ≤ n + 1 → D.nx σ G') : sFld K (tVar 0) (tLst tNil) f D σ G := by
  refine ⟨Nat.zero_le _, fun p np => ?_⟩
  have hpo : p ≠ o := fun z => by rw [z, ho] at np; cases np
  refine ⟨.ref o, h0, o, C, dx, fs, rfl, by rw [upd_ne (Ne.symm hpo)]; exact ho, hc, hn, by omega, q p np _ upd_same (by rw [upd_ne hpo]; exact upd_same) (fun b x hb e => ?_) (Nat.le_trans (length_putF _ _ _) (Nat.succ_le_succ hl))⟩
  rw [upd_ne hb, upd_ne (ne_of_none e np)]
  exact e
theorem nameq : (("people" : Str) ≠ "rest" ∧ ("people" : Str) ≠ "past" ∧ ("people" : Str) ≠ "served" ∧ ("people" : Str) ≠ "deeds") ∧ (("rest" : Str) ≠ "past" ∧ ("rest" : Str) ≠ "served" ∧ ("rest" : Str) ≠ "deeds") ∧ (("past" : Str) ≠ "served" ∧ ("past" : Str) ≠ "deeds") ∧ ("served" : Str) ≠ "deeds" := by decide +kernel
section
variable {P : Program} {w : World} {K : PySem.W.Frag} {mg : Str → Option Value} {base : Heap} {C : Addr}
theorem ok_init {f : Addr} {fd : FuncData} (F : Fun K "__init__" "Line.__init__" sInit f fd) (T : LnT K mg C) : FnOk P w K mg base CX0 1 f fd ["self"] (spInit C) := by
  refine F.ok scInit (fun vs H Q E ⟨o, dx, e, _⟩ => by rw [e]; rfl) (fun cdv A outer s H vs Q E hr h => ?_)
  obtain ⟨o, dx, rfl, ho, q⟩ := h
  refine ⟨_, (pss_cons (ps_fld (pv 0) (pe_lst pa_nil) rfl) (pss_cons (ps_fld (pv 0) (pe_lst pa_nil) rfl) (pss_cons (ps_fld (pv 0) (pe_lst pa_nil) rfl) (pss_cons (ps_fld (pv 0) (pe_lst pa_nil) rfl) (pss_one (ps_fld (pv 0) (pe_lst pa_nil) rfl)))))), ?_⟩
  refine init_one (o := o) rfl ho T.cl T.n_pe (Nat.le_refl 0) (by decide) fun p1 n1 G1 a1 b1 k1 l1 => ?_
  refine init_one (o := o) rfl a1 T.cl T.n_re l1 (by decide) fun p2 n2 G2 a2 b2 k2 l2 => ?_
  refine init_one (o := o) rfl a2 T.cl T.n_pa l2 (by decide) fun p3 n3 G3 a3 b3 k3 l3 => ?_
  refine init_one (o := o) rfl a3 T.cl T.n_se l3 (by decide) fun p4 n4 G4 a4 b4 k4 l4 => ?_
  refine init_one (o := o) rfl a4 T.cl T.n_de l4 (by decide) fun p5 n5 G5 a5 b5 k5 l5 => ?_
  have ne : ∀ {G : Hp} {p q : Addr} {vs : List V}, G p = some (.lst vs) → G q = none → p ≠ q := fun {G p q vs} e n z => by rw [z, n] at e; cases e
  have no : ∀ {G : Hp} {p : Addr} {fs : List (Str × V)}, G o = some (.ins C dx fs) → G p = none → p ≠ o := fun {G p fs} e n z => by rw [z, e] at n; cases n
  have o1 := no ho n1
  have o2 := no a1 n2
  have o3 := no a2 n3
  have o4 := no a3 n4
  have o5 := no a4 n5
  have b12 := k2 _ _ o1 b1
  have b13 := k3 _ _ o1 b12
  have b14 := k4 _ _ o1 b13
  have b15 := k5 _ _ o1 b14
  have b23 := k3 _ _ o2 b2
  have b24 := k4 _ _ o2 b23
  have b25 := k5 _ _ o2 b24
  have b34 := k4 _ _ o3 b3
  have b35 := k5 _ _ o3 b34
  have b45 := k5 _ _ o4 b4
  have fr : ∀ {G G' : Hp} {p : Addr}, p ≠ o → (∀ b x, b ≠ o → G b = some x → G' b = some x) → G' p = none → G p = none := fun {G G' p} hp k n => by
    cases z : G p with
    | none => rfl
    | some x => rw [k p x hp z] at n; cases n
  have m2 := fr o2 k1 n2
  have m3 := fr o3 k1 (fr o3 k2 n3)
  have m4 := fr o4 k1 (fr o4 k2 (fr o4 k3 n4))
  have m5 := fr o5 k1 (fr o5 k2 (fr o5 k3 (fr o5 k4 n5)))
  obtain ⟨⟨q1, q2, q3, q4⟩, ⟨q5, q6, q7⟩, ⟨q8, q9⟩, q10⟩ := nameq
  refine q ⟨o, p1, p2, p3, p4, p5⟩ G5 rfl (fun b hb => ?_) ⟨⟨dx, _, a5, ?_⟩, b15, b25, b35, ⟨[], b45, .nil⟩, ⟨[], b5, .nil⟩, ?_, nil_ok⟩ fun b x hb e => k5 b x hb (k4 b x hb (k3 b x hb (k2 b x hb (k1 b x hb e))))
  · rcases hb with rfl | rfl | rfl | rfl | rfl
    · exact n1
    · exact m2
    · exact m3
    · exact m4
    · exact m5
  · refine ⟨?_, ?_, ?_, ?_, ?_, fun m h1 h2 h3 h4 h5 => ?_⟩
    · rw [lookup_putF, if_neg q4, lookup_putF, if_neg q3, lookup_putF, if_neg q2, lookup_putF, if_neg q1, lookup_putF, if_pos rfl]
    · rw [lookup_putF, if_neg q7, lookup_putF, if_neg q6, lookup_putF, if_neg q5, lookup_putF, if_pos rfl]
    · rw [lookup_putF, if_neg q9, lookup_putF, if_neg q8, lookup_putF, if_pos rfl]
    · rw [lookup_putF, if_neg q10, lookup_putF, if_pos rfl]
    · rw [lookup_putF, if_pos rfl]
    · rw [lookup_putF, if_neg h5, lookup_putF, if_neg h4, lookup_putF, if_neg h3, lookup_putF, if_neg h2, lookup_putF, if_neg h1]
      rfl
  · have c12 : p1 ≠ p2 := ne b1 n2
    have c13 : p1 ≠ p3 := ne b12 n3
    have c14 : p1 ≠ p4 := ne b13 n4
    have c15 : p1 ≠ p5 := ne b14 n5
    have c23 : p2 ≠ p3 := ne b2 n3
    have c24 : p2 ≠ p4 := ne b23 n4
    have c25 : p2 ≠ p5 := ne b24 n5
    have c34 : p3 ≠ p4 := ne b3 n4
    have c35 : p3 ≠ p5 := ne b34 n5
    have c45 : p4 ≠ p5 := ne b4 n5
    simp [c12, c13, c14, c15, c23, c24, c25, c34, c35, c45]
theorem ok_comeM {f : Addr} {fd : FuncData} (F : Fun K "come" "Line.come" sComeM f fd) (hT : Nm mg) (T : LnT K mg C) (CP : Cal P w K mg base 2 "is_patience" ["thing"] (spOne isPatience)) (CL : Cal P w K mg base 1 "let_past" ["left"] spLet) : FnOk P w K mg base CX0 3 f fd ["self", "patience"] (spComeM C) := by
  refine F.ok scComeM (fun vs H Q E ⟨L, s, p, e, _⟩ => by rw [e]; rfl) (fun cdv A outer s H vs Q E hr h => ?_)
  obtain ⟨L, s, p, rfl, hL, hp, hn, q⟩ := h
  have nd := scComeM.nd
  refine ⟨_, (pss_cons (ps_if (pt_not (pt_val (pe_cal CP (hr.mono (by decide)) (by rfl) (pa_cons (pv 1) pa_nil)))) (pss_one ps_never) pss_nil)
      (pss_cons (ps_set (i := 2) nd rfl (.inl rfl) (pe_callB call_len_seq (by rfl) hT.len PySem.boot_len (pa_cons (pe_fld (pv 0) rfl) pa_nil)))
      (pss_cons (ps_set (i := 3) nd rfl (.inl rfl) (pe_cal CL (hr.mono (by decide)) (by rfl) (pa_cons (pe_fld (pv 0) rfl) pa_nil)))
      (pss_cons (ps_for PassesOwn.never rfl (pi_list (pe_slice sl_list (pe_fld (pv 0) rfl) (po_some (pv 3)) po_none)) (pg_name (i := 4) nd rfl (.inl rfl)) (pss_one (ps_augS (pe_fld (pv 0) rfl) (pv 4) get_list pe_int ip_add set_list)))
      (pss_cons (ps_expr (pe_bm PySem.F.plainAttrs_list PySem.F.slot_list_insert PySem.F.type_list_insert mt_insert (pe_fld (pv 0) rfl) (pa_cons (pv 3) (pa_cons (pv 2) pa_nil))))
      (pss_cons (ps_expr (pe_bm PySem.F.plainAttrs_list PySem.F.slot_list_insert PySem.F.type_list_insert mt_insert (pe_fld (pv 0) rfl) (pa_cons (pv 3) (pa_cons (pv 1) pa_nil))))
      (pss_cons (ps_expr (pe_bm PySem.F.plainAttrs_list PySem.F.slot_list_append PySem.F.type_list_append mt_append (pe_fld (pv 0) rfl) (pa_cons pe_int pa_nil)))
      (pss_cons (ps_expr (pe_bm PySem.F.plainAttrs_list PySem.F.slot_list_append PySem.F.type_list_append mt_append (pe_fld (pv 0) rfl) (pa_cons (pe_tup (pa_cons pe_str (pa_cons (pv 1) pa_nil))) pa_nil)))
      (pss_one (ps_ret (pv 2))))))))))), ?_⟩
  obtain ⟨d1, d2, d3, d4, d5, d6, d7, d8, d9, d10⟩ := nodup5 hL.nd
  have ok := hL.ok
  have hxl : s.xs.length ≤ 400 := by have := ok.tot; omega
  have hrl : s.rs.length ≤ 400 := by rw [← ok.len]; exact hxl
  have hdl : s.ds.length ≤ 800 := by have := ok.dl; have := ok.tot; omega
  refine ⟨optV p, rfl, optV p, optD p, rfl, rp_opt2 p, fun H1 s1 => ⟨_, rfl, ?_⟩⟩
  rw [hp]
  refine iteF ?_
  have hL1 := hL.same s1
  obtain ⟨⟨dx, fs, hob, hf⟩, e_pe, e_re, e_pa, ⟨vs, e_se, a_se⟩, ⟨ws, e_de, a_de⟩, _, _⟩ := hL1
  refine ⟨.ref L.o, rfl, L.o, C, dx, fs, .ref L.pa, rfl, hob, T.cl, T.n_pa, hf.pa, L.pa, _, rfl, .inl (SqL.of e_pa), ?_⟩
  rw [ppl_len]
  refine ⟨.ref L.o, rfl, L.o, C, dx, fs, .ref L.re, rfl, hob, T.cl, T.n_re, hf.re, L.re, s.rs, rfl, e_re, by omega, fun H2 k2 f2 => ?_⟩
  obtain ⟨g1, g2⟩ := goes_le s.rs.length s.rs
  have hk : s.k ≤ s.xs.length := by rw [ok.len]; exact g1
  show tSeq _ _ _ [some (.ref L.o), some (optV p), some (.int (s.ps.length : Int)), some (.int (s.k : Int)), none] H2
  have nli : ∀ {b : Addr} {o : HO} {vs : List V}, H1 b = some o → (∀ vs, o ≠ .lst vs) → H1 L.re = some (.lst vs) → b ≠ L.re := fun {b o vs} e n e2 z => by rw [z, e2] at e; exact n _ (Option.some.inj e).symm
  have hob2 : H2 L.o = some (.ins C dx fs) := by rw [k2 _ (nli hob (fun _ => nofun) e_re)]; exact hob
  have e_pe2 : H2 L.pe = some (.lst (ppl s.xs)) := by rw [k2 _ d1]; exact e_pe
  have e_pa2 : H2 L.pa = some (.lst (ppl s.ps)) := by rw [k2 _ (Ne.symm d5)]; exact e_pa
  have e_se2 : H2 L.se = some (.lst vs) := by rw [k2 _ (Ne.symm d6)]; exact e_se
  have e_de2 : H2 L.de = some (.lst ws) := by rw [k2 _ (Ne.symm d7)]; exact e_de
  have m2 : MvL L H H2 := (MvL.of s1).trans ⟨fun b o nb e => by rw [k2 b fun z => nb (.inr (.inl z))]; exact e⟩
  have kt2 : ∀ t ys, H1 t = some (.tup ys) → H2 t = some (.tup ys) := fun t ys e => by rw [k2 t (nli e (fun _ => nofun) e_re)]; exact e
  refine ⟨.ref L.o, rfl, L.o, C, dx, fs, .ref L.pe, rfl, hob2, T.cl, T.n_pe, hf.pe, .int (s.k : Int), rfl, (s.k : Int), rfl, L.pe, _, rfl, SqL.of e_pe2, fun D nD => ?_⟩
  rw [cut_from]
  have ed : (ppl s.xs).drop s.k = ppl (s.xs.drop s.k) := List.map_drop.symm
  rw [ed]
  have sD : Same H2 (upd H2 D (.lst (ppl (s.xs.drop s.k)))) := same_upd nD
  have eD : (upd H2 D (.lst (ppl (s.xs.drop s.k)))) D = some (.lst (ppl (s.xs.drop s.k))) := upd_same
  have nDpa : D ≠ L.pa := fun z => by rw [z, e_pa2] at nD; cases nD
  generalize upd H2 D (.lst (ppl (s.xs.drop s.k))) = H3 at sD eD
  refine ⟨D, rfl, ⟨_, SqL.of eD⟩, for_list (xs := ppl (s.xs.drop s.k)) (fun i σ G => (∃ y, σ = [some (.ref L.o), some (optV p), some (.int (s.ps.length : Int)), some (.int (s.k : Int)), y]) ∧ (∀ b, b ≠ L.pa → G b = H3 b) ∧ G L.pa = some (.lst (ppl (bump s.ps ((s.xs.drop s.k).take i)))))
    ⟨⟨_, rfl⟩, fun _ _ => rfl, sD _ _ e_pa2⟩ (fun i σ G _ ⟨_, k, _⟩ => SqL.of (by rw [k _ nDpa]; exact eD)) (fun i x σ G hx hP => ?_) (fun σ G hP => ?_)⟩
  · obtain ⟨⟨y, rfl⟩, kG, eG⟩ := hP
    have il : i < (s.xs.drop s.k).length := by rw [← ppl_len]; exact (List.getElem?_eq_some_iff.mp hx).1
    rw [ppl_get il] at hx
    obtain rfl := (Option.some.inj hx).symm
    have hsn : (s.xs.drop s.k).take (i + 1) = (s.xs.drop s.k).take i ++ [(s.xs.drop s.k)[i]] := by rw [List.take_add_one, List.getElem?_eq_getElem il]; rfl
    have hlt : (s.xs.drop s.k)[i] < s.ps.length := ok.lt _ (List.mem_of_mem_drop (List.getElem_mem il))
    rw [hsn, bump_snoc]
    have hbl := bump_len ((s.xs.drop s.k).take i) s.ps
    generalize bump s.ps ((s.xs.drop s.k).take i) = ps at eG hbl
    generalize (s.xs.drop s.k)[i] = y at hlt
    have hob3 : G L.o = some (.ins C dx fs) := by rw [kG _ (fun z => by rw [z, e_pa2] at hob2; cases hob2)]; exact sD _ _ hob2
    have hg : (ppl ps)[y]? = some (.int ((ps.getD y 0 : Nat) : Int)) := by
      rw [ppl_get (by omega)]
      rw [List.getD_eq_getElem?_getD, List.getElem?_eq_getElem (by omega)]
      rfl
    refine ⟨.ref L.o, rfl, L.o, C, dx, fs, .ref L.pa, rfl, hob3, T.cl, T.n_pa, hf.pa, .int (y : Int), rfl, L.pa, _, y, _, rfl, rfl, SqL.of eG, hg, _, 1, rfl, rfl, L.pa, _, (y : Int), y, rfl, rfl, eG, ixN_nat (by rw [ppl_len]; omega), ⟨_, rfl⟩, fun b nb => by rw [upd_ne nb]; exact kG b nb, ?_⟩
    rw [upd_same]
    unfold ppl
    rw [List.map_set]
    rfl
  · obtain ⟨⟨y, rfl⟩, kG, eG⟩ := hP
    rw [ppl_len, List.take_length] at eG
    have up : ∀ {b : Addr} {o : HO}, b ≠ L.pa → H2 b = some o → G b = some o := fun {b o} n e => by rw [kG b n]; exact sD _ _ e
    have hob3 : G L.o = some (.ins C dx fs) := up (fun z => by rw [z, e_pa2] at hob2; cases hob2) hob2
    have e_pe3 := up d2 e_pe2
    have e_re3 := up d5 f2
    have e_se3 := up (Ne.symm d8) e_se2
    have e_de3 := up (Ne.symm d9) e_de2
    have m3 : MvL L H G := m2.trans ⟨fun b o nb e => up (fun z => nb (.inr (.inr (.inl z)))) e⟩
    have kt3 : ∀ t ys, H2 t = some (.tup ys) → G t = some (.tup ys) := fun t ys e => up (fun z => by rw [z, e_pa2] at e; cases e) e
    have b1 : bump s.ps (s.xs.drop s.k) = bump s.ps (s.xs.drop s.k) := rfl
    have hbl := bump_len (s.xs.drop s.k) s.ps
    -- self.people.insert(place, newcomer)
    refine ⟨.ref L.o, rfl, L.o, C, dx, fs, .ref L.pe, rfl, hob3, T.cl, T.n_pe, hf.pe, .inl ⟨rfl, _, SqL.of e_pe3⟩, .int (s.k : Int), rfl, .int (s.ps.length : Int), rfl, L.pe, _, (s.k : Int), _, rfl, rfl, e_pe3, by rw [ppl_len]; exact small1000 (by omega), by omega, by omega, ?_⟩
    have ei : (ppl s.xs).take (s.k : Int).toNat ++ [V.int (s.ps.length : Int)] ++ (ppl s.xs).drop (s.k : Int).toNat = ppl (comeS s p).xs := by
      show _ = ppl (s.xs.take s.k ++ s.ps.length :: s.xs.drop s.k)
      unfold ppl
      rw [List.map_append, List.map_cons, List.map_take, List.map_drop, List.append_assoc]
      rfl
    rw [ei]
    have q_pe4 : (upd G L.pe (.lst (ppl (comeS s p).xs))) L.pe = some (.lst (ppl (comeS s p).xs)) := upd_same
    have k4 : ∀ b, b ≠ L.pe → (upd G L.pe (.lst (ppl (comeS s p).xs))) b = G b := fun b n => upd_ne n
    have m4 := m3.upd (o := .lst (ppl (comeS s p).xs)) (.inl rfl)
    generalize upd G L.pe (.lst (ppl (comeS s p).xs)) = G4 at q_pe4 k4 m4
    have hob4 : G4 L.o = some (.ins C dx fs) := by rw [k4 _ (fun z => by rw [z, e_pe3] at hob3; cases hob3)]; exact hob3
    have e_re4 : G4 L.re = _ := (k4 _ (Ne.symm d1)).trans e_re3
    -- self.rest.insert(place, patience)
    refine ⟨.ref L.o, rfl, L.o, C, dx, fs, .ref L.re, rfl, hob4, T.cl, T.n_re, hf.re, .inl ⟨rfl, _, SqL.of e_re4⟩, .int (s.k : Int), rfl, optV p, rfl, L.re, _, (s.k : Int), _, rfl, rfl, e_re4, by rw [List.length_map, g2]; exact small1000 (by omega), by omega, by omega, ?_⟩
    have er : ((goes s.rs.length s.rs).2.map optV).take (s.k : Int).toNat ++ [optV p] ++ ((goes s.rs.length s.rs).2.map optV).drop (s.k : Int).toNat = (comeS s p).rs.map optV := by
      show _ = ((goes s.rs.length s.rs).2.take s.k ++ p :: (goes s.rs.length s.rs).2.drop s.k).map optV
      rw [List.map_append, List.map_cons, List.map_take, List.map_drop, List.append_assoc]
      rfl
    rw [er]
    have q_re5 : (upd G4 L.re (.lst ((comeS s p).rs.map optV))) L.re = some (.lst ((comeS s p).rs.map optV)) := upd_same
    have k5 : ∀ b, b ≠ L.re → (upd G4 L.re (.lst ((comeS s p).rs.map optV))) b = G4 b := fun b n => upd_ne n
    have m5 := m4.upd (o := .lst ((comeS s p).rs.map optV)) (.inr (.inl rfl))
    generalize upd G4 L.re (.lst ((comeS s p).rs.map optV)) = G5 at q_re5 k5 m5
    have hob5 : G5 L.o = some (.ins C dx fs) := by rw [k5 _ (fun z => by rw [z, e_re4] at hob4; cases hob4)]; exact hob4
    have e_pa5 : G5 L.pa = _ := (k5 _ (Ne.symm d5)).trans ((k4 _ (Ne.symm d2)).trans eG)
    -- self.past.append(0)
    refine ⟨.ref L.o, rfl, L.o, C, dx, fs, .ref L.pa, rfl, hob5, T.cl, T.n_pa, hf.pa, .inl ⟨rfl, _, SqL.of e_pa5⟩, L.pa, _, _, rfl, rfl, e_pa5, by rw [ppl_len, hbl]; exact small1000 (by omega), ?_⟩
    have ep : ppl (bump s.ps (s.xs.drop s.k)) ++ [V.int 0] = ppl (comeS s p).ps := by
      show _ = ppl (bump s.ps (s.xs.drop s.k) ++ [0])
      unfold ppl
      rw [List.map_append]
      rfl
    rw [ep]
    have q_pa6 : (upd G5 L.pa (.lst (ppl (comeS s p).ps))) L.pa = some (.lst (ppl (comeS s p).ps)) := upd_same
    have k6 : ∀ b, b ≠ L.pa → (upd G5 L.pa (.lst (ppl (comeS s p).ps))) b = G5 b := fun b n => upd_ne n
    have m6 := m5.upd (o := .lst (ppl (comeS s p).ps)) (.inr (.inr (.inl rfl)))
    generalize upd G5 L.pa (.lst (ppl (comeS s p).ps)) = G6 at q_pa6 k6 m6
    have hob6 : G6 L.o = some (.ins C dx fs) := by rw [k6 _ (fun z => by rw [z, e_pa5] at hob5; cases hob5)]; exact hob5
    have e_de6 : G6 L.de = some (.lst ws) := (k6 _ (Ne.symm d9)).trans ((k5 _ (Ne.symm d7)).trans ((k4 _ (Ne.symm d4)).trans e_de3))
    have e_se6 : G6 L.se = some (.lst vs) := (k6 _ (Ne.symm d8)).trans ((k5 _ (Ne.symm d6)).trans ((k4 _ (Ne.symm d3)).trans e_se3))
    have e_pe6 : G6 L.pe = _ := (k6 _ d2).trans ((k5 _ d1).trans q_pe4)
    have e_re6 : G6 L.re = _ := (k6 _ d5).trans q_re5
    have kt6 : ∀ t ys, H1 t = some (.tup ys) → G6 t = some (.tup ys) := fun t ys e => by
      have e3 := kt3 _ _ (kt2 _ _ e)
      have n1 : t ≠ L.pe := fun z => by rw [z, e_pe3] at e3; cases e3
      have n2 : t ≠ L.re := fun z => by rw [z, e_re3] at e3; cases e3
      have n3 : t ≠ L.pa := fun z => by rw [z, eG] at e3; cases e3
      exact (k6 _ n3).trans ((k5 _ n2).trans ((k4 _ n1).trans e3))
    -- self.deeds.append(("come", patience))
    refine ⟨.ref L.o, rfl, L.o, C, dx, fs, .ref L.de, rfl, hob6, T.cl, T.n_de, hf.de, .inl ⟨rfl, _, SqL.of e_de6⟩, optV p, rfl, small_le (by show 2 ≤ 1000; decide), fun t nt => ⟨L.de, ws, .ref t, rfl, rfl, (same_upd nt) _ _ e_de6, by rw [a_de.length]; exact small1000 (by omega), ?_⟩⟩
    have st : Same G6 (upd G6 t (.tup [.str "come", optV p])) := same_upd nt
    have et : (upd G6 t (.tup [.str "come", optV p])) t = some (.tup [.str "come", optV p]) := upd_same
    have m7 := m6.new (o := .tup [.str "come", optV p]) nt
    generalize upd G6 t (.tup [.str "come", optV p]) = G7 at st et m7
    have ntd : t ≠ L.de := fun z => by rw [z, e_de6] at nt; cases nt
    have kt8 : ∀ t' ys, G7 t' = some (.tup ys) → (upd G7 L.de (.lst (ws ++ [.ref t]))) t' = some (.tup ys) := fun t' ys e => by
      rw [upd_ne (fun z => by rw [z, st _ _ e_de6] at e; cases e)]; exact e
    refine ⟨_, rfl, q _ ⟨⟨dx, fs, ?_, hf⟩, ?_, ?_, ?_, ⟨vs, ?_, a_se.imp fun _ _ => ServV.kx fun t' ys e => kt8 _ _ (st _ _ (kt6 _ _ e))⟩, ⟨ws ++ [.ref t], upd_same, All2.snoc (a_de.imp fun _ _ => DeedV.kx fun t' ys e => kt8 _ _ (st _ _ (kt6 _ _ e))) ⟨t, rfl, kt8 _ _ et⟩⟩, hL.nd, ok.come p⟩ (m7.upd (.inr (.inr (.inr (.inr rfl)))))⟩
    · rw [upd_ne (fun z => by rw [z, e_de6] at hob6; cases hob6)]; exact st _ _ hob6
    · rw [upd_ne d4]; exact st _ _ e_pe6
    · rw [upd_ne d7]; exact st _ _ e_re6
    · rw [upd_ne d9]; exact st _ _ q_pa6
    · rw [upd_ne d10]; exact st _ _ e_se6
end
end CL
set_option Elab.async false
set_option linter.all false
set_option maxRecDepth 100000
set_option maxHeartbeats 4000000
namespace CL
open PySem PySem.Spec PyProof.Rows L2 GE
/-- len(x) of an instance whose class has a __len__ of its own -/
theorem call_lenOwn {X : Cx} {C f : Addr} {fd : FuncData} {ps : List Str} {k : Nat} {CX : CXT} {E : XK} {sp : Sp} (F : FnOk X.prog X.w X.K X.mg X.base CX k f fd ps sp) (hr : Room (k + 1) X.A)
    (hs : PySem.W.findIn X.K (.ref C) "__len__" = some (some (.ref f))) (hf : PySem.W.isFn X.K (.ref f) = true) (hb : Binds X.K fd ps []) (hx : Passes CX X E) :
    CallR X (.builtin "len") (fun xs H Q => ∃ a dx fs, xs = [.ref a] ∧ H a = some (.ins C dx fs) ∧ sp [.ref a] H (fun v H' => ∃ n : Nat, v = .int (n : Int) ∧ n < 2 ^ 62 ∧ Q (.int (n : Int)) H') E) := by
  intro pins s σ H xs us Q I r h
  obtain ⟨a, dx, fs, rfl, ha, hsp⟩ := h
  obtain ⟨u, rfl, ru⟩ := vals1 r
  obtain rfl : u = Value.ref a := ru
  obtain ⟨mA, J, _⟩ := ins_get I.hok ha
  obtain ⟨od, J, _⟩ := J.look
  obtain ⟨m, hF⟩ := I.fr
  refine PySem.W.len_K hF I.ok.mod.kin J hs hf ?_
  have e0 : Env0 X.prog X.w X.K X.mg X.base X.A.in1 X.stack s H := by
    have e := I.env0
    exact ⟨e.frames, e.mod, e.bs, e.bsz, e.funs, e.frf, e.hok, e.bare⟩
  have hl := F.len _ _ _ _ hsp
  refine wpAny_call (codeAny_mono (F.run X.A.in1 X.stack s H ⟨[.ref a], []⟩ [.ref a] [.ref a] _ E hr.in1 e0 (by
    have := hb s [.ref a] I.kIn (by simpa using hl)
    simpa using this) (.cons rfl .nil) hsp) fun r s' hq => ?_)
  cases r with
  | error e => exact hx pins σ H s e s' I hq
  | ok fl =>
    cases fl with
    | ret w =>
      obtain ⟨z, H', I', rz, n, ez, hn, q⟩ := I.after hq
      subst ez
      obtain ⟨t, rfl⟩ := rz
      exact ⟨⟨Int.natCast_nonneg n, by omega⟩, .int (n : Int), H', I'.tok _, ⟨_, rfl⟩, q⟩
    | next => exact False.elim hq
    | brk => exact False.elim hq
    | cont => exact False.elim hq
section
variable {P : Program} {w : World} {K : PySem.W.Frag} {mg : Str → Option Value} {base : Heap} {C : Addr}
theorem ok_serveM {f : Addr} {fd : FuncData} (F : Fun K "serve" "Line.serve" sServeM f fd) (T : LnT K mg C) : FnOk P w K mg base CX0 1 f fd ["self"] (spServeM C) := by
  refine F.ok scServeM (fun vs H Q E ⟨L, s, x, xs, e, _⟩ => by rw [e]; rfl) (fun cdv A outer s H vs Q E hr h => ?_)
  obtain ⟨L, s, x, xs, rfl, hL, hx, hn, q⟩ := h
  have nd := scServeM.nd
  refine ⟨_, (pss_cons (ps_if (pt_not (pt_truth (pe_fld (pv 0) rfl) (by intro _; rfl))) (pss_one ps_never) pss_nil)
      (pss_cons (ps_set (i := 1) nd rfl (.inl rfl) (pe_bm PySem.F.plainAttrs_list PySem.F.slot_list_pop PySem.F.type_list_pop mt_popAt (pe_fld (pv 0) rfl) (pa_cons pe_int pa_nil)))
      (pss_cons (ps_expr (pe_bm PySem.F.plainAttrs_list PySem.F.slot_list_append PySem.F.type_list_append mt_append (pe_fld (pv 0) rfl) (pa_cons (pe_tup (pa_cons (pv 1) (pa_cons (pe_bm PySem.F.plainAttrs_list PySem.F.slot_list_pop PySem.F.type_list_pop mt_popAt (pe_fld (pv 0) rfl) (pa_cons pe_int pa_nil)) pa_nil))) pa_nil)))
      (pss_cons (ps_expr (pe_bm PySem.F.plainAttrs_list PySem.F.slot_list_append PySem.F.type_list_append mt_append (pe_fld (pv 0) rfl) (pa_cons (pe_tup (pa_cons pe_str pa_nil)) pa_nil)))
      (pss_one (ps_ret (pv 1))))))), ?_⟩
  obtain ⟨d1, d2, d3, d4, d5, d6, d7, d8, d9, d10⟩ := nodup5 hL.nd
  have ok := hL.ok
  have hxl : s.xs.length ≤ 400 := by have := ok.tot; omega
  have hdl : s.ds.length ≤ 800 := by have := ok.dl; have := ok.tot; omega
  have hsl : s.sv.length ≤ 400 := by have := ok.tot; omega
  obtain ⟨r, rs, hr'⟩ : ∃ r rs, s.rs = r :: rs := by
    have hlen := ok.len
    rw [hx, List.length_cons] at hlen
    cases z : s.rs with
    | nil => rw [z] at hlen; cases hlen
    | cons r rs => exact ⟨r, rs, rfl⟩
  obtain ⟨⟨dx, fs, hob, hf⟩, e_pe, e_re, e_pa, ⟨vs, e_se, a_se⟩, ⟨ws, e_de, a_de⟩, _, _⟩ := id hL
  rw [hx] at e_pe
  rw [hr'] at e_re
  refine ⟨.ref L.o, rfl, L.o, C, dx, fs, .ref L.pe, rfl, hob, T.cl, T.n_pe, hf.pe, true, .inl ⟨_, SqL.of e_pe, rfl⟩, ?_⟩
  refine iteF ?_
  refine ⟨.ref L.o, rfl, L.o, C, dx, fs, .ref L.pe, rfl, hob, T.cl, T.n_pe, hf.pe, .inl ⟨rfl, _, SqL.of e_pe⟩, L.pe, _, 0, 0, .int (x : Int), rfl, rfl, e_pe, by decide, by decide, seq_nat (j := 0) (Nat.succ_pos _), rfl, ?_⟩
  have ep : (ppl (x :: xs)).eraseIdx 0 = ppl (serveS s x r).xs := by
    show ppl xs = ppl s.xs.tail
    rw [hx]
    rfl
  rw [ep]
  have q_pe1 : (upd H L.pe (.lst (ppl (serveS s x r).xs))) L.pe = some (.lst (ppl (serveS s x r).xs)) := upd_same
  have k1 : ∀ b, b ≠ L.pe → (upd H L.pe (.lst (ppl (serveS s x r).xs))) b = H b := fun b n => upd_ne n
  have m1 := (MvL.refl L H).upd (o := .lst (ppl (serveS s x r).xs)) (.inl rfl)
  dsimp only [gName]
  show tSeq _ _ _ [some (.ref L.o), some (.int (x : Int))] (upd H L.pe (.lst (ppl (serveS s x r).xs)))
  generalize upd H L.pe (.lst (ppl (serveS s x r).xs)) = G1 at q_pe1 k1 m1
  have hob1 : G1 L.o = some (.ins C dx fs) := by rw [k1 _ (fun z => by rw [z, e_pe] at hob; cases hob)]; exact hob
  have e_se1 : G1 L.se = some (.lst vs) := (k1 _ (Ne.symm d3)).trans e_se
  have e_re1 : G1 L.re = _ := (k1 _ (Ne.symm d1)).trans e_re
  -- self.served.append((person, self.rest.pop(0)))
  refine ⟨.ref L.o, rfl, L.o, C, dx, fs, .ref L.se, rfl, hob1, T.cl, T.n_se, hf.se, .inl ⟨rfl, _, SqL.of e_se1⟩, .int (x : Int), rfl, .ref L.o, rfl, L.o, C, dx, fs, .ref L.re, rfl, hob1, T.cl, T.n_re, hf.re, .inl ⟨rfl, _, SqL.of e_re1⟩, L.re, _, 0, 0, optV r, rfl, rfl, e_re1, by decide, by decide, seq_nat (j := 0) (Nat.succ_pos _), rfl, ?_⟩
  have er : ((r :: rs).map optV).eraseIdx 0 = (serveS s x r).rs.map optV := by
    show rs.map optV = s.rs.tail.map optV
    rw [hr']
    rfl
  rw [er]
  have q_re2 : (upd G1 L.re (.lst ((serveS s x r).rs.map optV))) L.re = some (.lst ((serveS s x r).rs.map optV)) := upd_same
  have k2 : ∀ b, b ≠ L.re → (upd G1 L.re (.lst ((serveS s x r).rs.map optV))) b = G1 b := fun b n => upd_ne n
  have m2 := m1.upd (o := .lst ((serveS s x r).rs.map optV)) (.inr (.inl rfl))
  generalize upd G1 L.re (.lst ((serveS s x r).rs.map optV)) = G2 at q_re2 k2 m2
  have hob2 : G2 L.o = some (.ins C dx fs) := by rw [k2 _ (fun z => by rw [z, e_re1] at hob1; cases hob1)]; exact hob1
  have e_se2 : G2 L.se = some (.lst vs) := (k2 _ (Ne.symm d6)).trans e_se1
  refine ⟨small_le (by show 2 ≤ 1000; decide), fun t nt => ⟨L.se, vs, .ref t, rfl, rfl, (same_upd nt) _ _ e_se2, by rw [a_se.length]; exact small1000 (by omega), ?_⟩⟩
  have st : Same G2 (upd G2 t (.tup [.int (x : Int), optV r])) := same_upd nt
  have et : (upd G2 t (.tup [.int (x : Int), optV r])) t = some (.tup [.int (x : Int), optV r]) := upd_same
  have m3 := m2.new (o := .tup [.int (x : Int), optV r]) nt
  generalize upd G2 t (.tup [.int (x : Int), optV r]) = G3 at st et m3
  have e_se3 := st _ _ e_se2
  have q_se4 : (upd G3 L.se (.lst (vs ++ [.ref t]))) L.se = some (.lst (vs ++ [.ref t])) := upd_same
  have k4 : ∀ b, b ≠ L.se → (upd G3 L.se (.lst (vs ++ [.ref t]))) b = G3 b := fun b n => upd_ne n
  have m4 := m3.upd (o := .lst (vs ++ [.ref t])) (.inr (.inr (.inr (.inl rfl))))
  generalize upd G3 L.se (.lst (vs ++ [.ref t])) = G4 at q_se4 k4 m4
  have up4 : ∀ {b : Addr} {o : HO}, b ≠ L.se → G2 b = some o → G4 b = some o := fun {b o} n e => by rw [k4 b n]; exact st _ _ e
  have hob4 : G4 L.o = some (.ins C dx fs) := up4 (fun z => by rw [z, e_se2] at hob2; cases hob2) hob2
  have e_de4 : G4 L.de = some (.lst ws) := up4 (Ne.symm d10) ((k2 _ (Ne.symm d7)).trans ((k1 _ (Ne.symm d4)).trans e_de))
  have e_pa4 : G4 L.pa = _ := up4 d8 ((k2 _ (Ne.symm d5)).trans ((k1 _ (Ne.symm d2)).trans e_pa))
  have e_pe4 : G4 L.pe = _ := up4 d3 ((k2 _ d1).trans q_pe1)
  have e_re4 : G4 L.re = _ := up4 d6 q_re2
  have kt4 : ∀ t ys, H t = some (.tup ys) → G4 t = some (.tup ys) := fun t ys e => by
    have n1 : t ≠ L.pe := fun z => by rw [z, e_pe] at e; cases e
    have n2 : t ≠ L.re := fun z => by rw [z, e_re] at e; cases e
    have n3 : t ≠ L.se := fun z => by rw [z, e_se] at e; cases e
    exact up4 n3 ((k2 _ n2).trans ((k1 _ n1).trans e))
  have et4 : G4 t = some (.tup [.int (x : Int), optV r]) := by rw [k4 t (fun z => by rw [z, e_se3] at et; cases et)]; exact et
  have a4 := All2.snoc (a_se.imp fun _ _ => ServV.kx (H' := G4) fun t' ys e => kt4 _ _ e) (v := .ref t) (x := (x, r)) ⟨t, rfl, et4⟩
  -- self.deeds.append(("serve",))
  refine ⟨.ref L.o, rfl, L.o, C, dx, fs, .ref L.de, rfl, hob4, T.cl, T.n_de, hf.de, .inl ⟨rfl, _, SqL.of e_de4⟩, small_le (by show 1 ≤ 1000; decide), fun t' nt' => ⟨L.de, ws, .ref t', rfl, rfl, (same_upd nt') _ _ e_de4, by rw [a_de.length]; exact small1000 (by omega), ?_⟩⟩
  have st' : Same G4 (upd G4 t' (.tup [.str "serve"])) := same_upd nt'
  have et' : (upd G4 t' (.tup [.str "serve"])) t' = some (.tup [.str "serve"]) := upd_same
  have m5 := m4.new (o := .tup [.str "serve"]) nt'
  generalize upd G4 t' (.tup [.str "serve"]) = G5 at st' et' m5
  have kt8 : ∀ t' ys, G5 t' = some (.tup ys) → (upd G5 L.de (.lst (ws ++ [.ref t']))) t' = some (.tup ys) := fun t' ys e => by
    rw [upd_ne (fun z => by rw [z, st' _ _ e_de4] at e; cases e)]; exact e
  have kt8' : ∀ u ys, G5 u = some (.tup ys) → (upd G5 L.de (.lst (ws ++ [.ref t']))) u = some (.tup ys) := fun u ys e => by
    rw [upd_ne (fun z => by rw [z, st' _ _ e_de4] at e; cases e)]; exact e
  refine ⟨_, rfl, q _ r (by rw [hr']; rfl) ⟨⟨dx, fs, ?_, hf⟩, ?_, ?_, ?_, ⟨vs ++ [.ref t], ?_, a4.imp fun _ _ => ServV.kx fun u ys e => kt8' _ _ (st' _ _ e)⟩, ⟨ws ++ [.ref t'], upd_same, All2.snoc (a_de.imp fun _ _ => DeedV.kx fun u ys e => kt8' _ _ (st' _ _ (kt4 _ _ e))) ⟨t', rfl, kt8' _ _ et'⟩⟩, hL.nd, ok.serve hx⟩ (m5.upd (.inr (.inr (.inr (.inr rfl)))))⟩
  · rw [upd_ne (fun z => by rw [z, e_de4] at hob4; cases hob4)]; exact st' _ _ hob4
  · rw [upd_ne d4]; exact st' _ _ e_pe4
  · rw [upd_ne d7]; exact st' _ _ e_re4
  · rw [upd_ne d9]; exact st' _ _ e_pa4
  · rw [upd_ne d10]; exact st' _ _ q_se4
theorem ok_queM {f : Addr} {fd : FuncData} (F : Fun K "queue" "Line.queue" sQueM f fd) (hT : Nm mg) (T : LnT K mg C) : FnOk P w K mg base CX0 1 f fd ["self"] (spQueM C) := by
  refine F.ok scQueM (fun vs H Q E ⟨L, s, e, _⟩ => by rw [e]; rfl) (fun cdv A outer s H vs Q E hr h => ?_)
  obtain ⟨L, s, rfl, hL, q⟩ := h
  refine ⟨_, pss_one (ps_ret (pe_callTy call_list_of (by rfl) hT.list (by decide +kernel) (pa_cons (pe_fld (pv 0) rfl) pa_nil))), ?_⟩
  obtain ⟨⟨dx, fs, hob, hf⟩, e_pe, e_re, _⟩ := id hL
  exact ⟨.ref L.o, rfl, L.o, C, dx, fs, .ref L.pe, rfl, hob, T.cl, T.n_pe, hf.pe, L.pe, _, rfl, .inl (SqL.of e_pe), fun p np => q p np⟩
theorem ok_leftM {f : Addr} {fd : FuncData} (F : Fun K "left" "Line.left" sLeftM f fd) (hT : Nm mg) (T : LnT K mg C) : FnOk P w K mg base CX0 1 f fd ["self"] (spLeftM C) := by
  refine F.ok scLeftM (fun vs H Q E ⟨L, s, e, _⟩ => by rw [e]; rfl) (fun cdv A outer s H vs Q E hr h => ?_)
  obtain ⟨L, s, rfl, hL, q⟩ := h
  refine ⟨_, pss_one (ps_ret (pe_callTy call_list_of (by rfl) hT.list (by decide +kernel) (pa_cons (pe_fld (pv 0) rfl) pa_nil))), ?_⟩
  obtain ⟨⟨dx, fs, hob, hf⟩, e_pe, e_re, _⟩ := id hL
  exact ⟨.ref L.o, rfl, L.o, C, dx, fs, .ref L.re, rfl, hob, T.cl, T.n_re, hf.re, L.re, _, rfl, .inl (SqL.of e_re), fun p np => q p np⟩
theorem ok_wentM {f : Addr} {fd : FuncData} (F : Fun K "went_past" "Line.went_past" sWentM f fd) (hT : Nm mg) (T : LnT K mg C) (CW : Cal P w K mg base 1 "is_whole" ["thing"] (spOne isWhole)) : FnOk P w K mg base CX0 2 f fd ["self", "person"] (spWentM C) := by
  refine F.ok scWentM (fun vs H Q E ⟨L, s, x, hx, e, _⟩ => by rw [e]; rfl) (fun cdv A outer s H vs Q E hr h => ?_)
  obtain ⟨L, s, x, hx, rfl, hL, q⟩ := h
  refine ⟨_, pss_cons (ps_if (PW.pt (pw_or (pt_not (pt_val (pe_cal CW hr (by rfl) (pa_cons (pv 1) pa_nil)))) (pw_or1 (pt_not (pt_chain op_le op_lt pe_int (pv 1) (pe_callB call_len_seq (by rfl) hT.len PySem.boot_len (pa_cons (pe_fld (pv 0) rfl) pa_nil))))))) (pss_one ps_never) pss_nil)
    (pss_one (ps_ret (pe_ix ix_list (pe_fld (pv 0) rfl) (pv 1) (fun _ _ => rfl)))), ?_⟩
  refine ⟨.int (x : Int), rfl, .int (x : Int), .int (x : Int), rfl, .int _, fun H1 s1 => ⟨true, rfl, ?_⟩⟩
  have hL1 := hL.same s1
  obtain ⟨⟨dx, fs, hob, hf⟩, e_pe, e_re, e_pa, _⟩ := hL1
  refine iteF ⟨.int (x : Int), rfl, 0, (x : Int), rfl, rfl, decide ((0 : Int) ≤ (x : Int)), rfl, ?_⟩
  rw [decide_eq_true (Int.natCast_nonneg x)]
  refine iteT ⟨.ref L.o, rfl, L.o, C, dx, fs, .ref L.pa, rfl, hob, T.cl, T.n_pa, hf.pa, L.pa, _, rfl, .inl (SqL.of e_pa), (x : Int), _, rfl, rfl, decide ((x : Int) < ((ppl s.ps).length : Int)), rfl, ?_⟩
  rw [decide_eq_true (by rw [ppl_len]; omega)]
  refine iteF ⟨.ref L.o, rfl, L.o, C, dx, fs, .ref L.pa, rfl, hob, T.cl, T.n_pa, hf.pa, .int (x : Int), rfl, L.pa, _, (x : Int), _, rfl, rfl, SqL.of e_pa, atI_nat (ppl_get hx), q H1 s1⟩
theorem ok_lenM {f : Addr} {fd : FuncData} (F : Fun K "__len__" "Line.__len__" sLenM f fd) (hT : Nm mg) (T : LnT K mg C) : FnOk P w K mg base CX0 1 f fd ["self"] (spLenM C) := by
  refine F.ok scLenM (fun vs H Q E ⟨L, s, e, _⟩ => by rw [e]; rfl) (fun cdv A outer s H vs Q E hr h => ?_)
  obtain ⟨L, s, rfl, hL, q⟩ := h
  refine ⟨_, pss_one (ps_ret (pe_callB call_len_seq (by rfl) hT.len PySem.boot_len (pa_cons (pe_fld (pv 0) rfl) pa_nil))), ?_⟩
  obtain ⟨⟨dx, fs, hob, hf⟩, e_pe, e_re, _⟩ := id hL
  refine ⟨.ref L.o, rfl, L.o, C, dx, fs, .ref L.pe, rfl, hob, T.cl, T.n_pe, hf.pe, L.pe, _, rfl, .inl (SqL.of e_pe), ?_⟩
  rw [ppl_len]
  exact q
end
end CL
set_option Elab.async false
set_option linter.all false
set_option maxRecDepth 100000
set_option maxHeartbeats 4000000
namespace CL
open PySem PySem.Spec PyProof.Rows L2 GE
/-! ### a newcomer is taken back -/
def dec (o : Option Int) : Option Int := o.map (· - 1)
theorem goes_e0 {p : Nat} {l : List (Option Int)} (q : l[p]? = some (some 0)) : goes (p + 1) l = (p + 1, l) := by
  unfold goes
  rw [q]
  rfl
theorem goes_eN {p : Nat} {l : List (Option Int)} (q : l[p]? = some none) : goes (p + 1) l = goes p l := by
  conv => lhs; unfold goes
  rw [q]
theorem goes_eX {p : Nat} {l : List (Option Int)} (q : l[p]? = none) : goes (p + 1) l = (p + 1, l) := by
  unfold goes
  rw [q]
theorem goes_eS {p : Nat} {l : List (Option Int)} {v : Int} (q : l[p]? = some (some v)) (hv : v ≠ 0) : goes (p + 1) l = goes p (l.set p (some (v - 1))) := by
  conv => lhs; unfold goes
  rw [q]
  exact if_neg hv
theorem goes_at : ∀ (p : Nat) (l : List (Option Int)) (j : Nat), (goes p l).2[j]? = if (goes p l).1 ≤ j ∧ j < p then (l[j]?).map dec else l[j]?
  | 0, l, j => by rw [if_neg (by omega)]; rfl
  | p + 1, l, j => by
    cases q : l[p]? with
    | none =>
      rw [goes_eX q]
      dsimp only
      rw [if_neg (by omega)]
    | some o =>
      cases o with
      | none =>
        rw [goes_eN q, goes_at p l j]
        have hk := (goes_le p l).1
        by_cases e : j = p
        · subst e
          rw [if_neg (by omega), if_pos ⟨hk, Nat.lt_succ_self _⟩, q]
          rfl
        · by_cases h : (goes p l).1 ≤ j ∧ j < p
          · rw [if_pos h, if_pos ⟨h.1, by omega⟩]
          · rw [if_neg h, if_neg (by omega)]
      | some v =>
        by_cases hv : v = 0
        · subst hv
          rw [goes_e0 q]
          dsimp only
          rw [if_neg (by omega)]
        · rw [goes_eS q hv]
          have hlt := (List.getElem?_eq_some_iff.mp q).1
          have hk := (goes_le p (l.set p (some (v - 1)))).1
          rw [goes_at p (l.set p (some (v - 1))) j]
          by_cases e : j = p
          · subst e
            rw [if_neg (by omega), if_pos ⟨hk, Nat.lt_succ_self _⟩, q, List.getElem?_set, if_pos rfl, if_pos hlt]
            rfl
          · rw [List.getElem?_set, if_neg (Ne.symm e)]
            by_cases h : (goes p (l.set p (some (v - 1)))).1 ≤ j ∧ j < p
            · rw [if_pos h, if_pos ⟨h.1, by omega⟩]
            · rw [if_neg h, if_neg (by omega)]
theorem goes_take (s : LS) : (goes s.rs.length s.rs).2.take s.k = s.rs.take s.k := by
  refine List.ext_getElem? fun j => ?_
  rw [List.getElem?_take, List.getElem?_take]
  by_cases h : j < s.k
  · rw [if_pos h, if_pos h, goes_at, if_neg (fun z => ?_)]
    have : s.k ≤ j := z.1
    omega
  · rw [if_neg h, if_neg h]
theorem goes_behind (s : LS) {j : Nat} (h1 : s.k ≤ j) (h2 : j < s.rs.length) : (goes s.rs.length s.rs).2[j]? = some (dec s.rs[j]) := by
  rw [goes_at, if_pos ⟨h1, h2⟩, List.getElem?_eq_getElem h2]
  rfl
def part (R R' : List (Option Int)) (m : Nat) : List (Option Int) := R.take m ++ R'.drop m
theorem part_len {R R' : List (Option Int)} {m : Nat} (hl : R'.length = R.length) (hm : m ≤ R.length) : (part R R' m).length = R.length := by
  unfold part
  rw [List.length_append, List.length_take, List.length_drop]
  omega
theorem part_get {R R' : List (Option Int)} {m : Nat} (hm : m < R.length) (hl : R'.length = R.length) : (part R R' m)[m]? = R'[m]? := by
  unfold part
  rw [List.getElem?_append_right (by rw [List.length_take]; omega), List.length_take, Nat.min_eq_left (by omega), Nat.sub_self, List.getElem?_drop]
  rfl
theorem part_set {R R' : List (Option Int)} {m : Nat} (hm : m < R.length) (hl : R'.length = R.length) : (part R R' m).set m R[m] = part R R' (m + 1) := by
  refine List.ext_getElem? fun j => ?_
  have hpl := part_len (m := m) hl (by omega)
  unfold part at *
  rw [List.getElem?_set]
  by_cases e : m = j
  · subst e
    rw [if_pos rfl, if_pos (by omega), List.getElem?_append_left (by rw [List.length_take]; omega), List.getElem?_take, if_pos (Nat.lt_succ_self _), List.getElem?_eq_getElem hm]
  · rw [if_neg e]
    rcases Nat.lt_or_ge j m with z | z
    · rw [List.getElem?_append_left (by rw [List.length_take]; omega), List.getElem?_append_left (by rw [List.length_take]; omega), List.getElem?_take, List.getElem?_take, if_pos z, if_pos (by omega)]
    · rw [List.getElem?_append_right (by rw [List.length_take]; omega), List.getElem?_append_right (by rw [List.length_take]; omega), List.length_take, List.length_take, Nat.min_eq_left (by omega), Nat.min_eq_left (by omega), List.getElem?_drop, List.getElem?_drop]
      congr 1
      omega
theorem part_same {R R' : List (Option Int)} {m : Nat} (hm : m < R.length) (hl : R'.length = R.length) (e : R'[m]? = some R[m]) : part R R' m = part R R' (m + 1) := by
  rw [← part_set hm hl]
  refine List.ext_getElem? fun j => ?_
  rw [List.getElem?_set]
  by_cases z : m = j
  · subst z
    have hpl := part_len (m := m) hl (by omega)
    rw [if_pos rfl, if_pos (by omega), part_get hm hl, e]
  · rw [if_neg z]
theorem bump_comm : ∀ (ys ps : List Nat) (y : Nat), y < ps.length → bump (ps.set y (ps.getD y 0 + 1)) ys = (bump ps ys).set y ((bump ps ys).getD y 0 + 1)
  | [], ps, y, _ => rfl
  | z :: ys, ps, y, hy => by
    show bump ((ps.set y (ps.getD y 0 + 1)).set z ((ps.set y (ps.getD y 0 + 1)).getD z 0 + 1)) ys = (bump (ps.set z (ps.getD z 0 + 1)) ys).set y ((bump (ps.set z (ps.getD z 0 + 1)) ys).getD y 0 + 1)
    rw [← bump_comm ys (ps.set z (ps.getD z 0 + 1)) y (by rw [List.length_set]; exact hy)]
    congr 1
    by_cases e : y = z
    · subst e; rfl
    · have g1 : (ps.set y (ps.getD y 0 + 1)).getD z 0 = ps.getD z 0 := by
        simp [List.getD_eq_getElem?_getD, List.getElem?_set, e]
      have g2 : (ps.set z (ps.getD z 0 + 1)).getD y 0 = ps.getD y 0 := by
        simp [List.getD_eq_getElem?_getD, List.getElem?_set, Ne.symm e]
      rw [g1, g2, List.set_comm _ _ e]
theorem bump_back {ys ps : List Nat} {y : Nat} (hy : y < ps.length) : (bump ps (y :: ys))[y]? = some ((bump ps ys).getD y 0 + 1) ∧ (bump ps (y :: ys)).set y ((bump ps ys).getD y 0) = bump ps ys := by
  have hl := bump_len ys ps
  have e : bump ps (y :: ys) = (bump ps ys).set y ((bump ps ys).getD y 0 + 1) := bump_comm ys ps y hy
  rw [e]
  refine ⟨by rw [List.getElem?_set, if_pos rfl, if_pos (by omega)], ?_⟩
  rw [List.set_set]
  refine List.ext_getElem? fun j => ?_
  rw [List.getElem?_set]
  by_cases z : y = j
  · subst z
    rw [if_pos rfl, if_pos (by omega), List.getD_eq_getElem?_getD, List.getElem?_eq_getElem (by omega)]
    rfl
  · rw [if_neg z]
/-! ### what deeds come to -/
def stepS (s : LS) : Deed → LS
  | .come p => comeS s p
  | .serve => serveS s (s.xs.headD 0) (s.rs.headD none)
def stF (ds : List Deed) : LS := ds.foldl stepS LS.nil
theorem stF_snoc (ds : List Deed) (d : Deed) : stF (ds ++ [d]) = stepS (stF ds) d := by
  unfold stF
  rw [List.foldl_append]
  rfl
theorem stepS_ds (s : LS) (d : Deed) : (stepS s d).ds = s.ds ++ [d] := by cases d <;> rfl
theorem foldl_ds : ∀ (ds : List Deed) (s : LS), (ds.foldl stepS s).ds = s.ds ++ ds
  | [], s => (List.append_nil _).symm
  | d :: ds, s => by
    show (ds.foldl stepS (stepS s d)).ds = _
    rw [foldl_ds ds, stepS_ds, List.append_assoc]
    rfl
theorem stF_ds (ds : List Deed) : (stF ds).ds = ds := foldl_ds ds LS.nil
def Vd (ds : List Deed) : Prop := ∀ pre post, ds = pre ++ .serve :: post → (stF pre).xs ≠ []
theorem vd_nil : Vd [] := fun pre post e => by cases pre <;> cases e
theorem Vd.pre {ds es : List Deed} (h : Vd (ds ++ es)) : Vd ds := fun pre post e => h pre (post ++ es) (by rw [e]; simp)
theorem Vd.come {ds : List Deed} (h : Vd ds) (p : Option Int) : Vd (ds ++ [.come p]) := fun pre post e => by
  rcases List.eq_nil_or_concat post with z | ⟨post', d, z⟩
  · subst z
    have := List.append_inj_right' e rfl
    cases this
  · rw [List.concat_eq_append] at z
    subst z
    have e2 : ds ++ [.come p] = (pre ++ .serve :: post') ++ [d] := by rw [e]; simp
    exact h pre post' (List.append_inj_left' e2 rfl)
theorem Vd.serve {ds : List Deed} (h : Vd ds) (n : (stF ds).xs ≠ []) : Vd (ds ++ [.serve]) := fun pre post e => by
  rcases List.eq_nil_or_concat post with z | ⟨post', d, z⟩
  · subst z
    have := List.append_inj_left' e rfl
    rw [← this]
    exact n
  · rw [List.concat_eq_append] at z
    subst z
    have e2 : ds ++ [.serve] = (pre ++ .serve :: post') ++ [d] := by rw [e]; simp
    exact h pre post' (List.append_inj_left' e2 rfl)
theorem Vd.last {ds : List Deed} (h : Vd (ds ++ [.serve])) : (stF ds).xs ≠ [] := h ds [] rfl
theorem Vd.ok : ∀ {ds : List Deed}, Vd ds → (stF ds).Ok := by
  intro ds
  induction hn : ds.length generalizing ds with
  | zero =>
    intro _
    rw [List.eq_nil_of_length_eq_zero hn]
    exact nil_ok
  | succ n ih =>
    intro h
    rcases List.eq_nil_or_concat ds with z | ⟨es, d, z⟩
    · subst z; cases hn
    · rw [List.concat_eq_append] at z
      subst z
      have hes := ih (ds := es) (by rw [List.length_append] at hn; simp at hn; exact hn) h.pre
      rw [stF_snoc]
      cases d with
      | come p => exact hes.come p
      | serve =>
        have hx := h.last
        cases q : (stF es).xs with
        | nil => exact absurd q hx
        | cons x xs => exact hes.serve (xs := xs) (by rw [q]; rfl)
end CL
set_option Elab.async false
set_option linter.all false
set_option maxRecDepth 100000
set_option maxHeartbeats 4000000
namespace CL
open PySem PySem.Spec PyProof.Rows L2 GE
abbrev sUndoM : Stmt := inClass sLn 3
abbrev sTakeM : Stmt := inClass sLn 4
abbrev sHistM : Stmt := inClass sLn 8
theorem scUndoM : FnScope ["self", "deed", "person", "patience"] ["self"] (defScope sUndoM) := ⟨rfl, rfl, rfl, by decide +kernel, rfl, by decide +kernel, by decide +kernel⟩
theorem scTakeM : FnScope ["self", "place", "behind"] ["self"] (defScope sTakeM) := ⟨rfl, rfl, rfl, by decide +kernel, rfl, by decide +kernel, by decide +kernel⟩
theorem scHistM : FnScope ["self"] ["self"] (defScope sHistM) := ⟨rfl, rfl, rfl, by decide +kernel, rfl, by decide +kernel, by decide +kernel⟩
def spTakeM (C : Addr) : Sp := fun vs H Q _ => ∃ (L : LnA) (s : LS) (p : Option Int), vs = [.ref L.o] ∧ s.Ok ∧ (∃ dx fs, H L.o = some (.ins C dx fs) ∧ Flds fs L) ∧ H L.pe = some (.lst (ppl (comeS s p).xs)) ∧ H L.re = some (.lst ((comeS s p).rs.map optV)) ∧ H L.pa = some (.lst (ppl (comeS s p).ps)) ∧ [L.pe, L.re, L.pa, L.se, L.de].Nodup ∧ s.ps.length ≤ 400 ∧
  ∀ H', (∀ b, b ≠ L.pe → b ≠ L.re → b ≠ L.pa → H' b = H b) → H' L.pe = some (.lst (ppl s.xs)) → H' L.re = some (.lst (s.rs.map optV)) → H' L.pa = some (.lst (ppl s.ps)) → Q .non H'
def spUndoM (C : Addr) : Sp := fun vs H Q _ => ∃ (L : LnA) (s : LS) (d : Deed), vs = [.ref L.o] ∧ LineAt C H L (stepS s d) ∧ s.Ok ∧ (d = .serve → s.xs ≠ []) ∧ s.ps.length ≤ 400 ∧ ∀ H', LineAt C H' L s → MvL L H H' → Q .non H'
def spHistM (C : Addr) : Sp := fun vs H Q _ => ∃ (L : LnA) (s : LS), vs = [.ref L.o] ∧ LineAt C H L s ∧ ∀ p ws, H p = none → All2 (DeedV H) ws s.ds → Q (.ref p) (upd H p (.lst ws))
theorem ppl_flat : ∀ xs : List Nat, (ppl xs).all flatV = true
  | [] => rfl
  | _ :: xs => ppl_flat xs
theorem All2.unsnoc {α : Type} {R : V → α → Prop} : ∀ {xs : List α} {vs : List V} {x : α}, All2 R vs (xs ++ [x]) → ∃ ws v, vs = ws ++ [v] ∧ All2 R ws xs ∧ R v x
  | [], _, _, .cons h .nil => ⟨[], _, rfl, .nil, h⟩
  | _ :: _, _, _, .cons h t => by
    obtain ⟨ws, v, e, a, r⟩ := All2.unsnoc t
    exact ⟨_ :: ws, v, by rw [e]; rfl, .cons h a, r⟩
theorem erase_map {α β : Type} (f : α → β) : ∀ (l : List α) (j : Nat), (l.map f).eraseIdx j = (l.eraseIdx j).map f
  | [], _ => rfl
  | _ :: _, 0 => rfl
  | a :: l, j + 1 => congrArg (f a :: ·) (erase_map f l j)
theorem last_snoc {α : Type} (ws : List α) (v : α) : (ws ++ [v])[(ws ++ [v]).length - 1]? = some v := by simp
section
variable {P : Program} {w : World} {K : PySem.W.Frag} {mg : Str → Option Value} {base : Heap} {C : Addr}
theorem ok_takeM {f : Addr} {fd : FuncData} (F : Fun K "take_newcomer" "Line.take_newcomer" sTakeM f fd) (hT : Nm mg) (T : LnT K mg C) : FnOk P w K mg base CX0 1 f fd ["self"] (spTakeM C) := by
  refine F.ok scTakeM (fun vs H Q E ⟨L, s, p, e, _⟩ => by rw [e]; rfl) (fun cdv A outer s H vs Q E hr h => ?_)
  obtain ⟨L, s, p, rfl, ok, ⟨dx, fs, hob, hf⟩, e_pe, e_re, e_pa, hnd, hn, q⟩ := h
  have nd := scTakeM.nd
  refine ⟨_, (pss_cons (ps_expr (pe_bm0 PySem.F.plainAttrs_list PySem.F.slot_list_pop PySem.F.type_list_pop mt_pop (pe_fld (pv 0) rfl)))
      (pss_cons (ps_set (i := 1) nd rfl (.inl rfl) (pe_bm PySem.F.plainAttrs_list PySem.F.slot_list_index PySem.F.type_list_index mt_index (pe_fld (pv 0) rfl) (pa_cons (pe_callB call_len_seq (by rfl) hT.len PySem.boot_len (pa_cons (pe_fld (pv 0) rfl) pa_nil)) pa_nil)))
      (pss_cons (ps_delL (pe_fld (pv 0) rfl) (pv 1))
      (pss_cons (ps_delL (pe_fld (pv 0) rfl) (pv 1))
      (pss_one (ps_for PassesOwn.never rfl (pi_range2 (by rfl) hT.range (pa_cons (pv 1) (pa_cons (pe_callB call_len_seq (by rfl) hT.len PySem.boot_len (pa_cons (pe_fld (pv 0) rfl) pa_nil)) pa_nil))) (pg_name (i := 2) nd rfl (.inl rfl)) (pss_cons (ps_augS (pe_fld (pv 0) rfl) (pe_ix ix_list (pe_fld (pv 0) rfl) (pv 2) (fun _ _ => rfl)) get_list pe_int ip_sub set_list)
      (pss_one (ps_if (pt_cmp (pc_notN (pe_ix ix_list (pe_fld (pv 0) rfl) (pv 2) (fun _ _ => rfl)))) (pss_one (ps_augS (pe_fld (pv 0) rfl) (pv 2) get_list pe_int ip_add set_list)) pss_nil))))))))), ?_⟩
  obtain ⟨d1, d2, d3, d4, d5, d6, d7, d8, d9, d10⟩ := nodup5 hnd
  obtain ⟨g1, g2⟩ := goes_le s.rs.length s.rs
  have hxl : s.xs.length ≤ 400 := by have := ok.tot; omega
  have hk : s.k ≤ s.xs.length := by rw [ok.len]; exact g1
  have hxr := ok.len
  -- self.past.pop()
  have ea : ppl (comeS s p).ps = ppl (bump s.ps (s.xs.drop s.k)) ++ [V.int 0] := by
    show ppl (bump s.ps (s.xs.drop s.k) ++ [0]) = _
    unfold ppl
    rw [List.map_append]
    rfl
  rw [ea] at e_pa
  refine ⟨.ref L.o, rfl, L.o, C, dx, fs, .ref L.pa, rfl, hob, T.cl, T.n_pa, hf.pa, .inl ⟨rfl, _, SqL.of e_pa⟩, L.pa, _, _, rfl, rfl, e_pa, last_snoc _ _, ?_⟩
  rw [List.dropLast_concat]
  have q_pa1 : (upd H L.pa (.lst (ppl (bump s.ps (s.xs.drop s.k))))) L.pa = some (.lst (ppl (bump s.ps (s.xs.drop s.k)))) := upd_same
  have k1 : ∀ b, b ≠ L.pa → (upd H L.pa (.lst (ppl (bump s.ps (s.xs.drop s.k))))) b = H b := fun b n => upd_ne n
  generalize upd H L.pa (.lst (ppl (bump s.ps (s.xs.drop s.k)))) = G1 at q_pa1 k1
  have hob1 : G1 L.o = some (.ins C dx fs) := by rw [k1 _ (fun z => by rw [z, e_pa] at hob; cases hob)]; exact hob
  have e_pe1 : G1 L.pe = _ := (k1 _ d2).trans e_pe
  have e_re1 : G1 L.re = _ := (k1 _ d5).trans e_re
  have hbl := bump_len (s.xs.drop s.k) s.ps
  have hnl : (ppl (bump s.ps (s.xs.drop s.k))).length = s.ps.length := by rw [ppl_len, hbl]
  have lt : (s.xs.take s.k).length = s.k := by rw [List.length_take]; omega
  -- place = self.people.index(len(self.past))
  refine ⟨.ref L.o, rfl, L.o, C, dx, fs, .ref L.pe, rfl, hob1, T.cl, T.n_pe, hf.pe, .inl ⟨rfl, _, SqL.of e_pe1⟩, .ref L.o, rfl, L.o, C, dx, fs, .ref L.pa, rfl, hob1, T.cl, T.n_pa, hf.pa, L.pa, _, rfl, .inl (SqL.of q_pa1), L.pe, _, _, s.k, .int (s.ps.length : Int), rfl, rfl, SqL.of e_pe1, rfl, ppl_flat _, ?_, by rw [hnl]; simp [eqV], fun m z' hm hz => ?_, ?_⟩
  · show (ppl (s.xs.take s.k ++ s.ps.length :: s.xs.drop s.k))[s.k]? = _
    unfold ppl
    rw [List.getElem?_map, List.getElem?_append_right (by omega), lt, Nat.sub_self]
    rfl
  · have hz : (ppl (s.xs.take s.k ++ s.ps.length :: s.xs.drop s.k))[m]? = some z' := hz
    unfold ppl at hz
    rw [List.getElem?_map, List.getElem?_append_left (by omega), List.getElem?_take, if_pos hm, List.getElem?_eq_getElem (by omega)] at hz
    obtain rfl := (Option.some.inj hz).symm
    have := ok.lt _ (List.getElem_mem (show m < s.xs.length by omega))
    rw [hnl]
    show (((s.xs[m] : Nat) : Int) == (s.ps.length : Int)) = false
    rw [beq_eq_false_iff_ne]
    omega
  show tSeq _ _ _ [some (.ref L.o), some (.int (s.k : Int)), none] G1
  -- del self.people[place]
  refine ⟨.ref L.o, rfl, L.o, C, dx, fs, .ref L.pe, rfl, hob1, T.cl, T.n_pe, hf.pe, .int (s.k : Int), rfl, L.pe, _, (s.k : Int), s.k, rfl, rfl, e_pe1, by omega, by omega, seq_nat (by rw [ppl_len]; show s.k < (s.xs.take s.k ++ s.ps.length :: s.xs.drop s.k).length; rw [List.length_append, lt, List.length_cons]; omega), ?_⟩
  have ee : (ppl (comeS s p).xs).eraseIdx s.k = ppl s.xs := by
    show (ppl (s.xs.take s.k ++ s.ps.length :: s.xs.drop s.k)).eraseIdx s.k = _
    unfold ppl
    rw [erase_map, List.eraseIdx_append_of_length_le (by omega), lt, Nat.sub_self]
    show (s.xs.take s.k ++ s.xs.drop s.k).map _ = _
    rw [List.take_append_drop]
  rw [ee]
  have q_pe2 : (upd G1 L.pe (.lst (ppl s.xs))) L.pe = some (.lst (ppl s.xs)) := upd_same
  have k2 : ∀ b, b ≠ L.pe → (upd G1 L.pe (.lst (ppl s.xs))) b = G1 b := fun b n => upd_ne n
  generalize upd G1 L.pe (.lst (ppl s.xs)) = G2 at q_pe2 k2
  have hob2 : G2 L.o = some (.ins C dx fs) := by rw [k2 _ (fun z => by rw [z, e_pe1] at hob1; cases hob1)]; exact hob1
  have e_re2 : G2 L.re = _ := (k2 _ (Ne.symm d1)).trans e_re1
  have e_pa2 : G2 L.pa = _ := (k2 _ (Ne.symm d2)).trans q_pa1
  -- del self.rest[place]
  have ltr : ((goes s.rs.length s.rs).2.take s.k).length = s.k := by rw [List.length_take]; omega
  refine ⟨.ref L.o, rfl, L.o, C, dx, fs, .ref L.re, rfl, hob2, T.cl, T.n_re, hf.re, .int (s.k : Int), rfl, L.re, _, (s.k : Int), s.k, rfl, rfl, e_re2, by omega, by omega, seq_nat (by rw [List.length_map]; show s.k < ((goes s.rs.length s.rs).2.take s.k ++ p :: (goes s.rs.length s.rs).2.drop s.k).length; rw [List.length_append, ltr, List.length_cons]; omega), ?_⟩
  have er : ((comeS s p).rs.map optV).eraseIdx s.k = (part s.rs (goes s.rs.length s.rs).2 s.k).map optV := by
    show (((goes s.rs.length s.rs).2.take s.k ++ p :: (goes s.rs.length s.rs).2.drop s.k).map optV).eraseIdx s.k = _
    rw [erase_map, List.eraseIdx_append_of_length_le (by omega), ltr, Nat.sub_self]
    unfold part
    rw [← goes_take]
    rfl
  rw [er]
  have q_re3 : (upd G2 L.re (.lst ((part s.rs (goes s.rs.length s.rs).2 s.k).map optV))) L.re = some (.lst ((part s.rs (goes s.rs.length s.rs).2 s.k).map optV)) := upd_same
  have k3 : ∀ b, b ≠ L.re → (upd G2 L.re (.lst ((part s.rs (goes s.rs.length s.rs).2 s.k).map optV))) b = G2 b := fun b n => upd_ne n
  generalize upd G2 L.re (.lst ((part s.rs (goes s.rs.length s.rs).2 s.k).map optV)) = G3 at q_re3 k3
  have hob3 : G3 L.o = some (.ins C dx fs) := by rw [k3 _ (fun z => by rw [z, e_re2] at hob2; cases hob2)]; exact hob2
  have e_pe3 : G3 L.pe = _ := (k3 _ d1).trans q_pe2
  have e_pa3 : G3 L.pa = _ := (k3 _ (Ne.symm d5)).trans e_pa2
  -- for behind in range(place, len(self.people))
  refine ⟨.int (s.k : Int), rfl, .ref L.o, rfl, L.o, C, dx, fs, .ref L.pe, rfl, hob3, T.cl, T.n_pe, hf.pe, L.pe, _, rfl, .inl (SqL.of e_pe3), (s.k : Int), _, rfl, ⟨by omega, by omega, by rw [ppl_len]; omega, by rw [ppl_len]; omega⟩, ?_⟩
  have hoR : L.o ≠ L.re := fun z => by rw [z, q_re3] at hob3; cases hob3
  have hoP : L.o ≠ L.pa := fun z => by rw [z, e_pa3] at hob3; cases hob3
  refine for_range (lo := (s.k : Int)) (n := (((ppl s.xs).length : Int) - (s.k : Int)).toNat) (fun i σ G => (∃ y, σ = [some (.ref L.o), some (.int (s.k : Int)), y]) ∧ (∀ b, b ≠ L.re → b ≠ L.pa → G b = G3 b) ∧ G L.re = some (.lst ((part s.rs (goes s.rs.length s.rs).2 (s.k + i)).map optV)) ∧ G L.pa = some (.lst (ppl (bump s.ps ((s.xs.drop s.k).drop i)))))
    ⟨⟨_, rfl⟩, fun _ _ _ => rfl, q_re3, e_pa3⟩ (fun i σ G hi hP => ?_) (fun σ G hP => ?_)
  · obtain ⟨⟨y, rfl⟩, kG, eR, eP⟩ := hP
    rw [ppl_len] at hi
    have hi' : s.k + i < s.xs.length := by omega
    have ek : (s.k : Int) + (i : Int) = ((s.k + i : Nat) : Int) := by omega
    rw [ek]
    have hobG : G L.o = some (.ins C dx fs) := (kG _ hoR hoP).trans hob3
    have e_peG : G L.pe = some (.lst (ppl s.xs)) := (kG _ d1 d2).trans e_pe3
    have hdr : (s.xs.drop s.k).drop i = s.xs[s.k + i] :: (s.xs.drop s.k).drop (i + 1) := by
      rw [List.drop_drop, List.drop_drop, List.drop_eq_getElem_cons hi']
      rfl
    have hyl := ok.lt _ (List.getElem_mem hi')
    rw [hdr] at eP
    obtain ⟨h1, h2⟩ := bump_back (ys := (s.xs.drop s.k).drop (i + 1)) hyl
    have hgp : (ppl s.xs)[s.k + i]? = some (.int (s.xs[s.k + i] : Int)) := ppl_get hi'
    generalize s.xs[s.k + i] = y0 at hgp hyl h1 h2 eP
    have hbl2 := bump_len (y0 :: (s.xs.drop s.k).drop (i + 1)) s.ps
    generalize bump s.ps (y0 :: (s.xs.drop s.k).drop (i + 1)) = qs at h1 h2 eP hbl2
    generalize hv : (bump s.ps ((s.xs.drop s.k).drop (i + 1))).getD y0 0 = v at h1 h2
    have hgq : (ppl qs)[y0]? = some (.int ((v + 1 : Nat) : Int)) := by
      unfold ppl
      rw [List.getElem?_map, h1]
      rfl
    refine ⟨.ref L.o, rfl, L.o, C, dx, fs, .ref L.pa, rfl, hobG, T.cl, T.n_pa, hf.pa, .ref L.o, rfl, L.o, C, dx, fs, .ref L.pe, rfl, hobG, T.cl, T.n_pe, hf.pe, .int ((s.k + i : Nat) : Int), rfl, L.pe, _, ((s.k + i : Nat) : Int), _, rfl, rfl, SqL.of e_peG, atI_nat hgp, L.pa, _, y0, _, rfl, rfl, SqL.of eP, hgq, _, 1, rfl, rfl, L.pa, _, (y0 : Int), y0, rfl, rfl, eP, ixN_nat (by rw [ppl_len]; omega), ?_⟩
    have es : (ppl qs).set y0 (V.int (((v + 1 : Nat) : Int) - 1)) = ppl (bump s.ps ((s.xs.drop s.k).drop (i + 1))) := by
      rw [← h2]
      unfold ppl
      rw [List.map_set]
      congr 2
      omega
    rw [es]
    have q_pa4 : (upd G L.pa (.lst (ppl (bump s.ps ((s.xs.drop s.k).drop (i + 1)))))) L.pa = some (.lst (ppl (bump s.ps ((s.xs.drop s.k).drop (i + 1))))) := upd_same
    have k4 : ∀ b, b ≠ L.pa → (upd G L.pa (.lst (ppl (bump s.ps ((s.xs.drop s.k).drop (i + 1)))))) b = G b := fun b n => upd_ne n
    generalize upd G L.pa (.lst (ppl (bump s.ps ((s.xs.drop s.k).drop (i + 1))))) = G4 at q_pa4 k4
    have hob4 : G4 L.o = some (.ins C dx fs) := (k4 _ hoP).trans hobG
    have eR4 : G4 L.re = _ := (k4 _ d5).trans eR
    have hri : s.k + i < s.rs.length := by omega
    have hbeh := goes_behind s (j := s.k + i) (by omega) hri
    have hgr : ((part s.rs (goes s.rs.length s.rs).2 (s.k + i)).map optV)[s.k + i]? = some (optV (dec s.rs[s.k + i])) := by
      rw [List.getElem?_map, part_get hri g2, hbeh]
      rfl
    refine ⟨.ref L.o, rfl, L.o, C, dx, fs, .ref L.re, rfl, hob4, T.cl, T.n_re, hf.re, .int ((s.k + i : Nat) : Int), rfl, L.re, _, ((s.k + i : Nat) : Int), _, rfl, rfl, SqL.of eR4, atI_nat hgr, _, rfl, ?_⟩
    have hset := part_set (R := s.rs) (R' := (goes s.rs.length s.rs).2) hri g2
    have hsame := part_same (R := s.rs) (R' := (goes s.rs.length s.rs).2) hri g2
    cases hrv : s.rs[s.k + i] with
    | none =>
      rw [hrv] at hbeh hsame
      have z := hsame hbeh
      refine iteF ⟨⟨_, rfl⟩, fun b n1 n2 => (k4 b n2).trans (kG b n1 n2), ?_, q_pa4⟩
      rw [eR4, z]
      rfl
    | some rv =>
      rw [hrv] at hgr hset
      refine iteT ⟨.ref L.o, rfl, L.o, C, dx, fs, .ref L.re, rfl, hob4, T.cl, T.n_re, hf.re, .int ((s.k + i : Nat) : Int), rfl, L.re, _, s.k + i, _, rfl, rfl, SqL.of eR4, hgr, rv - 1, 1, rfl, rfl, L.re, _, ((s.k + i : Nat) : Int), s.k + i, rfl, rfl, eR4, ixN_nat (by rw [List.length_map, part_len g2 (by omega)]; exact hri), ⟨_, rfl⟩, fun b n1 n2 => by rw [upd_ne n1]; exact (k4 b n2).trans (kG b n1 n2), ?_, by rw [upd_ne (Ne.symm d5)]; exact q_pa4⟩
      rw [upd_same]
      show some (HO.lst (((part s.rs (goes s.rs.length s.rs).2 (s.k + i)).map optV).set (s.k + i) (V.int (rv - 1 + 1)))) = some (HO.lst ((part s.rs (goes s.rs.length s.rs).2 (s.k + i + 1)).map optV))
      rw [← hset, List.map_set, Int.sub_add_cancel]
      rfl
  · obtain ⟨⟨y, rfl⟩, kG, eR, eP⟩ := hP
    rw [ppl_len] at eR eP
    have ei : s.k + ((s.xs.length : Int) - (s.k : Int)).toNat = s.rs.length := by omega
    rw [ei] at eR
    have er : part s.rs (goes s.rs.length s.rs).2 s.rs.length = s.rs := by
      unfold part
      rw [List.take_length, List.drop_of_length_le (by omega), List.append_nil]
    rw [er] at eR
    have ed : (s.xs.drop s.k).drop ((s.xs.length : Int) - (s.k : Int)).toNat = [] := by
      rw [List.drop_drop]
      exact List.drop_of_length_le (by omega)
    rw [ed] at eP
    refine q _ (fun b n1 n2 n3 => ?_) ((kG _ d1 d2).trans e_pe3) eR eP
    rw [kG b n2 n3, k3 b n2, k2 b n1, k1 b n3]
theorem Flds.take {fs : List (Str × V)} {L : LnA} (h : Flds fs L) : fs.lookup ("take_newcomer" : Str) = none := h.no _ (by decide +kernel) (by decide +kernel) (by decide +kernel) (by decide +kernel) (by decide +kernel)
theorem word_ne : ("serve" : Str) ≠ "come" := by decide +kernel
theorem ok_undoM {f fT : Addr} {fd fdT : FuncData} (F : Fun K "undo" "Line.undo" sUndoM f fd) (hT : Nm mg) (T : LnT K mg C) (mT : Meth K C "take_newcomer" fT) (GT : FnOk P w K mg base CX0 1 fT fdT ["self"] (spTakeM C)) (bT : Binds K fdT ["self"] []) : FnOk P w K mg base CX0 2 f fd ["self"] (spUndoM C) := by
  refine F.ok scUndoM (fun vs H Q E ⟨L, s, d, e, _⟩ => by rw [e]; rfl) (fun cdv A outer s H vs Q E hr h => ?_)
  obtain ⟨L, s, d, rfl, hL, ok, hd, hn, q⟩ := h
  have nd := scUndoM.nd
  refine ⟨_, (pss_cons (ps_if (pt_not (pt_truth (pe_fld (pv 0) rfl) (by intro _; rfl))) (pss_one ps_never) pss_nil)
      (pss_cons (ps_set (i := 1) nd rfl (.inl rfl) (pe_bm0 PySem.F.plainAttrs_list PySem.F.slot_list_pop PySem.F.type_list_pop mt_pop (pe_fld (pv 0) rfl)))
      (pss_one (ps_if (pt_cmpR op_eq (pe_ix ix_tup (pv 1) pe_int (fun _ _ => rfl)) pe_str (nomark _)) (pss_one (ps_expr (pe_meth0 (pv 0) T.cl mT GT hr bT .nil pass0))) (pss_cons (ps_asg (pe_bm0 PySem.F.plainAttrs_list PySem.F.slot_list_pop PySem.F.type_list_pop mt_pop (pe_fld (pv 0) rfl)) (pg_tup rfl (pgs_cons (pg_name (i := 2) nd rfl (.inl rfl)) (pgs_cons (pg_name (i := 3) nd rfl (.inl rfl)) pgs_nil))))
      (pss_cons (ps_expr (pe_bm PySem.F.plainAttrs_list PySem.F.slot_list_insert PySem.F.type_list_insert mt_insert (pe_fld (pv 0) rfl) (pa_cons pe_int (pa_cons (pv 2) pa_nil))))
      (pss_one (ps_expr (pe_bm PySem.F.plainAttrs_list PySem.F.slot_list_insert PySem.F.type_list_insert mt_insert (pe_fld (pv 0) rfl) (pa_cons pe_int (pa_cons (pv 3) pa_nil))))))))))), ?_⟩
  obtain ⟨d1, d2, d3, d4, d5, d6, d7, d8, d9, d10⟩ := nodup5 hL.nd
  obtain ⟨⟨dx, fs, hob, hf⟩, e_pe, e_re, e_pa, ⟨vs, e_se, a_se⟩, ⟨ws, e_de, a_de⟩, _, _⟩ := id hL
  rw [stepS_ds] at a_de
  obtain ⟨ws', v, rfl, a_de', hv⟩ := a_de.unsnoc
  refine ⟨.ref L.o, rfl, L.o, C, dx, fs, .ref L.de, rfl, hob, T.cl, T.n_de, hf.de, true, .inl ⟨_, SqL.of e_de, by simp⟩, iteF ?_⟩
  -- deed = self.deeds.pop()
  refine ⟨.ref L.o, rfl, L.o, C, dx, fs, .ref L.de, rfl, hob, T.cl, T.n_de, hf.de, .inl ⟨rfl, _, SqL.of e_de⟩, L.de, _, v, rfl, rfl, e_de, last_snoc _ _, ?_⟩
  rw [List.dropLast_concat]
  dsimp only [gName]
  show tIfS _ _ _ _ [some (.ref L.o), some v, none, none] (upd H L.de (.lst ws'))
  have q_de1 : (upd H L.de (.lst ws')) L.de = some (.lst ws') := upd_same
  have k1 : ∀ b, b ≠ L.de → (upd H L.de (.lst ws')) b = H b := fun b n => upd_ne n
  have m1 := (MvL.refl L H).upd (o := .lst ws') (.inr (.inr (.inr (.inr rfl))))
  generalize upd H L.de (.lst ws') = G1 at q_de1 k1 m1
  have kt1 : ∀ t ys, H t = some (.tup ys) → G1 t = some (.tup ys) := fun t ys e => by rw [k1 t (fun z => by rw [z, e_de] at e; cases e)]; exact e
  have hob1 : G1 L.o = some (.ins C dx fs) := by rw [k1 _ (fun z => by rw [z, e_de] at hob; cases hob)]; exact hob
  have e_pe1 : G1 L.pe = _ := (k1 _ d4).trans e_pe
  have e_re1 : G1 L.re = _ := (k1 _ d7).trans e_re
  have e_pa1 : G1 L.pa = _ := (k1 _ d9).trans e_pa
  have e_se1 : G1 L.se = _ := (k1 _ d10).trans e_se
  cases d with
  | come p =>
    obtain ⟨t, rfl, et⟩ := hv
    refine ⟨.ref t, rfl, t, _, 0, .str "come", rfl, rfl, SqT.of (kt1 _ _ et), atI_nat (j := 0) rfl, rfl, _, rfl, ite2 (fun _ => ?_) (fun y => absurd (decide_eq_true rfl) y)⟩
    refine ⟨.ref L.o, rfl, L.o, dx, fs, rfl, hob1, hf.take, L, s, p, rfl, ok, ⟨dx, fs, hob1, hf⟩, e_pe1, e_re1, e_pa1, hL.nd, hn, fun H' kp p1 p2 p3 => ?_⟩
    have kt2 : ∀ t ys, H t = some (.tup ys) → H' t = some (.tup ys) := fun t ys e => by
      have e1 := kt1 _ _ e
      rw [kp t (fun z => by rw [z, e_pe1] at e1; cases e1) (fun z => by rw [z, e_re1] at e1; cases e1) (fun z => by rw [z, e_pa1] at e1; cases e1)]
      exact e1
    exact q H' ⟨⟨dx, fs, (kp _ (fun z => by rw [z, e_pe1] at hob1; cases hob1) (fun z => by rw [z, e_re1] at hob1; cases hob1) (fun z => by rw [z, e_pa1] at hob1; cases hob1)).trans hob1, hf⟩, p1, p2, p3, ⟨vs, (kp _ (Ne.symm d3) (Ne.symm d6) (Ne.symm d8)).trans e_se1, a_se.imp fun _ _ => ServV.kx kt2⟩, ⟨ws', (kp _ (Ne.symm d4) (Ne.symm d7) (Ne.symm d9)).trans q_de1, a_de'.imp fun _ _ => DeedV.kx kt2⟩, hL.nd, ok⟩
      (m1.trans ⟨fun b o nb e => by rw [kp b (fun z => nb (.inl z)) (fun z => nb (.inr (.inl z))) (fun z => nb (.inr (.inr (.inl z))))]; exact e⟩)
  | serve =>
    obtain ⟨t, rfl, et⟩ := hv
    refine ⟨.ref t, rfl, t, _, 0, .str "serve", rfl, rfl, SqT.of (kt1 _ _ et), atI_nat (j := 0) rfl, rfl, _, rfl, ite2 (fun y => absurd (of_decide_eq_true y) (fun z => word_ne (by injection z))) (fun _ => ?_)⟩
    have hx := hd rfl
    obtain ⟨x, xs, ex⟩ : ∃ x xs, s.xs = x :: xs := by
      cases z : s.xs with
      | nil => exact absurd z hx
      | cons x xs => exact ⟨x, xs, rfl⟩
    obtain ⟨r, rs, er⟩ : ∃ r rs, s.rs = r :: rs := by
      have hlen := ok.len
      rw [ex, List.length_cons] at hlen
      cases z : s.rs with
      | nil => rw [z] at hlen; cases hlen
      | cons r rs => exact ⟨r, rs, rfl⟩
    have hss : stepS s .serve = ⟨xs, rs, s.ps, s.sv ++ [(x, r)], s.ds ++ [.serve]⟩ := by
      show serveS s (s.xs.headD 0) (s.rs.headD none) = _
      unfold serveS
      rw [ex, er]
      rfl
    rw [hss] at e_pe1 e_re1 e_pa1 a_se
    obtain ⟨vs', u, rfl, a_se', hu⟩ := a_se.unsnoc
    obtain ⟨t2, rfl, et2⟩ := hu
    have hxl : xs.length ≤ 400 := by have h1 := ok.tot; rw [ex, List.length_cons] at h1; omega
    have hrl : rs.length ≤ 400 := by have h1 := ok.len; rw [ex, er, List.length_cons, List.length_cons] at h1; omega
    -- person, patience = self.served.pop()
    refine ⟨.ref L.o, rfl, L.o, C, dx, fs, .ref L.se, rfl, hob1, T.cl, T.n_se, hf.se, .inl ⟨rfl, _, SqL.of e_se1⟩, L.se, _, _, rfl, rfl, e_se1, last_snoc _ _, ?_⟩
    rw [List.dropLast_concat]
    have q_se2 : (upd G1 L.se (.lst vs')) L.se = some (.lst vs') := upd_same
    have k2 : ∀ b, b ≠ L.se → (upd G1 L.se (.lst vs')) b = G1 b := fun b n => upd_ne n
    have m2 := m1.upd (o := .lst vs') (.inr (.inr (.inr (.inl rfl))))
    generalize upd G1 L.se (.lst vs') = G2 at q_se2 k2 m2
    have kt2 : ∀ t ys, H t = some (.tup ys) → G2 t = some (.tup ys) := fun t ys e => by
      have e1 := kt1 _ _ e
      rw [k2 t (fun z => by rw [z, e_se1] at e1; cases e1)]
      exact e1
    have hob2 : G2 L.o = some (.ins C dx fs) := by rw [k2 _ (fun z => by rw [z, e_se1] at hob1; cases hob1)]; exact hob1
    refine ⟨t2, _, rfl, SqT.of (kt2 _ _ et2), rfl, .int (x : Int), _, rfl, optV r, _, rfl, rfl, ?_⟩
    show tSeq _ _ _ [some (.ref L.o), some (.ref t), some (.int (x : Int)), some (optV r)] G2
    have e_pe2 : G2 L.pe = _ := (k2 _ d3).trans e_pe1
    have e_re2 : G2 L.re = _ := (k2 _ d6).trans e_re1
    -- self.people.insert(0, person)
    refine ⟨.ref L.o, rfl, L.o, C, dx, fs, .ref L.pe, rfl, hob2, T.cl, T.n_pe, hf.pe, .inl ⟨rfl, _, SqL.of e_pe2⟩, .int (x : Int), rfl, L.pe, _, 0, _, rfl, rfl, e_pe2, by rw [ppl_len]; exact small1000 (by show xs.length < 1000; omega), by decide, by decide, ?_⟩
    have ei : (ppl xs).take (0 : Int).toNat ++ [V.int (x : Int)] ++ (ppl xs).drop (0 : Int).toNat = ppl s.xs := by rw [ex]; rfl
    rw [ei]
    have q_pe3 : (upd G2 L.pe (.lst (ppl s.xs))) L.pe = some (.lst (ppl s.xs)) := upd_same
    have k3 : ∀ b, b ≠ L.pe → (upd G2 L.pe (.lst (ppl s.xs))) b = G2 b := fun b n => upd_ne n
    have m3 := m2.upd (o := .lst (ppl s.xs)) (.inl rfl)
    generalize upd G2 L.pe (.lst (ppl s.xs)) = G3 at q_pe3 k3 m3
    have hob3 : G3 L.o = some (.ins C dx fs) := by rw [k3 _ (fun z => by rw [z, e_pe2] at hob2; cases hob2)]; exact hob2
    have e_re3 : G3 L.re = _ := (k3 _ (Ne.symm d1)).trans e_re2
    refine ⟨.ref L.o, rfl, L.o, C, dx, fs, .ref L.re, rfl, hob3, T.cl, T.n_re, hf.re, .inl ⟨rfl, _, SqL.of e_re3⟩, optV r, rfl, L.re, _, 0, _, rfl, rfl, e_re3, by rw [List.length_map]; exact small1000 (by show rs.length < 1000; omega), by decide, by decide, ?_⟩
    have ej : (rs.map optV).take (0 : Int).toNat ++ [optV r] ++ (rs.map optV).drop (0 : Int).toNat = s.rs.map optV := by rw [er]; rfl
    rw [ej]
    have kt4 : ∀ t ys, H t = some (.tup ys) → (upd G3 L.re (.lst (s.rs.map optV))) t = some (.tup ys) := fun t ys e => by
      have e1 := kt2 _ _ e
      rw [upd_ne (fun z => by rw [z, e_re2] at e1; cases e1), k3 t (fun z => by rw [z, e_pe2] at e1; cases e1)]
      exact e1
    refine q _ ⟨⟨dx, fs, ?_, hf⟩, ?_, upd_same, ?_, ⟨vs', ?_, a_se'.imp fun _ _ => ServV.kx kt4⟩, ⟨ws', ?_, a_de'.imp fun _ _ => DeedV.kx kt4⟩, hL.nd, ok⟩ (m3.upd (.inr (.inl rfl)))
    · rw [upd_ne (fun z => by rw [z, e_re3] at hob3; cases hob3)]; exact hob3
    · rw [upd_ne d1]; exact q_pe3
    · rw [upd_ne (Ne.symm d5), k3 _ (Ne.symm d2), k2 _ d8]; exact e_pa1
    · rw [upd_ne (Ne.symm d6), k3 _ (Ne.symm d3)]; exact q_se2
    · rw [upd_ne (Ne.symm d7), k3 _ (Ne.symm d4), k2 _ (Ne.symm d10)]; exact q_de1
theorem ok_histM {f : Addr} {fd : FuncData} (F : Fun K "history" "Line.history" sHistM f fd) (hT : Nm mg) (T : LnT K mg C) : FnOk P w K mg base CX0 1 f fd ["self"] (spHistM C) := by
  refine F.ok scHistM (fun vs H Q E ⟨L, s, e, _⟩ => by rw [e]; rfl) (fun cdv A outer s H vs Q E hr h => ?_)
  obtain ⟨L, s, rfl, hL, q⟩ := h
  refine ⟨_, pss_one (ps_ret (pe_callTy call_list_of (by rfl) hT.list (by decide +kernel) (pa_cons (pe_fld (pv 0) rfl) pa_nil))), ?_⟩
  obtain ⟨⟨dx, fs, hob, hf⟩, e_pe, e_re, e_pa, _, ⟨ws, e_de, a_de⟩, _⟩ := id hL
  exact ⟨.ref L.o, rfl, L.o, C, dx, fs, .ref L.de, rfl, hob, T.cl, T.n_de, hf.de, L.de, _, rfl, .inl (SqL.of e_de), fun p np => q p ws np a_de⟩
end
end CL
set_option Elab.async false
set_option linter.all false
set_option pp.maxSteps 600
set_option maxRecDepth 100000
set_option maxHeartbeats 4000000
namespace CL
open PySem PySem.Spec PyProof.Rows L2 GE HotX
/-! ### a class of refusals; defs that refuse, what they let out with no context -/
structure ExcM (K : PySem.W.Frag) (mg : Str → Option Value) (x : Str) (C : Addr) : Prop where
  g : mg x = some (.ref C)
  x : PySem.W.excIn K C [.type "ValueError", .type "Exception", .type "BaseException", .type "object"] "ValueError.__new__" = true
  k : PySem.W.keepIn K (.ref C) = true
  b : PySem.W.subIn K (.ref C) (.type "BaseException") = some true
  t : PySem.W.typeIn K (.ref C) = some (.type "type")
section
variable {P : Program} {w : World} {K : PySem.W.Frag} {mg : Str → Option Value} {base : Heap} {C : Addr}
theorem okN {x qual : Str} {st : Stmt} {f : Addr} {fd : FuncData} {N ps : List Str} {k : Nat} {sp : Sp} (F : Fun K x qual st f fd) (S : FnScope N ps (defScope st)) (len : ∀ vs H Q E, sp vs H Q E → vs.length = ps.length)
    (body : ∀ cdv A outer s H vs Q E, Room k (A.deeper (envOfC qual (defScope st) s.heap.objs.size f cdv)) → sp vs H Q E → ∃ t, PSs (cxOf (L2N.CX P w) P w K mg base N qual (defScope st) f cdv A outer s H E) (defBody st) t ∧ t { nx := fun _ H' => Q .non H', rt := Q } (start N vs) H) :
    FnOk P w K mg base (L2N.CX P w) (k + 1) f fd ps sp := by
  obtain ⟨oc, od, kV, doc, pm, an, cdv, ct, osl, rfl, lk, hcd⟩ := F.ex
  exact fn_of lk hcd S len fun A outer s H vs Q E hr h => body cdv A outer s H vs Q E hr h
/-- the one or the other -/
theorem FnOk.both {k : Nat} {f : Addr} {fd : FuncData} {ps : List Str} {sp bad : Sp} (F : FnOk P w K mg base CX0 k f fd ps sp) (G : FnOk P w K mg base (L2N.CX P w) k f fd ps bad) : FnOk P w K mg base (L2N.CX P w) k f fd ps (fun vs H Q E => sp vs H Q E ∨ bad vs H Q E) := by
  refine ⟨fun vs H Q E h => h.elim (F.len vs H Q E) (G.len vs H Q E), fun A outer s H args us vs Q E hr e0 b r h => ?_⟩
  rcases h with h | h
  · refine codeAny_mono (F.run A outer s H args us vs Q E hr e0 b r h) fun c t y => ?_
    match c, y with
    | .ok (.ret u), y => exact y
  · exact G.run A outer s H args us vs Q E hr e0 b r h
section
variable {X : Cx} {k : Nat} {f : Addr} {fd : FuncData} {ps : List Str} {sp : Sp} {E : L2.St → XK} {m : Str} {pos apos : Pos} {e o : Expr} {es : List Expr} {ta : TE} {t : TA}
def tMethE (C : Addr) (m : Str) (sp : Sp) (E : L2.St → XK) (ta : TE) (t : TA) : TE := fun σ H Q => ta σ H fun x H1 => ∃ a dx fs, x = .ref a ∧ H1 a = some (.ins C dx fs) ∧ fs.lookup m = none ∧ t σ H1 fun vs H2 => sp (x :: vs) H2 Q (E σ)
theorem pe_methE {pl : Sem Bool} (he : PE X o ta) (c : Cls X.K C) (hm : Meth X.K C m f) (F : FnOk X.prog X.w X.K X.mg X.base (L2N.CX X.prog X.w) k f fd ps sp) (hr : Room k X.A) (hb : Binds X.K fd ps []) (hx : ∀ σ, PassesAt (L2N.CX X.prog X.w) X σ (E σ)) (ha : PA X (e :: es) t)
    (hst : starEach (e :: es) X.env = (false, eval e X.env) :: starEach es X.env := by rfl) (hpl : (backTo pos (starEach es X.env)).any (·.1) = false := by rfl)
    (ht : eval (.Call (.Attribute o m apos) (e :: es) [] pos) X.env = (do
      let ov ← eval o X.env
      standAt apos.atName
      let (f, first) ← holding [ov] (getMethod ov m pl)
      callWith pos f first (backTo pos (starEach (e :: es) X.env)) (backToKw pos (keywordEach [] X.env))) := by rfl) : PE X (.Call (.Attribute o m apos) (e :: es) [] pos) (tMethE C m sp E ta t) := by
  constructor
  intro pins s σ H Q I h
  refine PySem.W.methodCall_KW (pl := pl) (thn (he.run pins s σ H _ I h) fun u s1 ⟨x, H1, J, rx, a, dx, fs, ex, ea, l, q⟩ => ?_) ht
  subst ex
  cases (show u = Value.ref a from rx)
  refine getmeth_ok J ea c hm l (PySem.W.callWith_K (first := [.ref a]) (h₀ := X.base) J.ok.mod.kin hm.kp (thn (ha.run pos pins s1 σ H1 _ J q) fun us s2 ⟨vs, H2, J2, r, y⟩ => ⟨J2.kIn, ?_⟩) hst hpl)
  exact run_fnS (us := .ref a :: us) (vs := .ref a :: vs) F hr hb (hx σ) J2 (.cons rfl r) y
theorem pe_methE0 {pl : Sem Bool} (he : PE X o ta) (c : Cls X.K C) (hm : Meth X.K C m f) (F : FnOk X.prog X.w X.K X.mg X.base (L2N.CX X.prog X.w) k f fd ps sp) (hr : Room k X.A) (hb : Binds X.K fd ps []) (hx : ∀ σ, PassesAt (L2N.CX X.prog X.w) X σ (E σ))
    (ht : eval (.Call (.Attribute o m apos) [] [] pos) X.env = (do
      let ov ← eval o X.env
      standAt apos.atName
      let (f, first) ← holding [ov] (getMethod ov m pl)
      callWith pos f first (backTo pos (starEach [] X.env)) (backToKw pos (keywordEach [] X.env))) := by rfl) : PE X (.Call (.Attribute o m apos) [] [] pos) (tMethE C m sp E ta tNil) := by
  constructor
  intro pins s σ H Q I h
  refine PySem.W.methodCall_KW (pl := pl) (thn (he.run pins s σ H _ I h) fun u s1 ⟨x, H1, J, rx, a, dx, fs, ex, ea, l, q⟩ => ?_) ht
  subst ex
  cases (show u = Value.ref a from rx)
  exact getmeth_ok J ea c hm l (PySem.W.callWith_K0 (first := [.ref a]) J.kIn hm.kp (run_fnS (us := [.ref a]) (vs := [.ref a]) F hr hb (hx σ) J (.cons rfl .nil) q))
end
/-! ### what the line refuses -/
def numOk (n : Nat) : PyData → Bool
  | .int i => decide (0 ≤ i) && decide (i < (n : Int))
  | _ => false
def badCome (B : Addr) : Sp := fun vs H _ E => ∃ (L : LnA) (v : V) (d : PyData), vs = [.ref L.o, v] ∧ Rp H v d ∧ isPatience d = false ∧ ∀ H', Same H H' → E (.ref B) none H'
def badServe (C B : Addr) : Sp := fun vs H _ E => ∃ (L : LnA) (s : LS), vs = [.ref L.o] ∧ LineAt C H L s ∧ s.xs = [] ∧ E (.ref B) none H
def badUndo (C B : Addr) : Sp := fun vs H _ E => ∃ (L : LnA) (s : LS), vs = [.ref L.o] ∧ LineAt C H L s ∧ s.ds = [] ∧ E (.ref B) none H
def badWent (C B : Addr) : Sp := fun vs H _ E => ∃ (L : LnA) (s : LS) (v : V) (d : PyData), vs = [.ref L.o, v] ∧ LineAt C H L s ∧ Rp H v d ∧ numOk s.ps.length d = false ∧ ∀ H', Same H H' → E (.ref B) none H'
theorem bad_come {f B : Addr} {fd : FuncData} (F : Fun K "come" "Line.come" sComeM f fd) (XB : ExcM K mg "NoPatience" B) (CP : Cal P w K mg base 2 "is_patience" ["thing"] (spOne isPatience)) : FnOk P w K mg base (L2N.CX P w) 3 f fd ["self", "patience"] (badCome B) := by
  refine okN F scComeM (fun vs H Q E ⟨L, v, d, e, _⟩ => by rw [e]; rfl) (fun cdv A outer s H vs Q E hr h => ?_)
  obtain ⟨L, v, d, rfl, hR, hb, q⟩ := h
  refine ⟨_, pss_cons (ps_if (pt_not (pt_val (pe_cal CP (hr.mono (by decide)) (by rfl) (pa_cons (pv 1) pa_nil)))) (pss_one (L2N.ps_raise rfl (L2N.takes_of rfl rfl rfl rfl) (L2N.pmk_own PySem.F.excBase_ValueError XB.x XB.g XB.k (raises_own XB.b XB.t) (by rfl)))) pss_nil) pss_never, ?_⟩
  refine ⟨v, rfl, v, d, rfl, hR, fun H1 s1 => ⟨_, rfl, ?_⟩⟩
  rw [hb]
  exact iteT (q H1 s1)
theorem bad_serve {f B : Addr} {fd : FuncData} (F : Fun K "serve" "Line.serve" sServeM f fd) (T : LnT K mg C) (XB : ExcM K mg "Nobody" B) : FnOk P w K mg base (L2N.CX P w) 1 f fd ["self"] (badServe C B) := by
  refine okN F scServeM (fun vs H Q E ⟨L, s, e, _⟩ => by rw [e]; rfl) (fun cdv A outer s H vs Q E hr h => ?_)
  obtain ⟨L, s, rfl, hL, hb, q⟩ := h
  refine ⟨_, pss_cons (ps_if (pt_not (pt_truth (pe_fld (pv 0) rfl) (by intro _; rfl))) (pss_one (L2N.ps_raise rfl (L2N.takes_of rfl rfl rfl rfl) (L2N.pmk_own PySem.F.excBase_ValueError XB.x XB.g XB.k (raises_own XB.b XB.t) (by rfl)))) pss_nil) pss_never, ?_⟩
  obtain ⟨⟨dx, fs, hob, hf⟩, e_pe, _⟩ := hL
  rw [hb] at e_pe
  exact ⟨.ref L.o, rfl, L.o, C, dx, fs, .ref L.pe, rfl, hob, T.cl, T.n_pe, hf.pe, false, .inl ⟨_, SqL.of e_pe, rfl⟩, iteT q⟩
theorem bad_undo {f B : Addr} {fd : FuncData} (F : Fun K "undo" "Line.undo" sUndoM f fd) (T : LnT K mg C) (XB : ExcM K mg "Nothing" B) : FnOk P w K mg base (L2N.CX P w) 2 f fd ["self"] (badUndo C B) := by
  refine okN F scUndoM (fun vs H Q E ⟨L, s, e, _⟩ => by rw [e]; rfl) (fun cdv A outer s H vs Q E hr h => ?_)
  obtain ⟨L, s, rfl, hL, hb, q⟩ := h
  refine ⟨_, pss_cons (ps_if (pt_not (pt_truth (pe_fld (pv 0) rfl) (by intro _; rfl))) (pss_one (L2N.ps_raise rfl (L2N.takes_of rfl rfl rfl rfl) (L2N.pmk_own PySem.F.excBase_ValueError XB.x XB.g XB.k (raises_own XB.b XB.t) (by rfl)))) pss_nil) pss_never, ?_⟩
  obtain ⟨⟨dx, fs, hob, hf⟩, e_pe, e_re, e_pa, ⟨vs, e_se, a_se⟩, ⟨ws, e_de, a_de⟩, _, _⟩ := hL
  rw [hb] at a_de
  cases a_de
  exact ⟨.ref L.o, rfl, L.o, C, dx, fs, .ref L.de, rfl, hob, T.cl, T.n_de, hf.de, false, .inl ⟨_, SqL.of e_de, rfl⟩, iteT q⟩
theorem bad_went {f B : Addr} {fd : FuncData} (F : Fun K "went_past" "Line.went_past" sWentM f fd) (hT : Nm mg) (T : LnT K mg C) (XB : ExcM K mg "NoPerson" B) (CW : Cal P w K mg base 1 "is_whole" ["thing"] (spOne isWhole)) : FnOk P w K mg base (L2N.CX P w) 2 f fd ["self", "person"] (badWent C B) := by
  refine okN F scWentM (fun vs H Q E ⟨L, s, v, d, e, _⟩ => by rw [e]; rfl) (fun cdv A outer s H vs Q E hr h => ?_)
  obtain ⟨L, s, v, d, rfl, hL, hR, hb, q⟩ := h
  refine ⟨_, pss_cons (ps_if (PW.pt (pw_or (pt_not (pt_val (pe_cal CW hr (by rfl) (pa_cons (pv 1) pa_nil)))) (pw_or1 (pt_not (pt_chain op_le op_lt pe_int (pv 1) (pe_callB call_len_seq (by rfl) hT.len PySem.boot_len (pa_cons (pe_fld (pv 0) rfl) pa_nil))))))) (pss_one (L2N.ps_raise rfl (L2N.takes_of rfl rfl rfl rfl) (L2N.pmk_own PySem.F.excBase_ValueError XB.x XB.g XB.k (raises_own XB.b XB.t) (by rfl)))) pss_nil) pss_never, ?_⟩
  refine ⟨v, rfl, v, d, rfl, hR, fun H1 s1 => ⟨isWhole d, rfl, ?_⟩⟩
  obtain ⟨⟨dx, fs, hob, hf⟩, e_pe, e_re, e_pa, _⟩ := hL.same s1
  cases hR with
  | int i =>
    refine iteF ⟨.int i, rfl, 0, i, rfl, rfl, decide ((0 : Int) ≤ i), rfl, ?_⟩
    by_cases h0 : (0 : Int) ≤ i
    · rw [decide_eq_true h0]
      refine iteT ⟨.ref L.o, rfl, L.o, C, dx, fs, .ref L.pa, rfl, hob, T.cl, T.n_pa, hf.pa, L.pa, _, rfl, .inl (SqL.of e_pa), i, _, rfl, rfl, decide (i < ((ppl s.ps).length : Int)), rfl, ?_⟩
      have n2 : ¬ i < (s.ps.length : Int) := fun z => by
        have e : numOk s.ps.length (.int i) = true := by
          show (decide (0 ≤ i) && decide (i < (s.ps.length : Int))) = true
          rw [decide_eq_true h0, decide_eq_true z]
          rfl
        rw [hb] at e; cases e
      rw [decide_eq_false (by rw [ppl_len]; exact n2)]
      exact iteT (q H1 s1)
    · rw [decide_eq_false h0]
      exact iteF ⟨false, rfl, iteT (q H1 s1)⟩
  | _ => exact iteT (q H1 s1)
end
end CL
set_option Elab.async false
set_option linter.all false
set_option maxRecDepth 100000
set_option maxHeartbeats 4000000
namespace CL
open PySem PySem.Spec PyProof.Rows L2 GE
abbrev sPatL : Stmt := topS 38
theorem scPatL : FnScope ["bag", "most"] ["bag", "most"] (defScope sPatL) := ⟨rfl, rfl, rfl, by decide +kernel, rfl, by decide +kernel, by decide +kernel⟩
def spE (sp : Bg → Sp) : Sp := fun vs H Q E => ∃ r, sp r vs H Q E
def spPatL (r : Bg) : Sp := fun vs H Q _ => ∃ (m : Int) (n : Nat), vs = [.ref r.a, .int m] ∧ BagAt n H r ∧ n + 4 < M60 ∧ 2 ≤ m ∧ m ≤ GREAT ∧ ∀ o H', BagAt (n + 4) H' r → Mv r H H' → isPatience (optD o) = true → (∀ i, o = some i → i ≤ m) → Q (optV o) H'
theorem t140 : (2 : Int) ^ 140 = 1393796574908163946345982392040522594123776 := by decide +kernel
theorem pat_some {i : Int} (h0 : 0 ≤ i) (h1 : i ≤ GREAT) : isPatience (optD (some i)) = true := by
  show (decide (0 ≤ i) && decide (i ≤ GREAT)) = true
  rw [decide_eq_true h0, decide_eq_true h1]
  rfl
section
variable {P : Program} {w : World} {K : PySem.W.Frag} {mg : Str → Option Value} {base : Heap}
theorem ok_patL {f : Addr} {r : Bg} {fd : FuncData} (F : Fun K "_law_patience" "_law_patience" sPatL f fd) (CD : Cal P w K mg base 2 "_law_draw" ["bag", "many"] (spDraw r)) : FnOk P w K mg base CX0 3 f fd ["bag", "most"] (spPatL r) := by
  refine F.ok scPatL (fun vs H Q E ⟨m, n, e, _⟩ => by rw [e]; rfl) (fun cdv A outer s H vs Q E hr h => ?_)
  obtain ⟨m, n, rfl, hb, hn, hm0, hm, q⟩ := h
  refine ⟨_, pss_one (ps_ret (pe_ix ix_list (pe_lst (pa_cons (pe_cal CD hr (by rfl) (pa_cons (pv 0) (pa_cons pe_int pa_nil))) (pa_cons (pe_cal CD hr (by rfl) (pa_cons (pv 0) (pa_cons pe_int pa_nil))) (pa_cons (pe_cal CD hr (by rfl) (pa_cons (pv 0) (pa_cons (pe_op op_add (pv 1) pe_int) pa_nil))) (pa_cons pe_non pa_nil))))) (pe_cal CD hr (by rfl) (pa_cons (pv 0) (pa_cons pe_int pa_nil))) (fun _ _ => rfl))), ?_⟩
  have hm' : m ≤ 1000000000000000000000000000000 := hm
  refine ⟨.ref r.a, rfl, 3, n, rfl, hb, by omega, by decide, by decide, fun x1 H1 b1 v1 a1 c1 => ?_⟩
  refine ⟨.ref r.a, rfl, 3, n + 1, rfl, b1, by omega, by decide, by decide, fun x2 H2 b2 v2 a2 c2 => ?_⟩
  refine ⟨.ref r.a, rfl, .int m, rfl, m, 1, rfl, rfl, m + 1, n + 2, rfl, b2, by omega, by omega, by rw [t140]; omega, fun x3 H3 b3 v3 a3 c3 => ?_⟩
  refine ⟨small_le (by show 4 ≤ 1000; decide), fun p np => ?_⟩
  have s4 : Same H3 (upd H3 p (.lst [.int x1, .int x2, .int x3, .non])) := same_upd np
  have e4 : (upd H3 p (.lst [.int x1, .int x2, .int x3, .non])) p = some (.lst ([some x1, some x2, some x3, none].map optV)) := upd_same
  have npr := b3.new np
  generalize upd H3 p (.lst [.int x1, .int x2, .int x3, .non]) = H4 at s4 e4
  refine ⟨.ref r.a, rfl, 4, n + 3, rfl, b3.same s4, by omega, by decide, by decide, fun x5 H5 b5 v5 a5 c5 => ?_⟩
  obtain ⟨j, rfl⟩ : ∃ j : Nat, x5 = (j : Int) := ⟨x5.toNat, by omega⟩
  have hj : j < [some x1, some x2, some x3, none].length := by show j < 4; omega
  have key : isPatience (optD [some x1, some x2, some x3, none][j]) = true ∧ ∀ i, [some x1, some x2, some x3, none][j] = some i → i ≤ m := by
    have g1 : (1000000000000000000000000000000 : Int) = GREAT := rfl
    match j, hj with
    | 0, _ => exact ⟨pat_some a1 (by omega), fun i e => by cases e; omega⟩
    | 1, _ => exact ⟨pat_some a2 (by omega), fun i e => by cases e; omega⟩
    | 2, _ => exact ⟨pat_some a3 (by omega), fun i e => by cases e; omega⟩
    | 3, _ => exact ⟨rfl, fun i e => by cases e⟩
  exact ⟨p, _, j, optV [some x1, some x2, some x3, none][j], rfl, rfl, SqL.of (v5.keep p _ npr.a e4), atI_nat (by rw [List.getElem?_map, List.getElem?_eq_getElem hj]; rfl), q _ H5 b5 ((v1.trans v2).trans (v3.trans ((Mv.of s4).trans v5))) key.1 key.2⟩
end
/-! ### lists of numbers and None, as data -/
theorem opts_dp {K : PySem.W.Frag} {H : Hp} : ∀ os : List (Option Int), DpAll K H (os.map optV) (os.map optD)
  | [] => .nil
  | o :: os => .cons (optV_dp o) (opts_dp os)
theorem opts_lay : ∀ os : List (Option Int), PyData.canLayAll0 (os.map optD) = true
  | [] => by simp [PyData.canLayAll0]
  | o :: os => by
    have := opts_lay os
    cases o <;> simp [PyData.canLayAll0, PyData.canLay0, this, optD]
theorem opts_depth : ∀ os : List (Option Int), PyData.depthAll (os.map optD) = 0
  | [] => rfl
  | o :: os => by
    have := opts_depth os
    show max (PyData.depth (optD o)) (PyData.depthAll (os.map optD)) = 0
    rw [this]
    cases o <;> rfl
theorem opts_shaped (os : List (Option Int)) : SeqAt.shaped (.list (os.map optD)) = true := by
  unfold SeqAt.shaped
  have h1 : PyData.canLay0 (.list (os.map optD)) = true := by
    have := opts_lay os
    simp [PyData.canLay0, this]
  have h2 : PyData.depth (.list (os.map optD)) = 1 := by
    show PyData.depthAll (os.map optD) + 1 = 1
    rw [opts_depth]
  rw [h1, h2]
  rfl
theorem eqvAll_opts : ∀ as : List (Option Int), PyData.eqvAll (as.map optD) (as.map optD) = true
  | [] => by simp [PyData.eqvAll]
  | o :: as => by
    have := eqvAll_opts as
    cases o <;> simp [PyData.eqvAll, PyData.eqv, optD, this]
theorem eqv_opts (as : List (Option Int)) : PyData.eqv (.list (as.map optD)) (.list (as.map optD)) = true := by
  have := eqvAll_opts as
  simp [PyData.eqv, this]
def so (xs : List Nat) : List (Option Int) := xs.map fun x : Nat => some (x : Int)
theorem ppl_so (xs : List Nat) : ppl xs = (so xs).map optV := by
  unfold ppl so
  rw [List.map_map]
  rfl
theorem opts_flat : ∀ os : List (Option Int), (os.map optV).all flatV = true
  | [] => rfl
  | o :: os => by
    have := opts_flat os
    cases o <;> simp [optV, flatV, this]
theorem inV_zero : ∀ os : List (Option Int), inV (.int 0) (os.map optV) = decide (some 0 ∈ os)
  | [] => rfl
  | o :: os => by
    have ih := inV_zero os
    unfold inV at ih ⊢
    rw [List.map_cons, List.any_cons, ih]
    cases o with
    | none => simp [optV, eqV]
    | some i =>
      show ((i == 0) || decide (some 0 ∈ os)) = decide (some 0 ∈ some i :: os)
      by_cases h : i = 0
      · simp [h]
      · have h' : ¬ (0 : Int) = i := fun z => h z.symm
        simp [h, h']
theorem range_ppl (m : Nat) : rgV 0 (m : Int) = ppl (List.range m) := by
  unfold rgV ppl
  have e : ((m : Int) - 0).toNat = m := by omega
  rw [e]
  refine List.map_congr_left fun i _ => ?_
  rw [Int.zero_add]
def rNeE : R2 := fun x y H Q => ∃ (a b : Addr) (xs : List V), x = .ref a ∧ y = .ref b ∧ H a = some (.lst xs) ∧ H b = some (.lst []) ∧ Q (.bl (!xs.isEmpty)) H
theorem op_neE {X : Cx} (hu : X.A.units < cLine) : OpR X (compareOp .NotEq) rNeE := by
  intro pins s σ H x y v u Q I rx ry ⟨a, b, xs, ex, ey, ha, hb, q⟩
  subst ex ey
  obtain ⟨its, rv, p1, _⟩ := I.list (SqL.of ha)
  obtain ⟨jts, rw', p2, _⟩ := I.list (SqL.of hb)
  cases rx
  cases ry
  have l1 := rv.length
  have l2 := rw'.length
  cases xs with
  | nil =>
    have e : its.toArray.size = jts.toArray.size := by rw [List.size_toArray, List.size_toArray, ← l1, ← l2]
    have e0 : its.toArray.size = 0 := by rw [List.size_toArray, ← l1]; rfl
    have z := SeqAt.RcNeAt.lists (A := X.A) (e := fun _ => true) p1.isList p2.isList e hu (fun j h1 => absurd h1 (by rw [e0]; exact Nat.not_lt_zero j))
    refine z X.prog X.w _ _ ⟨.bl _, H, I, ?_, q⟩
    rw [e0]
    rfl
  | cons x xs =>
    have e : (its.toArray.size != jts.toArray.size) = true := by
      rw [List.size_toArray, List.size_toArray, ← l1, ← l2]
      rfl
    exact SeqAt.RcNeAt.lists_lengths (A := X.A) p1.isList p2.isList e hu X.prog X.w _ _ ⟨.bl _, H, I, rfl, q⟩
theorem Flds.come {fs : List (Str × V)} {L : LnA} (h : Flds fs L) : fs.lookup ("come" : Str) = none := h.no _ (by decide +kernel) (by decide +kernel) (by decide +kernel) (by decide +kernel) (by decide +kernel)
theorem Flds.serve {fs : List (Str × V)} {L : LnA} (h : Flds fs L) : fs.lookup ("serve" : Str) = none := h.no _ (by decide +kernel) (by decide +kernel) (by decide +kernel) (by decide +kernel) (by decide +kernel)
theorem Flds.queue {fs : List (Str × V)} {L : LnA} (h : Flds fs L) : fs.lookup ("queue" : Str) = none := h.no _ (by decide +kernel) (by decide +kernel) (by decide +kernel) (by decide +kernel) (by decide +kernel)
theorem Flds.left {fs : List (Str × V)} {L : LnA} (h : Flds fs L) : fs.lookup ("left" : Str) = none := h.no _ (by decide +kernel) (by decide +kernel) (by decide +kernel) (by decide +kernel) (by decide +kernel)
theorem Flds.went {fs : List (Str × V)} {L : LnA} (h : Flds fs L) : fs.lookup ("went_past" : Str) = none := h.no _ (by decide +kernel) (by decide +kernel) (by decide +kernel) (by decide +kernel) (by decide +kernel)
/-! ### a bag and lines side by side -/
section
variable {n : Nat} {C : Addr} {H H' : Hp} {r : Bg} {L : LnA} {s : LS}
theorem BagAt.mvL (hb : BagAt n H r) (h1 : ¬ L.has r.a) (h2 : ¬ L.has r.c) (m : MvL L H H') : BagAt n H' r := by
  obtain ⟨ns, i, b, k, t, er, ec, h⟩ := hb
  exact ⟨ns, i, b, k, t, m.keep _ _ h1 er, m.keep _ _ h2 ec, h⟩
theorem BagAt.isl (hb : BagAt n H r) : ∃ vs, H r.a = Option.some (HO.lst vs) := by
  obtain ⟨ns, i, b, k, t, er, ec, h⟩ := hb
  exact ⟨_, er⟩
theorem LineAt.mv (h : LineAt C H L s) (hb : BagAt n H r) (d : ¬ L.has r.a) (m : Mv r H H') : LineAt C H' L s := h.kx fun b o hbo e => m.keep b o (fun z => by
  rcases hbo with q | q
  · exact d (by rw [← z]; exact q)
  · obtain ⟨vs, e2⟩ := hb.isl
    rw [z, e2] at e
    exact q vs (Option.some.inj e).symm) e
theorem LineAt.store (h : LineAt C H L s) {g : Addr} {xs ys : List V} (e : H g = some (.lst xs)) (d : ¬ L.has g) : LineAt C (upd H g (.lst ys)) L s := h.kx fun b o hbo eb => by
  rw [upd_ne]
  · exact eb
  · intro z
    rcases hbo with q | q
    · exact d (by rw [← z]; exact q)
    · rw [z, e] at eb
      exact q _ (Option.some.inj eb).symm
end
end CL
set_option Elab.async false
set_option linter.all false
set_option maxRecDepth 100000
set_option maxHeartbeats 4000000
namespace CL
open PySem PySem.Spec PyProof.Rows L2 GE
abbrev sCame : Stmt := topS 36
abbrev nCame : List Str := ["stand", "rest", "number", "patience", "at"]
theorem scCame : FnScope nCame ["stand", "rest", "number", "patience"] (defScope sCame) := ⟨rfl, rfl, rfl, by decide +kernel, rfl, by decide +kernel, by decide +kernel⟩
abbrev sDone : Stmt := topS 39
abbrev nDone : List Str := ["deeds", "stand", "rest", "past", "deed", "number", "later", "other"]
theorem scDone : FnScope nDone ["deeds"] (defScope sDone) := ⟨rfl, rfl, rfl, by decide +kernel, rfl, by decide +kernel, by decide +kernel⟩
abbrev RF := Nat → Option Int
/-- how one that comes is put -/
structure CameX (f f' : RF) (xs : List Nat) (n k : Nat) (p : Option Int) : Prop where
  k : k = (goes xs.length (xs.map f)).1
  l : xs.map f' = (goes xs.length (xs.map f)).2
  n : f' n = p
theorem map_set {xs : List Nat} {g : RF} {k : Nat} {o : Option Int} (nd : xs.Nodup) (hk : k < xs.length) : xs.map (fun x => if x = xs[k] then o else g x) = (xs.map g).set k o := by
  refine List.ext_getElem (by rw [List.length_set, List.length_map, List.length_map]) fun i h1 h2 => ?_
  rw [List.length_map] at h1
  rw [List.getElem_map, List.getElem_set]
  by_cases e : k = i
  · subst e
    rw [if_pos rfl, if_pos rfl]
  · rw [if_neg e, if_neg (fun z => e ?_), List.getElem_map]
    rcases Nat.lt_trichotomy k i with h | h | h
    · exact absurd z.symm (List.pairwise_iff_getElem.mp nd k i hk h1 h)
    · exact h
    · exact absurd z (List.pairwise_iff_getElem.mp nd i k h1 hk h)
theorem small_lt {a n : Nat} (h : a ≤ n) (hn : n ≤ 300) : a < sizeLine := by
  have : 1000 ≤ sizeLine := by decide
  omega
/-- what each of so many has left -/
def RestF (H : Hp) (D : Addr) (n : Nat) (f : RF) : Prop := ∃ kvs : List (Key × V), H D = some (.dK kvs) ∧ kvs.length ≤ n ∧ ∀ x < n, valV kvs (Sum.inl (x : Int)) = some (optV (f x))
/-- all but one object stays -/
def But (D : Addr) (H H' : Hp) : Prop := ∀ b o, b ≠ D → H b = some o → H' b = some o
theorem But.upd {D : Addr} {H H' : Hp} {o : HO} (b : But D H H') : But D H (upd H' D o) := fun c x nc e => by rw [upd_ne nc]; exact b c x nc e
theorem But.new {D p : Addr} {H H' : Hp} {o : HO} (b : But D H H') (hp : H' p = none) : But D H (L2.upd H' p o) := fun c x nc e => by
  have e2 := b c x nc e
  rw [upd_ne (ne_of_none e2 hp)]
  exact e2
theorem But.none {D p : Addr} {H H' : Hp} (b : But D H H') (n : p ≠ D) (hp : H' p = none) : H p = none := by
  cases q : H p with
  | none => rfl
  | some o => rw [b p o n q] at hp; cases hp
def spCame : Sp := fun vs H Q _ => ∃ (S D : Addr) (xs : List Nat) (n : Nat) (p : Option Int) (f : RF), vs = [.ref S, .ref D, .int n, optV p] ∧ H S = some (.lst (ppl xs)) ∧ RestF H D n f ∧ (∀ x ∈ xs, x < n) ∧ xs.Nodup ∧ xs.length ≤ 300 ∧ n ≤ 300 ∧
  ∀ T H' k f', CameX f f' xs n k p → But D H H' → H' T = some (.lst (ppl (xs.take k ++ n :: xs.drop k))) → H T = none → RestF H' D (n + 1) f' → Q (.ref T) H'
theorem came_end {K : PySem.W.Frag} {H H4 : Hp} {S D : Addr} {xs : List Nat} {n k : Nat} {p : Option Int} {Q : VK} {f f' : RF} (eS : H S = some (.lst (ppl xs))) (hSD : S ≠ D) (hl : xs.length ≤ 300) (hk : k ≤ xs.length) (b4 : But D H H4) (r4 : RestF H4 D (n + 1) f') (hc : CameX f f' xs n k p)
    (q : ∀ T H' k f', CameX f f' xs n k p → But D H H' → H' T = some (.lst (ppl (xs.take k ++ n :: xs.drop k))) → H T = none → RestF H' D (n + 1) f' → Q (.ref T) H') :
    tOp rCat (tOp rCat (tSl (rSlL K) (tVar 0) tNoPart (tPart (tVar 4))) (tLst (tCons (tVar 2) tNil))) (tSl (rSlL K) (tVar 0) (tPart (tVar 4)) tNoPart) [some (.ref S), some (.ref D), some (.int n), some (optV p), some (.int (k : Int))] H4 Q := by
  have e4 := b4 S _ hSD eS
  have nD : ∀ {G : Hp} {t : Addr}, RestF G D (n + 1) f' → G t = none → t ≠ D := fun {G t} ⟨_, e, _⟩ nt z => by rw [z, e] at nt; cases nt
  have keep : ∀ {G : Hp} {t : Addr} {o : HO}, RestF G D (n + 1) f' → G t = none → RestF (upd G t o) D (n + 1) f' := fun {G t o} ⟨kvs, e, h⟩ nt => ⟨kvs, by rw [upd_ne (ne_of_none e nt)]; exact e, h⟩
  have pl := ppl_len xs
  refine ⟨.ref S, rfl, .int k, rfl, k, rfl, S, _, rfl, SqL.of e4, fun p1 n1 => ⟨.int n, rfl, small_le (by show 1 ≤ 1000; decide), fun p2 n2 => ?_⟩⟩
  rw [cut_to]
  rw [cut_to] at n2
  have b5 : But D H (upd H4 p1 (.lst ((ppl xs).take k))) := b4.new n1
  have r5 := keep (o := .lst ((ppl xs).take k)) r4 n1
  have e5 : (upd H4 p1 (.lst ((ppl xs).take k))) p1 = some (.lst ((ppl xs).take k)) := upd_same
  generalize upd H4 p1 (.lst ((ppl xs).take k)) = H5 at b5 r5 e5 n2
  have b6 : But D H (upd H5 p2 (.lst [.int (n : Int)])) := b5.new n2
  have r6 := keep (o := .lst [.int (n : Int)]) r5 n2
  have e6 : (upd H5 p2 (.lst [.int (n : Int)])) p2 = some (.lst [.int (n : Int)]) := upd_same
  have e61 : (upd H5 p2 (.lst [.int (n : Int)])) p1 = some (.lst ((ppl xs).take k)) := by rw [upd_ne (ne_of_none e5 n2)]; exact e5
  generalize upd H5 p2 (.lst [.int (n : Int)]) = H6 at b6 r6 e6 e61
  refine ⟨p1, p2, _, _, rfl, rfl, e61, e6, small_add (by rw [List.length_take]; omega) (by show 1 ≤ 1000; decide), fun p3 n3 => ?_⟩
  have b7 : But D H (upd H6 p3 (.lst ((ppl xs).take k ++ [.int (n : Int)]))) := b6.new n3
  have r7 := keep (o := .lst ((ppl xs).take k ++ [.int (n : Int)])) r6 n3
  have e7 : (upd H6 p3 (.lst ((ppl xs).take k ++ [.int (n : Int)]))) p3 = some (.lst ((ppl xs).take k ++ [.int (n : Int)])) := upd_same
  generalize upd H6 p3 (.lst ((ppl xs).take k ++ [.int (n : Int)])) = H7 at b7 r7 e7
  refine ⟨.ref S, rfl, .int k, rfl, k, rfl, S, _, rfl, SqL.of (b7 S _ hSD eS), fun p4 n4 => ?_⟩
  rw [cut_from]
  have b8 : But D H (upd H7 p4 (.lst ((ppl xs).drop k))) := b7.new n4
  have r8 := keep (o := .lst ((ppl xs).drop k)) r7 n4
  have e8 : (upd H7 p4 (.lst ((ppl xs).drop k))) p4 = some (.lst ((ppl xs).drop k)) := upd_same
  have e83 : (upd H7 p4 (.lst ((ppl xs).drop k))) p3 = some (.lst ((ppl xs).take k ++ [.int (n : Int)])) := by rw [upd_ne (ne_of_none e7 n4)]; exact e7
  generalize upd H7 p4 (.lst ((ppl xs).drop k)) = H8 at b8 r8 e8 e83
  refine ⟨p3, p4, _, _, rfl, rfl, e83, e8, small_add (by rw [List.length_append, List.length_take]; show _ + 1 ≤ _; omega) (by rw [List.length_drop]; omega), fun p5 n5 => ?_⟩
  have n0 := b8.none (nD r8 n5) n5
  refine q p5 _ k f' hc (b8.new n5) ?_ n0 (keep r8 n5)
  rw [upd_same]
  unfold ppl
  rw [List.map_append, List.map_cons, List.map_take, List.map_drop, List.append_assoc]
  rfl
section
variable {P : Program} {w : World} {K : PySem.W.Frag} {mg : Str → Option Value} {base : Heap}
theorem ok_came {fa : Addr} {fd : FuncData} (F : Fun K "_law_came" "_law_came" sCame fa fd) (hlen : mg "len" = none) : FnOk P w K mg base CX0 1 fa fd ["stand", "rest", "number", "patience"] spCame := by
  refine F.ok scCame (fun vs H Q E ⟨S, D, xs, n, p, f, e, _⟩ => by rw [e]; rfl) (fun cdv A outer s H vs Q E hr h => ?_)
  obtain ⟨S, D, xs, n, p, f, rfl, eS, hR, hx, hnd, hl, hn, q⟩ := h
  have nd := scCame.nd
  have hu := hu_of hr
  refine ⟨_, (pss_cons (ps_set (i := 4) nd rfl (.inl rfl) (pe_callB call_len_seq (by rfl) hlen PySem.boot_len (pa_cons (pv 0) pa_nil)))
    (pss_cons (ps_while PassesOwn.never (PW.pt (pw_and (pt_cmpR op_gt (pv 4) pe_int (nomark _)) (pw_and1 (pt_cmpR (op_neD hr.units) (pe_dget hu (pv 1) (pe_ix ix_list (pv 0) (pe_op op_sub (pv 4) pe_int) (fun _ _ => rfl)) (fun _ _ => rfl)) pe_int (nomark _)))))
      (pss_cons (ps_set (i := 4) nd rfl (.inl rfl) (pe_op op_sub (pv 4) pe_int))
      (pss_one (ps_if (pt_cmp (pc_notN (pe_dget hu (pv 1) (pe_ix ix_list (pv 0) (pv 4) (fun _ _ => rfl)) (fun _ _ => rfl))))
        (pss_one (ps_dput hu (pv 1) (pe_ix ix_list (pv 0) (pv 4) (fun _ _ => rfl)) (pe_op op_sub (pe_dget hu (pv 1) (pe_ix ix_list (pv 0) (pv 4) (fun _ _ => rfl)) (fun _ _ => rfl)) pe_int) rfl)) pss_nil))))
    (pss_cons (ps_dput hu (pv 1) (pv 2) (pv 3) rfl)
    (pss_one (ps_ret (pe_op op_cat (pe_op op_cat (pe_slice sl_list (pv 0) po_none (po_some (pv 4))) (pe_lst (pa_cons (pv 2) pa_nil))) (pe_slice sl_list (pv 0) (po_some (pv 4)) po_none))))))), ?_⟩
  have hSD : S ≠ D := fun z => by
    obtain ⟨kvs, e, _⟩ := hR
    rw [← z, eS] at e
    cases e
  refine ⟨.ref S, rfl, S, _, rfl, .inl (SqL.of eS), ?_⟩
  rw [ppl_len]
  refine ⟨fun k σ H3 => σ = [some (.ref S), some (.ref D), some (.int n), some (optV p), some (.int (k : Int))] ∧ But D H H3 ∧ k ≤ xs.length ∧ ∃ g : RF, RestF H3 D n g ∧ goes k (xs.map g) = goes xs.length (xs.map f),
    ⟨xs.length, rfl, fun _ _ _ e => e, Nat.le_refl _, f, hR, rfl⟩, fun k σ H3 hW => ?_⟩
  obtain ⟨rfl, hB, hk, g, ⟨kvs, hkv, hkl, hkx⟩, hgo0⟩ := hW
  have hfn : xs.map (fun x => if x = n then p else g x) = xs.map g := List.map_congr_left fun x hx' => if_neg (by have := hx x hx'; omega)
  have e3 := hB S _ hSD eS
  cases k with
  | zero =>
    refine ⟨.int ((0 : Nat) : Int), rfl, ((0 : Nat) : Int), 0, rfl, rfl, decide ((0 : Int) < ((0 : Nat) : Int)), rfl, iteF ?_⟩
    refine ⟨optV p, rfl, .ref D, rfl, .int n, rfl, D, _, rfl, DPut.k (k := Sum.inl (n : Int)) hkv (small_lt hkl hn), ?_⟩
    have b4 : But D H (upd H3 D (.dK (putK kvs (Sum.inl (n : Int)) (optV p)))) := hB.upd
    have r4 : RestF (upd H3 D (.dK (putK kvs (Sum.inl (n : Int)) (optV p)))) D (n + 1) (fun x => if x = n then p else g x) := ⟨_, upd_same, Nat.le_trans (length_putK _ _ _) (Nat.succ_le_succ hkl), fun x hx => by
      rw [valV_put]
      by_cases hxn : x = n
      · rw [if_pos (by rw [hxn])]; exact congrArg (fun z => some (optV z)) (if_pos hxn).symm
      · rw [if_neg (fun z => hxn (by have := Sum.inl.inj z; omega))]
        rw [hkx x (by omega)]; exact congrArg (fun z => some (optV z)) (if_neg hxn).symm⟩
    exact came_end eS hSD hl hk b4 r4 ⟨by rw [← hgo0]; rfl, by rw [hfn, ← hgo0]; rfl, if_pos rfl⟩ q
  | succ k' =>
    have hk' : k' < xs.length := by omega
    have hi1 : ((k' + 1 : Nat) : Int) - 1 = (k' : Int) := by omega
    have hat : atI (ppl xs) (((k' + 1 : Nat) : Int) - 1) = some (.int (xs[k'] : Int)) := by rw [hi1]; exact atI_nat (ppl_get hk')
    have hat2 : atI (ppl xs) (k' : Int) = some (.int (xs[k'] : Int)) := atI_nat (ppl_get hk')
    have ho := hkx xs[k'] (hx _ (List.getElem_mem hk'))
    generalize hgo : g xs[k'] = o at ho
    have dg : DGet H3 D (.int (xs[k'] : Int)) (some (optV o)) := by rw [← ho]; exact DGet.k (k := Sum.inl (xs[k'] : Int)) hkv
    refine ⟨.int ((k' + 1 : Nat) : Int), rfl, ((k' + 1 : Nat) : Int), 0, rfl, rfl, decide ((0 : Int) < ((k' + 1 : Nat) : Int)), rfl, ?_⟩
    rw [decide_eq_true (by omega : (0 : Int) < ((k' + 1 : Nat) : Int))]
    refine iteT ⟨.ref D, rfl, .ref S, rfl, .int ((k' + 1 : Nat) : Int), rfl, ((k' + 1 : Nat) : Int), 1, rfl, rfl, S, _, ((k' + 1 : Nat) : Int) - 1, .int (xs[k'] : Int), rfl, rfl, SqL.of e3, hat, D, optV o, rfl, dg, optD o, .int 0, optV_dp o, .int 0, optD_shaped o, optD_shaped (some 0), _, rfl, ?_⟩
    rw [optV_ne0]
    by_cases hz : o = some 0
    · rw [decide_eq_true hz]
      refine iteF ⟨optV p, rfl, .ref D, rfl, .int n, rfl, D, _, rfl, DPut.k (k := Sum.inl (n : Int)) hkv (small_lt hkl hn), ?_⟩
      have b4 : But D H (upd H3 D (.dK (putK kvs (Sum.inl (n : Int)) (optV p)))) := hB.upd
      have r4 : RestF (upd H3 D (.dK (putK kvs (Sum.inl (n : Int)) (optV p)))) D (n + 1) (fun x => if x = n then p else g x) := ⟨_, upd_same, Nat.le_trans (length_putK _ _ _) (Nat.succ_le_succ hkl), fun x hx => by
        rw [valV_put]
        by_cases hxn : x = n
        · rw [if_pos (by rw [hxn])]; exact congrArg (fun z => some (optV z)) (if_pos hxn).symm
        · rw [if_neg (fun z => hxn (by have := Sum.inl.inj z; omega))]
          rw [hkx x (by omega)]; exact congrArg (fun z => some (optV z)) (if_neg hxn).symm⟩
      have hg2 : goes (k' + 1) (xs.map g) = (k' + 1, xs.map g) := by
        unfold goes
        rw [List.getElem?_map, List.getElem?_eq_getElem hk', Option.map_some, hgo, hz]
        rfl
      exact came_end eS hSD hl hk b4 r4 ⟨by rw [← hgo0, hg2], by rw [hfn, ← hgo0, hg2], if_pos rfl⟩ q
    · rw [decide_eq_false hz]
      cases o with
      | none =>
        have hg2 : goes k' (xs.map g) = goes xs.length (xs.map f) := by
          rw [← hgo0]
          conv => rhs; unfold goes
          rw [List.getElem?_map, List.getElem?_eq_getElem hk', Option.map_some, hgo]
        refine iteT ⟨fun σ' H'' => σ' = [some (.ref S), some (.ref D), some (.int n), some (optV p), some (.int (((k' + 1 : Nat) : Int) - 1))] ∧ H'' = H3, fun σ' H'' z => ⟨k', Nat.lt_succ_self k', by rw [z.1, hi1], by rw [z.2]; exact hB, by omega, g, by rw [z.2]; exact ⟨kvs, hkv, hkl, hkx⟩, hg2⟩, ?_⟩
        exact ⟨.int ((k' + 1 : Nat) : Int), rfl, ((k' + 1 : Nat) : Int), 1, rfl, rfl, .ref D, rfl, .ref S, rfl, .int (((k' + 1 : Nat) : Int) - 1), rfl, S, _, ((k' + 1 : Nat) : Int) - 1, .int (xs[k'] : Int), rfl, rfl, SqL.of e3, hat, D, optV none, rfl, dg, _, rfl, iteF ⟨rfl, rfl⟩⟩
      | some j =>
        have hg2 : goes k' (xs.map (fun x => if x = xs[k'] then some (j - 1) else g x)) = goes xs.length (xs.map f) := by
          rw [← hgo0, map_set hnd hk']
          conv => rhs; unfold goes
          rw [List.getElem?_map, List.getElem?_eq_getElem hk', Option.map_some, hgo]
          exact (if_neg (fun y => hz (by rw [y]))).symm
        refine iteT ⟨fun σ' H'' => σ' = [some (.ref S), some (.ref D), some (.int n), some (optV p), some (.int (((k' + 1 : Nat) : Int) - 1))] ∧ But D H H'' ∧ RestF H'' D n (fun x => if x = xs[k'] then some (j - 1) else g x), fun σ' H'' z => ⟨k', Nat.lt_succ_self k', by rw [z.1, hi1], z.2.1, by omega, _, z.2.2, hg2⟩, ?_⟩
        refine ⟨.int ((k' + 1 : Nat) : Int), rfl, ((k' + 1 : Nat) : Int), 1, rfl, rfl, .ref D, rfl, .ref S, rfl, .int (((k' + 1 : Nat) : Int) - 1), rfl, S, _, ((k' + 1 : Nat) : Int) - 1, .int (xs[k'] : Int), rfl, rfl, SqL.of e3, hat, D, optV (some j), rfl, dg, _, rfl, iteT ?_⟩
        refine ⟨.ref D, rfl, .ref S, rfl, .int (((k' + 1 : Nat) : Int) - 1), rfl, S, _, ((k' + 1 : Nat) : Int) - 1, .int (xs[k'] : Int), rfl, rfl, SqL.of e3, hat, D, optV (some j), rfl, dg, j, 1, rfl, rfl, .ref D, rfl, .ref S, rfl, .int (((k' + 1 : Nat) : Int) - 1), rfl, S, _, ((k' + 1 : Nat) : Int) - 1, .int (xs[k'] : Int), rfl, rfl, SqL.of e3, hat, D, _, rfl, DPut.k (k := Sum.inl (xs[k'] : Int)) hkv (small_lt hkl hn), rfl, hB.upd, _, upd_same, ?_, fun x hx' => ?_⟩
        · have hsome : (valV kvs (Sum.inl (xs[k'] : Int))).isSome = true := by rw [ho]; rfl
          unfold putK
          rw [if_pos (by rw [valV_any]; exact hsome), List.length_map]
          exact hkl
        · rw [valV_put]
          by_cases hxk : (x : Int) = (xs[k'] : Int)
          · have hxk' : x = xs[k'] := by omega
            rw [if_pos (by rw [hxk])]
            show some (optV (some (j - 1))) = some (optV (if x = xs[k'] then some (j - 1) else g x))
            rw [if_pos hxk']
          · have hxk' : ¬ x = xs[k'] := fun z => hxk (congrArg (fun y : Nat => (y : Int)) z)
            rw [if_neg (fun z => hxk (Sum.inl.inj z)), hkx x hx']
            exact congrArg (fun z => some (optV z)) (if_neg hxk').symm
end
/-! ### how many went past each, by numbers -/
def pastK (ps : List Nat) : List (Key × V) := (List.range ps.length).map fun i : Nat => ((Sum.inl (i : Int) : Key), V.int (ps.getD i 0 : Nat))
theorem pastK_len (ps : List Nat) : (pastK ps).length = ps.length := by unfold pastK; rw [List.length_map, List.length_range]
theorem find_nat (h : Nat → V) (i : Nat) : ∀ l : List Nat, i ∈ l → (l.map fun j : Nat => ((Sum.inl (j : Int) : Key), h j)).find? (fun kv => decide (kv.1 = (Sum.inl (i : Int) : Key))) = some ((Sum.inl (i : Int) : Key), h i)
  | [], m => nomatch m
  | j :: l, m => by
    rw [List.map_cons, List.find?_cons]
    by_cases e : j = i
    · subst e
      simp
    · have ne : ¬ ((Sum.inl (j : Int) : Key) = (Sum.inl (i : Int) : Key)) := fun z => by injection z with z; omega
      rw [decide_eq_false ne]
      exact find_nat h i l ((List.mem_cons.mp m).resolve_left (Ne.symm e))
theorem pastK_get {ps : List Nat} {i : Nat} (h : i < ps.length) : valV (pastK ps) (Sum.inl (i : Int) : Key) = some (V.int (ps.getD i 0 : Nat)) := by
  unfold valV pastK
  rw [find_nat (fun j => V.int (ps.getD j 0 : Nat)) i _ (List.mem_range.mpr h)]
  rfl
theorem pastK_set {ps : List Nat} {i v : Nat} (h : i < ps.length) : putK (pastK ps) (Sum.inl (i : Int) : Key) (V.int (v : Int)) = pastK (ps.set i v) := by
  unfold putK
  rw [if_pos]
  · unfold pastK
    rw [List.map_map, List.length_set]
    refine List.map_congr_left fun j hj => ?_
    have hj := List.mem_range.mp hj
    show (if (Sum.inl (j : Int) : Key) = (Sum.inl (i : Int) : Key) then ((Sum.inl (j : Int) : Key), V.int (v : Int)) else ((Sum.inl (j : Int) : Key), V.int (ps.getD j 0 : Nat))) = ((Sum.inl (j : Int) : Key), V.int ((ps.set i v).getD j 0 : Nat))
    by_cases e : j = i
    · subst e
      rw [if_pos rfl, List.getD_eq_getElem?_getD, List.getElem?_set, if_pos rfl, if_pos h]
      rfl
    · rw [if_neg (fun z => by injection z with z; omega)]
      simp [List.getD_eq_getElem?_getD, List.getElem?_set, Ne.symm e]
  · unfold pastK
    rw [List.any_map, List.any_eq_true]
    exact ⟨i, List.mem_range.mpr h, by simp⟩
theorem pastK_new (ps : List Nat) : putK (pastK ps) (Sum.inl (ps.length : Int) : Key) (V.int 0) = pastK (ps ++ [0]) := by
  rw [putK_new]
  · unfold pastK
    rw [List.length_append, List.length_singleton, List.range_succ, List.map_append]
    congr 1
    · refine List.map_congr_left fun j hj => ?_
      have hj := List.mem_range.mp hj
      rw [List.getD_eq_getElem?_getD, List.getD_eq_getElem?_getD, List.getElem?_append_left hj]
    · rw [List.map_singleton, List.getD_eq_getElem?_getD, List.getElem?_append_right (Nat.le_refl _), Nat.sub_self]
      rfl
  · unfold valV
    rw [Option.map_eq_none_iff, List.find?_eq_none]
    intro kv hkv
    unfold pastK at hkv
    obtain ⟨j, hj, rfl⟩ := List.mem_map.mp hkv
    have hj := List.mem_range.mp hj
    simp only [decide_eq_true_eq]
    intro z
    injection z with z
    omega
theorem comeS_nd {s : LS} (h : s.Ok) (nd : s.xs.Nodup) (p : Option Int) : (comeS s p).xs.Nodup := by
  have hp := List.perm_middle (a := s.ps.length) (l₁ := s.xs.take s.k) (l₂ := s.xs.drop s.k)
  rw [List.take_append_drop] at hp
  show (s.xs.take s.k ++ s.ps.length :: s.xs.drop s.k).Nodup
  rw [hp.nodup_iff, List.nodup_cons]
  exact ⟨fun m => absurd (h.lt _ m) (Nat.lt_irrefl _), nd⟩
theorem Vd.nodup : ∀ {ds : List Deed}, Vd ds → (stF ds).xs.Nodup := by
  intro ds
  induction hn : ds.length generalizing ds with
  | zero =>
    intro _
    rw [List.eq_nil_of_length_eq_zero hn]
    exact List.nodup_nil
  | succ n ih =>
    intro h
    rcases List.eq_nil_or_concat ds with z | ⟨es, d, z⟩
    · subst z; cases hn
    · rw [List.concat_eq_append] at z
      subst z
      have hes := ih (ds := es) (by rw [List.length_append] at hn; simp at hn; exact hn) h.pre
      rw [stF_snoc]
      cases d with
      | come p => exact comeS_nd h.pre.ok hes p
      | serve => exact hes.tail
theorem nodup_tail' {α : Type} {l : List α} (h : l.Nodup) : l.tail.Nodup := h.tail
/-- how many came and were served -/
theorem ds_count {ds : List Deed} (h : Vd ds) (n : Nat) (hl : ds.length ≤ n) : (stF ds).ps.length ≤ n ∧ (stF ds).xs.length ≤ n := by
  have ok := h.ok
  have h1 := ok.dl
  have h2 := ok.tot
  rw [stF_ds] at h1
  omega
theorem All2.get {α : Type} {R : V → α → Prop} : ∀ {vs : List V} {xs : List α} {i : Nat} {v : V}, All2 R vs xs → vs[i]? = some v → ∃ x, xs[i]? = some x ∧ R v x
  | _, _, _, _, .nil, e => by simp at e
  | _, _, 0, _, .cons r _, e => by simp at e; subst e; exact ⟨_, rfl, r⟩
  | _, _, i + 1, _, .cons _ t, e => by
    obtain ⟨d, h1, h2⟩ := All2.get (i := i) t (by simpa using e)
    exact ⟨d, by simpa using h1, h2⟩
def spDone : Sp := fun vs H Q _ => ∃ (A : Addr) (ws : List V) (ds : List Deed), vs = [.ref A] ∧ H A = some (.lst ws) ∧ All2 (DeedV H) ws ds ∧ Vd ds ∧ ds.length ≤ 300 ∧
  ∀ t S D P H' f, Same H H' → H' t = some (.tup [.ref S, .ref D, .ref P]) → H' S = some (.lst (ppl (stF ds).xs)) → RestF H' D (stF ds).ps.length f → (stF ds).xs.map f = (stF ds).rs → H' P = some (.dK (pastK (stF ds).ps)) → H S = none → H D = none → H P = none → Q (.ref t) H'
section
variable {P : Program} {w : World} {K : PySem.W.Frag} {mg : Str → Option Value} {base : Heap}
theorem ok_done {f : Addr} {fd : FuncData} (F : Fun K "_law_done" "_law_done" sDone f fd) (hT : Nm mg) (CC : Cal P w K mg base 1 "_law_came" ["stand", "rest", "number", "patience"] spCame) : FnOk P w K mg base CX0 2 f fd ["deeds"] spDone := by
  refine F.ok scDone (fun vs H Q E ⟨A, ws, ds, e, _⟩ => by rw [e]; rfl) (fun cdv A' outer s H vs Q E hr h => ?_)
  obtain ⟨A, ws, ds, rfl, eA, hws, hv, hl, q⟩ := h
  have nd := scDone.nd
  have hu := hu_of hr
  refine ⟨_, (pss_cons (ps_par3 (i := 1) (j := 2) (l := 3) rfl nd rfl rfl rfl (by decide) (by decide) (by decide) rfl rfl rfl (pa_cons (pe_lst pa_nil) (pa_cons pe_dnewK (pa_cons pe_dnewK pa_nil))) (by rfl))
      (pss_cons (ps_for PassesOwn.never rfl (pi_list (pv 0)) (pg_name (i := 4) nd rfl (.inl rfl)) (pss_one (ps_if (pt_cmpR op_eq (pe_ix ix_tup (pv 4) pe_int (fun _ _ => rfl)) pe_str (nomark _)) (pss_one (ps_set (i := 1) nd rfl (.inl rfl) (pe_slice sl_list (pv 1) (po_some pe_int) po_none))) (pss_cons (ps_set (i := 5) nd rfl (.inl rfl) (pe_callB call_lenD (by rfl) hT.len PySem.boot_len (pa_cons (pv 3) pa_nil)))
      (pss_cons (ps_set (i := 6) nd rfl (.inl rfl) (pe_cal CC hr (by rfl) (pa_cons (pv 1) (pa_cons (pv 2) (pa_cons (pv 5) (pa_cons (pe_ix ix_tup (pv 4) pe_int (fun _ _ => rfl)) pa_nil))))))
      (pss_cons (ps_for PassesOwn.never rfl (pi_list (pe_slice sl_list (pv 6) (po_some (pe_op op_add (pe_bm PySem.F.plainAttrs_list PySem.F.slot_list_index PySem.F.type_list_index mt_index (pv 6) (pa_cons (pv 5) pa_nil)) pe_int)) po_none)) (pg_name (i := 7) nd rfl (.inl rfl)) (pss_one (ps_dput hu (pv 3) (pv 7) (pe_op op_add (pe_dget hu (pv 3) (pv 7) (fun _ _ => rfl)) pe_int) rfl)))
      (pss_cons (ps_dput hu (pv 3) (pv 5) pe_int rfl)
      (pss_one (ps_set (i := 1) nd rfl (.inl rfl) (pv 6))))))))))
      (pss_one (ps_ret (pe_tup (pa_cons (pv 1) (pa_cons (pv 2) (pa_cons (pv 3) pa_nil)))))))), ?_⟩
  refine ⟨Nat.zero_le _, fun S nS D nD P nP => ⟨_, _, _, rfl, ?_⟩⟩
  have nSD : S ≠ D := fun z => by rw [← z, upd_same] at nD; cases nD
  have nD0 : H D = none := (same_upd nS).free nD
  have nDP : D ≠ P := fun z => by rw [← z, upd_same] at nP; cases nP
  have nSP : S ≠ P := fun z => by rw [← z, upd_ne nSD, upd_same] at nP; cases nP
  have nP0 : H P = none := (same_upd nS).free ((same_upd nD).free nP)
  have s0 : Same H (upd (upd (upd H S (.lst [])) D (.dK [])) P (.dK [])) := ((same_upd nS).trans (same_upd nD)).trans (same_upd nP)
  have eS0 : (upd (upd (upd H S (.lst [])) D (.dK [])) P (.dK [])) S = some (.lst (ppl [])) := by rw [upd_ne nSP, upd_ne nSD]; exact upd_same
  have eD0 : (upd (upd (upd H S (.lst [])) D (.dK [])) P (.dK [])) D = some (.dK []) := by rw [upd_ne nDP]; exact upd_same
  have eP0 : (upd (upd (upd H S (.lst [])) D (.dK [])) P (.dK [])) P = some (.dK (pastK [])) := upd_same
  show tSeq _ _ _ [some (.ref A), some (.ref S), some (.ref D), some (.ref P), none, none, none, none] (upd (upd (upd H S (.lst [])) D (.dK [])) P (.dK []))
  generalize upd (upd (upd H S (.lst [])) D (.dK [])) P (.dK []) = G0 at s0 eS0 eD0 eP0
  have hwl := hws.length
  refine ⟨.ref A, rfl, A, rfl, ⟨_, SqL.of (s0 _ _ eA)⟩, for_list (xs := ws) (fun i σ G => ∃ (S : Addr) (f : RF) (y4 y5 y6 y7 : Option V), σ = [some (.ref A), some (.ref S), some (.ref D), some (.ref P), y4, y5, y6, y7] ∧ Same H G ∧ G S = some (.lst (ppl (stF (ds.take i)).xs)) ∧ H S = none ∧ RestF G D (stF (ds.take i)).ps.length f ∧ (stF (ds.take i)).xs.map f = (stF (ds.take i)).rs ∧ G P = some (.dK (pastK (stF (ds.take i)).ps)))
    ⟨S, fun _ => none, none, none, none, none, rfl, s0, eS0, nS, ⟨[], eD0, Nat.le_refl _, fun x hx => absurd hx (Nat.not_lt_zero x)⟩, rfl, eP0⟩
    (fun i σ G _ ⟨_, _, _, _, _, _, _, sG, _⟩ => SqL.of (sG _ _ eA)) (fun i v σ G hi hP => ?_) (fun σ G hP => ?_)⟩
  · obtain ⟨S, f, y4, y5, y6, y7, rfl, sG, eS, nS, hR, hf, eP⟩ := hP
    obtain ⟨d, hd, hdv⟩ := hws.get hi
    have hil := (List.getElem?_eq_some_iff.mp hd).1
    have hsn : ds.take (i + 1) = ds.take i ++ [d] := by rw [List.take_add_one, hd]; rfl
    have hvi : Vd (ds.take i) := Vd.pre (es := ds.drop i) (by rw [List.take_append_drop]; exact hv)
    have hvn : Vd (ds.take i ++ [d]) := by rw [← hsn]; exact Vd.pre (es := ds.drop (i + 1)) (by rw [List.take_append_drop]; exact hv)
    rw [hsn, stF_snoc]
    have ok := hvi.ok
    have hxn := hvi.nodup
    obtain ⟨c1, c2⟩ := ds_count hvi 300 (by rw [List.length_take]; omega)
    generalize stF (ds.take i) = s at eS hR hf eP ok hxn c1 c2
    have nSP : S ≠ P := fun z => by rw [z, eP] at eS; cases eS
    cases d with
    | serve =>
      obtain ⟨t, rfl, et⟩ := hdv
      refine ⟨.ref t, rfl, t, _, 0, .str "serve", rfl, rfl, SqT.of (sG _ _ et), atI_nat (j := 0) rfl, rfl, _, rfl, ite2 (fun _ => ?_) (fun y => absurd (decide_eq_true rfl) y)⟩
      refine ⟨.ref S, rfl, 1, rfl, S, _, rfl, SqL.of eS, fun p np => ?_⟩
      have e1 : cutV (ppl s.xs) (some 1) none = ppl s.xs.tail := by
        rw [show (1 : Int) = ((1 : Nat) : Int) from rfl, cut_from]
        unfold ppl
        rw [← List.map_drop, List.drop_one]
      rw [e1]
      have sp1 : Same G (upd G p (.lst (ppl s.xs.tail))) := same_upd np
      obtain ⟨kvs, k1, k2, k3⟩ := hR
      refine ⟨p, f, _, _, _, _, rfl, sG.trans sp1, upd_same, sG.free np, ⟨kvs, sp1 _ _ k1, k2, k3⟩, ?_, sp1 _ _ eP⟩
      show s.xs.tail.map f = s.rs.tail
      rw [← hf, List.map_tail]
    | come p =>
      obtain ⟨t, rfl, et⟩ := hdv
      refine ⟨.ref t, rfl, t, _, 0, .str "come", rfl, rfl, SqT.of (sG _ _ et), atI_nat (j := 0) rfl, rfl, _, rfl, ite2 (fun y => absurd (of_decide_eq_true y) (fun z => word_ne (by injection z with z; exact z.symm))) (fun _ => ?_)⟩
      refine ⟨.ref P, rfl, P, _, rfl, eP, ?_⟩
      rw [pastK_len]
      dsimp only [gName]
      show tSeq _ _ _ [some (.ref A), some (.ref S), some (.ref D), some (.ref P), some (.ref t), some (.int (s.ps.length : Int)), y6, y7] G
      refine ⟨.ref S, rfl, .ref D, rfl, .int (s.ps.length : Int), rfl, .ref t, rfl, t, _, 1, optV p, rfl, rfl, SqT.of (sG _ _ et), atI_nat (j := 1) rfl, S, D, s.xs, s.ps.length, p, f, rfl, eS, hR, ok.lt, hxn, by omega, by omega, fun T H5 k f' hc hb eT nT hR5 => ?_⟩
      have ek : k = s.k := by rw [hc.k, hf, ok.len]
      have e2 : (goes s.xs.length (s.xs.map f)) = goes s.rs.length s.rs := by rw [hf, ok.len]
      have s5 : Same H H5 := fun b o e => hb b o (fun z => by rw [z, nD0] at e; cases e) (sG _ _ e)
      have eP5 := hb P _ (Ne.symm nDP) eP
      subst ek
      obtain ⟨g1, g2⟩ := goes_le s.rs.length s.rs
      have hk : s.k ≤ s.xs.length := by rw [ok.len]; exact g1
      have lt : (s.xs.take s.k).length = s.k := by rw [List.length_take]; omega
      dsimp only [gName]
      show tSeq _ _ _ [some (.ref A), some (.ref S), some (.ref D), some (.ref P), some (.ref t), some (.int (s.ps.length : Int)), some (.ref T), y7] H5
      have hT0 : H T = none := sG.free nT
      -- later[later.index(number) + 1:]
      refine ⟨.ref T, rfl, .ref T, rfl, .inl ⟨rfl, _, SqL.of eT⟩, .int (s.ps.length : Int), rfl, T, _, _, s.k, .int (s.ps.length : Int), rfl, rfl, SqL.of eT, rfl, ppl_flat _, ?_, by simp [eqV], fun m z' hm hz => ?_, _, 1, rfl, rfl, _, rfl, T, _, rfl, SqL.of eT, fun D2 nD2 => ?_⟩
      · unfold ppl
        rw [List.getElem?_map, List.getElem?_append_right (by omega), lt, Nat.sub_self]
        rfl
      · unfold ppl at hz
        rw [List.getElem?_map, List.getElem?_append_left (by omega), List.getElem?_take, if_pos hm, List.getElem?_eq_getElem (by omega)] at hz
        obtain rfl := (Option.some.inj hz).symm
        have := ok.lt _ (List.getElem_mem (show m < s.xs.length by omega))
        show (((s.xs[m] : Nat) : Int) == (s.ps.length : Int)) = false
        rw [beq_eq_false_iff_ne]
        omega
      have ec : cutV (ppl (s.xs.take s.k ++ s.ps.length :: s.xs.drop s.k)) (some ((s.k : Int) + 1)) none = ppl (s.xs.drop s.k) := by
        rw [show (s.k : Int) + 1 = ((s.k + 1 : Nat) : Int) from rfl, cut_from]
        unfold ppl
        rw [← List.map_drop, List.drop_append, lt, List.drop_of_length_le (by omega), show s.k + 1 - s.k = 1 by omega]
        rfl
      rw [ec]
      have sD2 : Same H5 (upd H5 D2 (.lst (ppl (s.xs.drop s.k)))) := same_upd nD2
      have eD2 : (upd H5 D2 (.lst (ppl (s.xs.drop s.k)))) D2 = some (.lst (ppl (s.xs.drop s.k))) := upd_same
      have nD2P : D2 ≠ P := fun z => by rw [z, eP5] at nD2; cases nD2
      generalize upd H5 D2 (.lst (ppl (s.xs.drop s.k))) = H6 at sD2 eD2
      refine ⟨D2, rfl, ⟨_, SqL.of eD2⟩, for_list (xs := ppl (s.xs.drop s.k)) (fun j σ G => (∃ y7, σ = [some (.ref A), some (.ref S), some (.ref D), some (.ref P), some (.ref t), some (.int (s.ps.length : Int)), some (.ref T), y7]) ∧ (∀ b, b ≠ P → G b = H6 b) ∧ G P = some (.dK (pastK (bump s.ps ((s.xs.drop s.k).take j)))))
        ⟨⟨_, rfl⟩, fun _ _ => rfl, sD2 _ _ eP5⟩ (fun j σ G _ ⟨_, kG, _⟩ => SqL.of (by rw [kG _ nD2P]; exact eD2)) (fun j x σ G hx hP => ?_) (fun σ G hP => ?_)⟩
      · obtain ⟨⟨y7, rfl⟩, kG, eG⟩ := hP
        have il : j < (s.xs.drop s.k).length := by rw [← ppl_len]; exact (List.getElem?_eq_some_iff.mp hx).1
        rw [ppl_get il] at hx
        obtain rfl := (Option.some.inj hx).symm
        have hsn : (s.xs.drop s.k).take (j + 1) = (s.xs.drop s.k).take j ++ [(s.xs.drop s.k)[j]] := by rw [List.take_add_one, List.getElem?_eq_getElem il]; rfl
        have hlt : (s.xs.drop s.k)[j] < s.ps.length := ok.lt _ (List.mem_of_mem_drop (List.getElem_mem il))
        rw [hsn, bump_snoc]
        have hbl := bump_len ((s.xs.drop s.k).take j) s.ps
        generalize bump s.ps ((s.xs.drop s.k).take j) = qs at eG hbl
        generalize (s.xs.drop s.k)[j] = y at hlt
        have dg : DGet G P (.int (y : Int)) (some (.int (qs.getD y 0 : Nat))) := by rw [← pastK_get (ps := qs) (by omega)]; exact DGet.k (k := Sum.inl (y : Int)) eG
        refine ⟨.ref P, rfl, .int (y : Int), rfl, P, _, rfl, dg, _, 1, rfl, rfl, .ref P, rfl, .int (y : Int), rfl, P, _, rfl, DPut.k (k := Sum.inl (y : Int)) eG (by rw [pastK_len]; exact small1000 (by omega)), ⟨_, rfl⟩, fun b nb => by rw [upd_ne nb]; exact kG b nb, ?_⟩
        rw [upd_same]
        show some (HO.dK (putK (pastK qs) (Sum.inl (y : Int) : Key) (V.int ((qs.getD y 0 + 1 : Nat) : Int)))) = _
        rw [pastK_set (by omega)]
      · obtain ⟨⟨y7, rfl⟩, kG, eG⟩ := hP
        rw [ppl_len, List.take_length] at eG
        have hbl := bump_len (s.xs.drop s.k) s.ps
        have up : ∀ {b : Addr} {o : HO}, b ≠ P → H5 b = some o → G b = some o := fun {b o} n e => by rw [kG b n]; exact sD2 _ _ e
        obtain ⟨kvs, k1, k2, k3⟩ := hR5
        have nTP : T ≠ P := fun z => by rw [z, eP5] at eT; cases eT
        dsimp only []
        show tSeq _ _ _ [some (.ref A), some (.ref S), some (.ref D), some (.ref P), some (.ref t), some (.int (s.ps.length : Int)), some (.ref T), y7] G
        refine ⟨.ref P, rfl, .int (s.ps.length : Int), rfl, P, _, rfl, DPut.k (k := Sum.inl (s.ps.length : Int)) eG (by rw [pastK_len]; exact small1000 (by omega)), .ref T, rfl, ?_⟩
        have en : putK (pastK (bump s.ps (s.xs.drop s.k))) (Sum.inl (s.ps.length : Int) : Key) (V.int 0) = pastK (bump s.ps (s.xs.drop s.k) ++ [0]) := by
          rw [← hbl]
          exact pastK_new _
        have hps : (comeS s p).ps.length = s.ps.length + 1 := by show (bump _ _ ++ [0]).length = _; rw [List.length_append, hbl]; rfl
        refine ⟨T, f', _, _, _, _, rfl, fun b o e => ?_, ?_, hT0, ⟨kvs, ?_, ?_, ?_⟩, ?_, ?_⟩
        · rw [upd_ne (fun z => by rw [z, nP0] at e; cases e)]
          exact up (fun z => by rw [z, nP0] at e; cases e) (s5 _ _ e)
        · rw [upd_ne nTP]
          exact up nTP eT
        · rw [upd_ne nDP]
          exact up nDP k1
        · show kvs.length ≤ (comeS s p).ps.length
          rw [hps]
          exact k2
        · show ∀ x < (comeS s p).ps.length, _
          rw [hps]
          exact k3
        · show (s.xs.take s.k ++ s.ps.length :: s.xs.drop s.k).map f' = (goes s.rs.length s.rs).2.take s.k ++ p :: (goes s.rs.length s.rs).2.drop s.k
          rw [List.map_append, List.map_cons, hc.n, List.map_take, List.map_drop, hc.l, e2]
        · rw [upd_same]
          show some (HO.dK (putK (pastK (bump s.ps (s.xs.drop s.k))) (Sum.inl (s.ps.length : Int) : Key) (V.int 0))) = _
          rw [en]
          rfl
  · obtain ⟨S, f, y4, y5, y6, y7, rfl, sG, eS, nS, hR, hf, eP⟩ := hP
    rw [hwl, List.take_length] at eS hR hf eP
    refine ⟨.ref S, rfl, .ref D, rfl, .ref P, rfl, small_le (by show 3 ≤ 1000; decide), fun t nt => ?_⟩
    have st : Same G (upd G t (.tup [.ref S, .ref D, .ref P])) := same_upd nt
    obtain ⟨kvs, k1, k2, k3⟩ := hR
    exact q t S D P _ f (sG.trans st) upd_same (st _ _ eS) ⟨kvs, st _ _ k1, k2, k3⟩ hf (st _ _ eP) nS nD0 nP0
end
end CL
set_option Elab.async false
set_option linter.all false
set_option maxRecDepth 100000
set_option maxHeartbeats 4000000
namespace CL
open PySem PySem.Spec PyProof.Rows L2 GE
/-! ### how much a thing weighs -/
mutual
def wt : PyData → Nat
  | .none => 4
  | .bool _ => 5
  | .int i => i.natAbs.log2 + 4
  | .str x => (reprText x).length
  | .list xs => wtAll xs + 4
  | .tuple xs => wtAll xs + 4
  | .dict kvs => kvs.length * 100000000 + 2
def wtAll : List PyData → Nat
  | [] => 0
  | x :: xs => wt x + 2 + wtAll xs
end
structure B (k u : Nat) (d : PyData) : Prop where
  dp : d.depth ≤ k
  wt : wt d ≤ u
  sh : d.showable = true
theorem B.mono {k u k' u' : Nat} {d : PyData} (b : B k u d) (hk : k ≤ k') (hu : u ≤ u') : B k' u' d := ⟨Nat.le_trans b.dp hk, Nat.le_trans b.wt hu, b.sh⟩
theorem all_bnd {k u : Nat} : ∀ {ds : List PyData}, (∀ x ∈ ds, B k u x) → PyData.depthAll ds ≤ k ∧ wtAll ds ≤ ds.length * (u + 2) ∧ PyData.showableAll ds = true
  | [], _ => ⟨Nat.zero_le _, by simp [wtAll], by simp [PyData.showableAll]⟩
  | x :: ds, h => by
    obtain ⟨h1, h2, h3⟩ := all_bnd (ds := ds) fun y hy => h y (List.mem_cons_of_mem _ hy)
    have hx := h x List.mem_cons_self
    refine ⟨?_, ?_, ?_⟩
    · show max _ _ ≤ k
      exact Nat.max_le.mpr ⟨hx.dp, h1⟩
    · show wt x + 2 + wtAll ds ≤ _
      rw [List.length_cons, Nat.add_mul]
      have := hx.wt
      omega
    · simp [PyData.showableAll, hx.sh, h3]
theorem B.list {k u n : Nat} {ds : List PyData} (h : ∀ x ∈ ds, B k u x) (hn : ds.length ≤ n) : B (k + 1) (n * (u + 2) + 4) (.list ds) := by
  obtain ⟨h1, h2, h3⟩ := all_bnd h
  have := Nat.mul_le_mul_right (u + 2) hn
  refine ⟨?_, ?_, ?_⟩
  · show PyData.depthAll ds + 1 ≤ k + 1
    omega
  · show wtAll ds + 4 ≤ _
    omega
  · simp [PyData.showable, h3]
theorem B.tuple {k u n : Nat} {ds : List PyData} (h : ∀ x ∈ ds, B k u x) (hn : ds.length ≤ n) : B (k + 1) (n * (u + 2) + 4) (.tuple ds) := by
  obtain ⟨h1, h2, h3⟩ := all_bnd h
  have := Nat.mul_le_mul_right (u + 2) hn
  refine ⟨?_, ?_, ?_⟩
  · show PyData.depthAll ds + 1 ≤ k + 1
    omega
  · show wtAll ds + 4 ≤ _
    omega
  · simp [PyData.showable, h3]
theorem b_none {k : Nat} : B k 200 .none := ⟨Nat.zero_le _, by decide, rfl⟩
theorem b_bool {k : Nat} {b : Bool} : B k 200 (.bool b) := ⟨Nat.zero_le _, by show 5 ≤ 200; decide, rfl⟩
theorem b_int {k : Nat} {i : Int} (h : i.natAbs < 2 ^ 140) : B k 200 (.int i) := by
  have h1 : i.natAbs.log2 < 140 := PySem.Flt.log2_lt_of (by decide) h
  exact ⟨Nat.zero_le _, by show i.natAbs.log2 + 4 ≤ 200; omega, by simp [PyData.showable]; omega⟩
/-! ### a def that is called where no repr is under way -/
structure FnG (P : Program) (w : World) (K : PySem.W.Frag) (mg : Str → Option Value) (base : Heap) (k : Nat) (f : Addr) (fd : FuncData) (ps : List Str) (sp : Sp) : Prop where
  run : ∀ (A : Around) (outer : List Env) (s : Shared) (H : Hp) (args : Args) (us : List Value) (vs : List V) (Q : VK) (E : XK), A.guards = some [] → Room k A → Env0 P w K mg base A outer s H → BindsTo s fd args (ps.zip us) → Vals vs us → sp vs H Q E →
    codeAny (model P w) A (.call (.ref f) args) (CR CX0 outer P w H s Q E) s
theorem fng_of {P : Program} {w : World} {K : PySem.W.Frag} {mg : Str → Option Value} {base : Heap} {x qual : Str} {st : Stmt} {f : Addr} {fd : FuncData} {N ps : List Str} {k : Nat} {sp : Sp} (F : Fun K x qual st f fd) (S : FnScope N ps (defScope st)) (len : ∀ vs H Q E, sp vs H Q E → vs.length = ps.length)
    (hbody : ∀ (cdv : Value) (A : Around) (outer : List Env) (s : Shared) (H : Hp) (vs : List V) (Q : VK) (E : XK), A.guards = some [] → Room k (A.deeper (envOfC qual (defScope st) s.heap.objs.size f cdv)) → sp vs H Q E →
      ∃ t, PSs (cxOf CX0 P w K mg base N qual (defScope st) f cdv A outer s H E).nox (defBody st) t ∧ t { nx := fun _ H' => Q .non H', rt := Q } (start N vs) H) : FnG P w K mg base (k + 1) f fd ps sp := by
  obtain ⟨oc, od, kV, doc, pm, an, cdv, ct, osl, rfl, lk, hcd⟩ := F.ex
  constructor
  intro A outer s H args us vs Q E hgd hr e0 hb r hsp
  have hl : vs.length = ps.length := len _ _ _ _ hsp
  have up : ∀ b o, base.get? b = some o → s.heap.get? b = some o := fun b o e => (e0.bs b o e).1
  have KX : K.In s.heap := e0.mod.kin.keeps up
  have pk : ∀ y ∈ ps.zip us, (defScope st).names.lookup y.1 = some .local ∨ ((defScope st).names.lookup y.1 = some .cell ∧ ((cellsFrom (s.heap.objs.size + 1) (defScope st).names []).lookup y.1).isSome = true) := by
    rintro ⟨n, v⟩ hy
    exact (S.par n (List.of_mem_zip hy).1).imp id fun q => ⟨q, PySem.W.cellsFrom_some _ _ _ (.inl q)⟩
  refine codeAny_call_function hr.depth (KX _ _ lk) rfl S.co S.gen rfl (PySem.W.codeRec_of KX hcd) (hb _ _ _ _ (wpAny_newFunctionEnv_cells S.kind pk fun env he s1 x => ?_))
  subst he
  obtain ⟨t, ht, hq⟩ := hbody cdv A outer s H vs Q E hgd (hr.deeper _) hsp
  refine ⟨(e0.mod.nolimit.keeps up).keeps x.toInCall.keep, codeAny_func (wpAny_mono (ht.nox.run [] s1 (start N vs) H _ (inv_start S hr.hd e0 hl r x) hq) (fun fl s' hs => ?_) fun _ _ z => z)⟩
  cases fl with
  | ret u =>
    obtain ⟨v, _, H', J, rv, z⟩ := hs
    exact ⟨v, H', J.os, J.bare, J.base, J.hok, rv, z⟩
  | next =>
    obtain ⟨_, H', J, z⟩ := hs
    exact ⟨.non, H', J.os, J.bare, J.base, J.hok, rfl, z⟩
  | brk => exact (let ⟨_, _, _, z⟩ := hs; z : False).elim
  | cont => exact (let ⟨_, _, _, z⟩ := hs; z : False).elim
/-! ### repr of data -/
section
variable {X : Cx} {pins : List (Addr × Obj)} {σ : L2.St} {H : Hp} {s : Shared}
mutual
theorem Rp.reads (hsys : ∃ o, X.base.get? sysModules = some o) (I : Inv X pins σ H s) : ∀ (d : PyData) (v : V) (u : Value), Rp H v d → RelV v u → ∃ as, Reads s.heap u d as ∧ sysModules ∉ as
  | .none, _, _, h, r => by cases h; cases r; exact ⟨_, Reads.none, by simp⟩
  | .bool b, _, _, h, r => by cases h; cases r; exact ⟨_, Reads.bool b, by simp⟩
  | .int i, _, _, h, r => by cases h; obtain ⟨t, rfl⟩ := r; exact ⟨_, Reads.int i t, by simp⟩
  | .str x, _, _, h, r => by cases h; obtain ⟨t, rfl⟩ := r; exact ⟨_, Reads.str x t, by simp⟩
  | .list ds, _, _, h, r => by
    cases h with
    | @lst a xs _ hs ha =>
      cases r
      obtain ⟨its, rv, ⟨o, n, ho, hc, _, hd⟩, _⟩ := I.list (SqL.of hs)
      obtain ⟨as, hr, hn⟩ := RpAll.reads hsys I ds _ its ha rv
      refine ⟨_, Reads.list ho hc hd hr, fun z => (List.mem_cons.mp z).elim (fun e => ?_) hn⟩
      obtain ⟨o1, ho1⟩ := hsys
      have z := (I.bs _ _ ho1).2
      rw [e, hs] at z
      cases z
  | .tuple ds, _, _, h, r => by
    cases h with
    | tup hs ha =>
      cases r
      obtain ⟨its, rv, ⟨o, ho, hc, n, hd⟩, _⟩ := I.tuple (SqT.of hs)
      obtain ⟨as, hr, hn⟩ := RpAll.reads hsys I ds _ its ha rv
      exact ⟨_, Reads.tuple ho hc hd hr, hn⟩
  | .dict kvs, _, _, h, r => by
    cases h with
    | @dct a hs =>
      cases r
      obtain ⟨_, hne, vs, kv, o, es, ep, ho, hx, hd, _, hp, _⟩ := (show ObjOk X.prog X.w H s.heap a (.dK []) from I.hok a _ hs)
      cases kv
      have e0 : es.toList = [] := List.eq_nil_of_length_eq_zero hp.length
      refine ⟨_, Reads.dict ho hx.1 hd (by rw [e0]; exact .nil) (by rw [e0]; exact .nil), fun z => ?_⟩
      have z' : sysModules = a := by simpa using z
      rw [z'] at hne
      simp at hne
theorem RpAll.reads (hsys : ∃ o, X.base.get? sysModules = some o) (I : Inv X pins σ H s) : ∀ (ds : List PyData) (vs : List V) (us : List Value), RpAll H vs ds → Vals vs us → ∃ as, ReadsAll s.heap us ds as ∧ sysModules ∉ as
  | [], _, _, h, r => by cases h; cases r; exact ⟨_, ReadsAll.nil, by simp⟩
  | d :: ds, _, _, h, r => by
    cases h with
    | cons h1 h2 =>
      cases r with
      | cons r1 r2 =>
        obtain ⟨as, q1, n1⟩ := Rp.reads hsys I d _ _ h1 r1
        obtain ⟨bs, q2, n2⟩ := RpAll.reads hsys I ds _ _ h2 r2
        exact ⟨_, ReadsAll.cons q1 q2, fun z => (List.mem_append.mp z).elim n1 n2⟩
end
end
/-! ### how long a thing is, shown -/
theorem piled_le {ts : List Str} : ∀ {ds : List PyData}, ts = PyData.shownAll ds → (∀ d ∈ ds, d.shown.length ≤ wt d) → piled ts ≤ wtAll ds
  | [], e, _ => by rw [e]; exact Nat.le_refl 0
  | d :: ds, e, h => by
    have ih := piled_le (ts := PyData.shownAll ds) rfl fun x hx => h x (List.mem_cons_of_mem _ hx)
    have h1 := h d List.mem_cons_self
    rw [e]
    show d.shown.length + 2 + piled (PyData.shownAll ds) ≤ wt d + 2 + wtAll ds
    omega
theorem list_len (ts : List Str) : (listText ts).length ≤ piled ts + 2 := by
  cases ts with
  | nil => decide +kernel
  | cons t r =>
    have h := textFrom_length_pos r 1 (("[" : Str) ++ (if (0 : Nat) > 0 then ", " else "" : String) ++ t) (Nat.succ_pos 0)
    have hX : (listText (t :: r)).length = (textFrom 1 (("[" : Str) ++ (if (0 : Nat) > 0 then ", " else "" : String) ++ t) r).length + 1 := by
      show (textFrom 1 _ r ++ "]").length = _
      rw [Str.length_append]
      rfl
    have e1 : ((("[" : Str) ++ (if (0 : Nat) > 0 then ", " else "" : String) ++ t) : Str).length = 1 + t.length := by
      rw [Str.length_append, Str.length_append]
      rfl
    have e2 : piled (t :: r) = t.length + 2 + piled r := rfl
    omega
theorem tuple_len (ts : List Str) : (tupleText ts).length ≤ piled ts + 3 := by
  have h : (Str.join ", " ts).length ≤ piled ts := by
    by_cases e : ts = []
    · rw [e]; decide +kernel
    · have := join_length_add ts e
      omega
  unfold tupleText
  rw [Str.length_append, Str.length_append]
  have h1 : (("(" : Str)).length = 1 := by decide +kernel
  have h2 : ((if ts.length == 1 then ",)" else ")" : String) : Str).length ≤ 2 := by
    split <;> decide +kernel
  omega
mutual
theorem shown_le : ∀ d : PyData, wt d ≤ 10000000 → d.showable = true → d.shown.length ≤ wt d
  | .none, _, _ => by decide +kernel
  | .bool b, _, _ => by cases b <;> decide +kernel
  | .int i, _, _ => by
    have h := int_text_length_le (a := i) (k := i.natAbs.log2 + 1) (Nat.succ_pos _) (Nat.lt_succ_self _)
    show (Str.ofString (toString i)).length ≤ i.natAbs.log2 + 4
    rw [PySem.ofString_length]
    omega
  | .str x, _, _ => Nat.le_refl _
  | .list ds, h, s => by
    have h1 := shown_all ds (by have : wt (.list ds) = wtAll ds + 4 := rfl; omega) (by simpa [PyData.showable] using s)
    have h2 := piled_le rfl h1
    have h3 := list_len (PyData.shownAll ds)
    show (listText (PyData.shownAll ds)).length ≤ wtAll ds + 4
    omega
  | .tuple ds, h, s => by
    have h1 := shown_all ds (by have : wt (.tuple ds) = wtAll ds + 4 := rfl; omega) (by simpa [PyData.showable] using s)
    have h2 := piled_le rfl h1
    have h3 := tuple_len (PyData.shownAll ds)
    show (tupleText (PyData.shownAll ds)).length ≤ wtAll ds + 4
    omega
  | .dict [], _, _ => by decide +kernel
  | .dict (x :: kvs), h, _ => by
    have : wt (.dict (x :: kvs)) = (kvs.length + 1) * 100000000 + 2 := rfl
    omega
theorem shown_all : ∀ ds : List PyData, wtAll ds ≤ 10000000 → PyData.showableAll ds = true → ∀ d ∈ ds, d.shown.length ≤ wt d
  | [], _, _, d, hd => nomatch hd
  | x :: ds, h, s, d, hd => by
    have e : wtAll (x :: ds) = wt x + 2 + wtAll ds := rfl
    have s' : x.showable = true ∧ PyData.showableAll ds = true := by simpa [PyData.showableAll] using s
    rcases List.mem_cons.mp hd with z | z
    · rw [z]
      exact shown_le x (by omega) s'.1
    · exact shown_all ds (by omega) s'.2 d z
end
/-! ### repr(x) of a list or a tuple -/
theorem call_reprD {X : Cx} {k : Nat} (hg : X.A.guards = some []) (hr : Room k X.A) (hsys : ∃ o, X.base.get? sysModules = some o) :
    CallR X (.builtin "repr") (fun xs H Q => ∃ v d a, xs = [v] ∧ v = .ref a ∧ Rp H v d ∧ B 100 10000000 d ∧ Q (.str d.shown) H) := by
  intro pins s σ H xs us Q I r h
  obtain ⟨v, d, a, rfl, rfl, hR, hB, q⟩ := h
  obtain ⟨u, rfl, rx⟩ := vals1 r
  obtain ⟨as, hrd, hno⟩ := Rp.reads hsys I d _ _ hR rx
  cases rx
  refine repr_of_reads' hrd hB.sh (fun _ => hno) hg (by have := hr.un; have := hB.dp; omega) (fun _ _ e => e) (fun h' u tk hk => ⟨.str _, H, I.kept hk, ⟨_, rfl⟩, q⟩) ?_
  have h1 := shown_le d hB.wt hB.sh
  have h2 := hB.wt
  rw [sizeLine_eq]
  omega
structure CalG (P : Program) (w : World) (K : PySem.W.Frag) (mg : Str → Option Value) (base : Heap) (k : Nat) (x : Str) (ps : List Str) (sp : Sp) : Prop where
  ex : ∃ f fd, mg x = some (.ref f) ∧ PySem.W.keepIn K (.ref f) = true ∧ Binds K fd ps [] ∧ FnG P w K mg base k f fd ps sp
theorem pe_calG {X : Cx} {k : Nat} {x : Str} {ps : List Str} {sp : Sp} {p pos : Pos} {e : Expr} {es : List Expr} {t : TA} (C : CalG X.prog X.w X.K X.mg X.base k x ps sp) (hgd : X.A.guards = some []) (len : ∀ vs H Q E, sp vs H Q E → vs.length = ps.length) (hr : Room k X.A) (hg : Gl X x) (ha : PA X (e :: es) t) (hdb : (x == ("__debug__" : Str)) = false := by decide)
    (he : starEach (e :: es) X.env = (false, eval e X.env) :: starEach es X.env := by rfl) (hpl : (backTo pos (starEach es X.env)).any (·.1) = false := by rfl) : PE X (.Call (.Name x p) (e :: es) [] pos) (tCall sp [] E0 t) := by
  obtain ⟨f, fd, h1, h2, h3, h4⟩ := C.ex
  refine ⟨fun pins s σ H Q I h => wpAny_Call_Name_kw (ld_glob I hg h1 ?_ hdb)⟩
  have run := ha.run pos pins s σ H _ I h
  refine PySem.W.callWith_K (h₀ := X.base) I.ok.mod.kin h2 (thn run fun us s1 ⟨vs, H1, I1, r, q⟩ => ⟨I1.kIn, ?_⟩) he hpl
  have q : sp (vs ++ []) H1 Q E0 := q
  rw [List.append_nil] at q
  have b := h3 s1 us I1.kIn (by rw [List.append_nil, ← r.length]; exact len _ _ _ _ q)
  rw [List.append_nil] at b
  exact wpAny_call (codeAny_mono (h4.run X.A X.stack s1 H1 ⟨us, []⟩ us vs Q E0 hgd hr I1.env0 b r q) fun z s' hz => match z, hz with
    | .ok (.ret _), hz => I1.after hz
    | .error e, hz => pass0 pins σ H1 s1 e s' I1 hz)
/-! ### repr of None, a number, a list or a tuple -/
theorem call_reprA {X : Cx} {k : Nat} (hg : X.A.guards = some []) (hr : Room k X.A) (hsys : ∃ o, X.base.get? sysModules = some o) :
    CallR X (.builtin "repr") (fun xs H Q => ∃ v d, xs = [v] ∧ Rp H v d ∧ B 100 1000 d ∧ Q (.str d.shown) H) := by
  intro pins s σ H xs us Q I r h
  obtain ⟨v, d, rfl, hR, hB, q⟩ := h
  have rest : ∀ a, v = .ref a → wpAny (model X.prog X.w) X.A (call (.builtin "repr") us) (EP X pins σ Q) X.xe s := fun a e =>
    call_reprD hg hr hsys pins s σ H [v] us Q I r ⟨v, d, a, rfl, e, hR, hB.mono (by decide) (by decide), q⟩
  obtain ⟨u, rfl, rx⟩ := vals1 r
  cases hR with
  | non => cases rx; exact PySem.P.repr_of_none ⟨.str _, H, I.tok _, ⟨_, rfl⟩, q⟩
  | bl b => cases rx; exact PySem.P.repr_of_bool ⟨.str _, H, I.tok _, ⟨_, rfl⟩, q⟩
  | int i =>
    obtain ⟨t, rfl⟩ := (show ∃ t, u = Value.int i t from rx)
    exact PySem.P.repr_of_int (by have := hB.sh; simpa [PyData.showable] using this) ⟨.str _, H, I.tok _, ⟨_, rfl⟩, q⟩
  | str x =>
    obtain ⟨t, rfl⟩ := (show ∃ t, u = Value.str x t from rx)
    exact PySem.P.repr_of_str ⟨.str _, H, I.tok _, ⟨_, rfl⟩, q⟩ (by have h1 : (reprText x).length ≤ 1000 := hB.wt; rw [sizeLine_eq]; omega)
  | lst h1 h2 => exact rest _ rfl
  | tup h1 h2 => exact rest _ rfl
  | dct h1 => exact rest _ rfl
end CL
set_option Elab.async false
set_option linter.all false
set_option maxRecDepth 100000
set_option maxHeartbeats 4000000
namespace CL
open PySem PySem.Spec PyProof.Rows L2 GE
abbrev sDeed : Stmt := topS 40
abbrev nDeed : List Str := ["bag", "deeds", "most", "stand", "deed"]
theorem scDeed : FnScope nDeed ["bag", "deeds", "most"] (defScope sDeed) := ⟨rfl, rfl, rfl, by decide +kernel, rfl, by decide +kernel, by decide +kernel⟩
theorem ixT_blk {X : Cx} {s : Shared} {H : Hp} {scope : Scope} {cenv : Env} {fp : List Addr} : IxR (X.blk s H scope cenv fp) (rIxT X.K) := ix_tup
theorem dget_blk {X : Cx} {s : Shared} {H : Hp} {scope : Scope} {cenv : Env} {fp : List Addr} {o i : Expr} {td ty : TE} {pos : Pos} (hu : X.A.units + 1 < cLine) (ho : PE (X.blk s H scope cenv fp) o td) (hi : PE (X.blk s H scope cenv fp) i ty) (hs : NoSl i) : PE (X.blk s H scope cenv fp) (.Subscript o i pos) (tDGet td ty) := pe_dget hu ho hi hs
def sgn : Deed → Int
  | .come _ => 1
  | .serve => -1
theorem foldl_cnt : ∀ (ds : List Deed) (s : LS), ((ds.foldl stepS s).ps.length : Int) - (ds.foldl stepS s).sv.length = (s.ps.length : Int) - s.sv.length + (ds.map sgn).sum
  | [], s => by simp
  | d :: ds, s => by
    show (((ds.foldl stepS (stepS s d))).ps.length : Int) - ((ds.foldl stepS (stepS s d))).sv.length = _
    rw [foldl_cnt ds, List.map_cons, List.sum_cons]
    cases d with
    | come p =>
      have hps : (stepS s (.come p)).ps.length = s.ps.length + 1 := by show (bump _ _ ++ [0]).length = _; rw [List.length_append, bump_len]; rfl
      have hsv : (stepS s (.come p)).sv.length = s.sv.length := rfl
      rw [hps, hsv]
      show _ = _ + ((1 : Int) + _)
      omega
    | serve =>
      have hps : (stepS s .serve).ps.length = s.ps.length := rfl
      have hsv : (stepS s .serve).sv.length = s.sv.length + 1 := by show (s.sv ++ [_]).length = _; rw [List.length_append]; rfl
      rw [hps, hsv]
      show _ = _ + ((-1 : Int) + _)
      omega
theorem Vd.sum {ds : List Deed} (h : Vd ds) : (ds.map sgn).sum = ((stF ds).xs.length : Int) := by
  have h1 := foldl_cnt ds LS.nil
  have h2 := h.ok.tot
  have e : ds.foldl stepS LS.nil = stF ds := rfl
  rw [e] at h1
  have z1 : LS.nil.ps.length = 0 := rfl
  have z2 : LS.nil.sv.length = 0 := rfl
  rw [z1, z2] at h1
  omega
def OkD (d : Deed) : Prop := ∀ p, d = .come p → isPatience (optD p) = true
def spDeed (r : Bg) : Sp := fun vs H Q _ => ∃ (A : Addr) (ws : List V) (ds : List Deed) (m : Int) (n : Nat), vs = [.ref r.a, .ref A, .int m] ∧ BagAt n H r ∧ n + 5 < M60 ∧ 2 ≤ m ∧ m ≤ GREAT ∧ H A = some (.lst ws) ∧ All2 (DeedV H) ws ds ∧ Vd ds ∧ ds.length ≤ 300 ∧
  ∀ t d H', BagAt (n + 5) H' r → Mv r H H' → DeedV H' (.ref t) d → Vd (ds ++ [d]) → OkD d → Q (.ref t) H'
section
variable {P : Program} {w : World} {K : PySem.W.Frag} {mg : Str → Option Value} {base : Heap} {C : Addr}
theorem ok_deed {f : Addr} {r : Bg} {fd : FuncData} (F : Fun K "_law_deed" "_law_deed" sDeed f fd) (hsum : mg "sum" = none) (CD : Cal P w K mg base 2 "_law_draw" ["bag", "many"] (spDraw r)) (CPL : Cal P w K mg base 3 "_law_patience" ["bag", "most"] (spPatL r)) : FnOk P w K mg base CX0 4 f fd ["bag", "deeds", "most"] (spDeed r) := by
  refine F.ok scDeed (fun vs H Q E ⟨A, ws, ds, m, n, e, _⟩ => by rw [e]; rfl) (fun cdv A' outer s H vs Q E hr h => ?_)
  obtain ⟨A, ws, ds, m, n, rfl, hb, hn, hm2, hmG, eA, hws, hv, hl, q⟩ := h
  have nd := scDeed.nd
  refine ⟨_, (pss_cons (ps_set (i := 3) nd rfl (.inl rfl) (pe_callB (cr_sum rfl) (by rfl) hsum (by decide +kernel) (pa_cons (pe_lc (own := [("deed", 4)]) (g := gName 4) (tt := tYes) rfl nd (pi_list (pv 1)) (blkOk_by (own := [("deed", 4)]) (N := nDeed) (sc := defScope sDeed) (by decide +kernel)) (fun _ _ _ _ _ => pg_name (i := 4) nd rfl (Or.inl rfl)) (fun _ _ _ _ _ => pts_nil) (fun _ _ _ _ _ => pe_ifExp (pt_cmpR op_eq (pe_ix ixT_blk (pv 4) pe_int (fun _ _ => rfl)) pe_str (nomark _)) pe_int (pe_un un_neg pe_int))) pa_nil)))
      (pss_cons (ps_if (PW.pt (pw_and (pt_cmpR op_gt (pv 3) pe_int (nomark _)) (pw_and1 (pt_cmpR op_eq (pe_cal CD (hr.mono (by decide)) (by rfl) (pa_cons (pv 0) (pa_cons pe_int pa_nil))) pe_int (nomark _))))) (pss_one (ps_ret (pe_tup (pa_cons pe_str pa_nil)))) pss_nil)
      (pss_one (ps_ret (pe_tup (pa_cons pe_str (pa_cons (pe_cal CPL (hr.mono (by decide)) (by rfl) (pa_cons (pv 0) (pa_cons (pv 2) pa_nil))) pa_nil))))))), ?_⟩
  have hwl := hws.length
  refine ⟨.ref A, rfl, A, rfl, ⟨_, SqL.of eA⟩, fun D nD => ?_⟩
  refine lc_list (K := K) (a := A) (xs := ws) (fun i H3 => (∀ b o, b ≠ D → H b = some o → H3 b = some o) ∧ H3 D = some (.lst (((ds.take i).map sgn).map V.int)))
    ⟨fun b o nb e => by rw [upd_ne nb]; exact e, upd_same⟩ (fun i H3 _ ⟨m3, _⟩ => SqL.of (m3 _ _ (fun z => by rw [z, nD] at eA; cases eA) eA)) (fun i v H3 hi ⟨m3, eD⟩ => ?_) (fun H3 ⟨m3, eD⟩ => ?_)
  · obtain ⟨d, hd, hdv⟩ := hws.get hi
    have hil := (List.getElem?_eq_some_iff.mp hd).1
    have hsn : (((ds.take (i + 1)).map sgn).map V.int) = ((ds.take i).map sgn).map V.int ++ [V.int (sgn d)] := by rw [List.take_add_one, hd, List.map_append, List.map_append]; rfl
    have fin : ∀ {acc : List V}, acc = ((ds.take i).map sgn).map V.int → H3 D = some (.lst acc) ∧ acc.length < sizeLine ∧ ((∀ b o, b ≠ D → H b = some o → (upd H3 D (.lst (acc ++ [V.int (sgn d)]))) b = some o) ∧ (upd H3 D (.lst (acc ++ [V.int (sgn d)]))) D = some (.lst (((ds.take (i + 1)).map sgn).map V.int))) := fun {acc} e => by
      subst e
      exact ⟨eD, by rw [List.length_map, List.length_map, List.length_take]; exact small1000 (by omega), fun b o nb e => by rw [upd_ne nb]; exact m3 b o nb e, by rw [upd_same, hsn]⟩
    cases d with
    | come p =>
      obtain ⟨t, rfl, et⟩ := hdv
      have et3 := m3 t _ (fun z => by rw [z, nD] at et; cases et) et
      refine ⟨rfl, yesT ⟨.ref t, rfl, t, _, 0, .str "come", rfl, rfl, SqT.of et3, atI_nat (j := 0) rfl, rfl, _, rfl, ite2 (fun _ => ?_) (fun y => absurd (decide_eq_true rfl) y)⟩⟩
      exact ⟨_, fin rfl⟩
    | serve =>
      obtain ⟨t, rfl, et⟩ := hdv
      have et3 := m3 t _ (fun z => by rw [z, nD] at et; cases et) et
      refine ⟨rfl, yesT ⟨.ref t, rfl, t, _, 0, .str "serve", rfl, rfl, SqT.of et3, atI_nat (j := 0) rfl, rfl, _, rfl, ite2 (fun y => absurd (of_decide_eq_true y) (fun z => word_ne (by injection z))) (fun _ => ?_)⟩⟩
      exact ⟨1, rfl, _, fin rfl⟩
  · rw [hwl, List.take_length] at eD
    have s3 : Same H H3 := fun b o e => m3 b o (fun z => by rw [z, nD] at e; cases e) e
    refine ⟨D, (ds.map sgn), rfl, SqL.of eD, ?_⟩
    rw [hv.sum]
    have b3 := hb.same s3
    dsimp only [gName]
    show tSeq _ _ _ [some (.ref r.a), some (.ref A), some (.int m), some (.int ((stF ds).xs.length : Int)), none] H3
    have COME : ∀ (H4 : Hp) (k : Nat), BagAt k H4 r → k ≤ n + 1 → Mv r H H4 → tRet (tTup (tCons (tC (.str "come")) (tCons (tCall (spPatL r) [] E0 (tCons (tVar 0) (tCons (tVar 2) tNil))) tNil))) { nx := fun _ H' => Q .non H', rt := Q } [some (.ref r.a), some (.ref A), some (.int m), some (.int ((stF ds).xs.length : Int)), none] H4 := fun H4 k b4 hk v4 => by
      refine ⟨.ref r.a, rfl, .int m, rfl, m, k, rfl, b4, by omega, hm2, hmG, fun o H5 b5 v5 hp _ => ⟨small_le (by show 2 ≤ 1000; decide), fun t nt => ?_⟩⟩
      exact q t (.come o) _ ((b5.same (same_upd nt)).mono (by omega)) ((v4.trans v5).trans (Mv.of (same_upd nt))) ⟨t, rfl, upd_same⟩ (hv.come o) (fun p e => by cases e; exact hp)
    refine ⟨.int ((stF ds).xs.length : Int), rfl, _, _, rfl, rfl, _, rfl, ite2 (fun y => ?_) (fun _ => COME H3 n b3 (by omega) (Mv.of s3))⟩
    have hx : (stF ds).xs ≠ [] := fun z => by
      have y := of_decide_eq_true y
      rw [z] at y
      exact absurd y (by decide)
    refine ⟨.ref r.a, rfl, 4, n, rfl, b3, by omega, by decide, by decide, fun x H4 b4 v4 _ _ => ⟨rfl, _, rfl, ite2 (fun _ => ?_) (fun _ => COME H4 (n + 1) b4 (Nat.le_refl _) ((Mv.of s3).trans v4))⟩⟩
    refine ⟨small_le (by show 1 ≤ 1000; decide), fun t nt => ?_⟩
    exact q t .serve _ ((b4.same (same_upd nt)).mono (by omega)) (((Mv.of s3).trans v4).trans (Mv.of (same_upd nt))) ⟨t, rfl, upd_same⟩ (hv.serve hx) (fun p e => by cases e)
end
end CL
set_option Elab.async false
set_option linter.all false
set_option maxRecDepth 100000
set_option maxHeartbeats 4000000
namespace CL
open PySem PySem.Spec PyProof.Rows L2 GE
def iSeqW (K : PySem.W.Frag) (tl : TE) : TI := fun σ H R => tl σ H fun x H1 => ∃ a xs, x = .ref a ∧ StSeq H1 a xs ∧ ∀ J, (∀ H2, (∀ o, H1 a = some o → H2 a = some o) → StandsAs K a xs J H2) → R J H1
theorem pi_seqW {X : Cx} {tg l : Expr} {tl : TE} (hl : PE X l tl) : PI X tg l (iSeqW X.K tl) := by
  refine ⟨fun pins s σ H R I h => thn (hl.run pins s σ H _ I h) fun v s1 ⟨x, H1, I1, r1, a, xs, e, st, q⟩ => ?_⟩
  subst e
  cases r1
  have new : ∀ b ∈ [s1.heap.objs.size], FpOk X pins H1 b := fun b hb => by
    rw [List.mem_singleton.mp hb]
    exact I1.fpOk (Nat.le_refl _) (I1.hok.fresh (Nat.le_refl _))
  have kept := fun {o : Obj} => I1.kept (h' := s1.heap.push o) (t' := s1.toks) fun b o' e => Heap.get?_push_of_some _ e
  rcases st.or with hq | hq
  · obtain ⟨its, rv, p, hz⟩ := I1.list (SqL.of hq)
    exact wpAny_pyIter_list p.isList ⟨s1.heap.objs.size, [s1.heap.objs.size], _, _, H1, rfl, kept, turn_list a _, ⟨_, Heap.get?_push_size _ rfl, rfl, rfl⟩, new, q _ fun H2 e => .inl ⟨rfl, SqL.of (e _ hq)⟩⟩
  · obtain ⟨its, rv, p, hz⟩ := I1.tuple (SqT.of hq)
    exact wpAny_pyIter_tuple (show s1.heap.IsTuple a its.toArray from p) ⟨s1.heap.objs.size, [s1.heap.objs.size], _, _, H1, rfl, kept, turn_tuple a _, ⟨_, Heap.get?_push_size _ rfl, rfl, rfl⟩, new, q _ fun H2 e => .inr ⟨rfl, SqT.of (e _ hq)⟩⟩
theorem for_seq {K : PySem.W.Frag} {a : Addr} {xs : List V} {J : It} {g : TG} {tb : TS} {D : Ends} {σ : L2.St} {H : Hp} (Pv : Nat → L2.St → Hp → Prop) (h0 : Pv 0 σ H) (hl : ∀ i σ H, Pv i σ H → StandsAs K a xs J H)
    (hs : ∀ i x σ H, xs[i]? = some x → Pv i σ H → g x σ H fun σ2 H2 => tb { D with nx := Pv (i + 1), ct := Pv (i + 1), bk := D.nx } σ2 H2) (hd : ∀ σ H, Pv xs.length σ H → D.nx σ H) :
    ∃ W : Nat → Nat → L2.St → Hp → Prop, (∃ m, W 0 m σ H) ∧ ∀ i m σ H, W i m σ H →
      (J.stop i H ∧ D.nx σ H) ∨ (J.go i H ∧ ∃ N : L2.St → Hp → Prop, (∀ σ' H', N σ' H' → ∃ m', m' < m ∧ W (i + 1) m' σ' H') ∧ ∀ x H', J.yld i H x H' → g x σ H' fun σ2 H2 => tb { D with nx := N, ct := N, bk := D.nx } σ2 H2) := by
  refine ⟨fun i m σ H => m + i = xs.length ∧ Pv i σ H, ⟨xs.length, rfl, h0⟩, ?_⟩
  rintro i m σ H ⟨hm, p⟩
  have s := hl i σ H p
  cases m with
  | zero =>
    obtain rfl : i = xs.length := by omega
    exact .inl ⟨s.stop (Nat.le_refl _), hd σ H p⟩
  | succ m =>
    have lt : i < xs.length := by omega
    refine .inr ⟨s.go (List.getElem?_eq_getElem lt), Pv (i + 1), fun σ' H' p' => ⟨m, Nat.lt_succ_self m, by omega, p'⟩, fun x H' y => ?_⟩
    obtain ⟨rfl, hx⟩ := s.yld y
    exact hs i x σ _ hx p
theorem walk_seq {K : PySem.W.Frag} {a : Addr} {xs : List V} {J : It} {G : Hp → Prop} (h : ∀ H, G H → StandsAs K a xs J H) : Walk J xs.length G (YAt xs) :=
  ⟨fun i H hi g => (h H g).go (List.getElem?_eq_getElem hi), fun H g => (h H g).stop (Nat.le_refl _), fun i H x H' _ g y => (h H g).yld y⟩
abbrev sRow : Stmt := topS 20
abbrev sIsDeed : Stmt := topS 27
abbrev sIsCom : Stmt := topS 28
abbrev sIsHist : Stmt := topS 29
abbrev sLineOf : Stmt := topS 30
theorem scRow : FnScope ["thing"] ["thing"] (defScope sRow) := ⟨rfl, rfl, rfl, by decide +kernel, rfl, by decide +kernel, by decide +kernel⟩
theorem scIsDeed : FnScope ["thing", "word", "many"] ["thing", "word", "many"] (defScope sIsDeed) := ⟨rfl, rfl, rfl, by decide +kernel, rfl, by decide +kernel, by decide +kernel⟩
theorem scIsCom : FnScope ["thing"] ["thing"] (defScope sIsCom) := ⟨rfl, rfl, rfl, by decide +kernel, rfl, by decide +kernel, by decide +kernel⟩
theorem scIsHist : FnScope ["thing", "standing", "deed"] ["thing"] (defScope sIsHist) := ⟨rfl, rfl, rfl, by decide +kernel, rfl, by decide +kernel, by decide +kernel⟩
theorem scLineOf : FnScope ["history", "line", "deed"] ["history"] (defScope sLineOf) := ⟨rfl, rfl, rfl, by decide +kernel, rfl, by decide +kernel, by decide +kernel⟩
/-! ### deeds, as data -/
def headIs (w : Str) : List PyData → Bool
  | .str z :: _ => decide (z = w)
  | _ => false
def isDeedD (d : PyData) (w : Str) (m : Nat) : Bool := match rowsD d with
  | some ds => decide (ds.length = m) && headIs w ds
  | none => false
def sndP : PyData → PyData := fun d => match rowsD d with
  | some (_ :: p :: _) => p
  | _ => .none
def isComD (d : PyData) : Bool := isDeedD d "come" 2 && isPatience (sndP d)
/-- how many stand behind so many deeds, none where they can't be done -/
def standF : List PyData → Nat → Option Nat
  | [], n => some n
  | d :: ds, n => if isComD d = true then standF ds (n + 1) else if isDeedD d "serve" 1 = true then (if 0 < n then standF ds (n - 1) else none) else none
def isHistD (d : PyData) : Bool := match rowsD d with
  | some ds => (standF ds 0).isSome
  | none => false
def patOf : PyData → Option Int
  | .int i => some i
  | _ => none
def toDeed (d : PyData) : Deed := if isComD d = true then .come (patOf (sndP d)) else .serve
theorem pat_of {d : PyData} (h : isPatience d = true) : d = optD (patOf d) ∧ isPatience (optD (patOf d)) = true := by
  cases d with
  | none => exact ⟨rfl, rfl⟩
  | int i => exact ⟨rfl, h⟩
  | _ => cases h
def isStrB : PyData → Bool
  | .str _ => true
  | _ => false
theorem kit_str {K : PySem.W.Frag} (d : PyData) : PySem.W.kitOne K (.type (tyName d)) (.type "str") = some (isStrB d) := by cases d <;> (refine kit_ty ?_; dsimp only [tyName, isStrB]; decide +kernel)
theorem rix_of {K : PySem.W.Frag} {H : Hp} {a : Addr} {xs : List V} {i : Nat} {v : V} {Q : VK} (h : H a = some (.lst xs) ∨ H a = some (.tup xs)) (e : xs[i]? = some v) (q : Q v H) : rIx K (.ref a) (.int (i : Int)) H Q := by
  rcases h with h | h
  · exact .inl ⟨a, xs, (i : Int), v, rfl, rfl, SqL.of h, atI_nat e, q⟩
  · exact .inr (.inl ⟨a, xs, (i : Int), v, rfl, rfl, SqT.of h, atI_nat e, q⟩)
/-- == of a text and what is there -/
def spIsDeed : Sp := fun vs H Q _ => ∃ (v : V) (d : PyData) (w : Str) (m : Nat), vs = [v, .str w, .int (m : Int)] ∧ Rp H v d ∧ 1 ≤ m ∧ ∀ H', Same H H' → Q (.bl (isDeedD d w m)) H'
theorem comD_toDeed {d : PyData} (h : isComD d = true) : ∃ p, toDeed d = .come p ∧ isPatience (optD p) = true ∧ sndP d = optD p := by
  have h2 : isPatience (sndP d) = true := by
    unfold isComD at h
    rw [Bool.and_eq_true] at h
    exact h.2
  obtain ⟨e1, e2⟩ := pat_of h2
  exact ⟨patOf (sndP d), by unfold toDeed; rw [if_pos h], e2, e1⟩
theorem comD_rows {d : PyData} (h : isComD d = true) : ∃ w p, rowsD d = some [w, p] ∧ sndP d = p := by
  unfold isComD isDeedD at h
  rw [Bool.and_eq_true] at h
  cases q : rowsD d with
  | none => rw [q] at h; cases h.1
  | some ds =>
    rw [q] at h
    have h1 := h.1
    simp only [Bool.and_eq_true, decide_eq_true_eq] at h1
    match ds, h1.1 with
    | [w, p], _ => exact ⟨w, p, rfl, by unfold sndP; rw [q]⟩
/-- a history, and what its deeds come to -/
theorem standF_ok : ∀ (ds : List PyData) (es : List Deed) (k : Nat), Vd es → (standF ds (stF es).xs.length) = some k → Vd (es ++ ds.map toDeed)
  | [], es, k, hv, _ => by rw [List.map_nil, List.append_nil]; exact hv
  | d :: ds, es, k, hv, h => by
    have e1 : es ++ (d :: ds).map toDeed = (es ++ [toDeed d]) ++ ds.map toDeed := by simp
    rw [e1]
    unfold standF at h
    have hl := hv.ok.len
    by_cases c : isComD d = true
    · rw [if_pos c] at h
      obtain ⟨p, e2, _, _⟩ := comD_toDeed c
      rw [e2]
      refine standF_ok ds (es ++ [.come p]) k (hv.come p) ?_
      rw [stF_snoc]
      have : (stepS (stF es) (.come p)).xs.length = (stF es).xs.length + 1 := by
        obtain ⟨g1, _⟩ := goes_le (stF es).rs.length (stF es).rs
        show (_ ++ _ :: _).length = _
        rw [List.length_append, List.length_cons, List.length_take, List.length_drop]
        omega
      rw [this]
      exact h
    · rw [if_neg c] at h
      by_cases c2 : isDeedD d "serve" 1 = true
      · rw [if_pos c2] at h
        by_cases c3 : 0 < (stF es).xs.length
        · rw [if_pos c3] at h
          have e2 : toDeed d = .serve := by unfold toDeed; rw [if_neg c]
          rw [e2]
          refine standF_ok ds (es ++ [.serve]) k (hv.serve fun z => by rw [z] at c3; exact absurd c3 (by decide)) ?_
          rw [stF_snoc]
          have : (stepS (stF es) .serve).xs.length = (stF es).xs.length - 1 := by
            show (stF es).xs.tail.length = _
            rw [List.length_tail]
          rw [this]
          exact h
        · rw [if_neg c3] at h; cases h
      · rw [if_neg c2] at h; cases h
theorem standF_take : ∀ (ds : List PyData) (n : Nat) (i : Nat), (standF ds n).isSome = true → (standF (ds.take i) n).isSome = true
  | [], n, i, h => by rw [List.take_nil]; exact h
  | d :: ds, n, 0, h => rfl
  | d :: ds, n, i + 1, h => by
    rw [List.take_succ_cons]
    unfold standF at h ⊢
    by_cases c : isComD d = true
    · rw [if_pos c] at h ⊢; exact standF_take ds _ i h
    · rw [if_neg c] at h ⊢
      by_cases c2 : isDeedD d "serve" 1 = true
      · rw [if_pos c2] at h ⊢
        by_cases c3 : 0 < n
        · rw [if_pos c3] at h ⊢; exact standF_take ds _ i h
        · rw [if_neg c3] at h; cases h
      · rw [if_neg c2] at h; cases h
def spLineOf (C : Addr) : Sp := fun vs H Q _ => ∃ (v : V) (d : PyData) (ds : List PyData), vs = [v] ∧ Rp H v d ∧ rowsD d = some ds ∧ (standF ds 0).isSome = true ∧ ds.length ≤ 310 ∧
  ∀ (L : LnA) H', Same H H' → (∀ b, L.has b → H b = none) → LineAt C H' L (stF (ds.map toDeed)) → Vd (ds.map toDeed) → Q (.ref L.o) H'
section
variable {P : Program} {w : World} {K : PySem.W.Frag} {mg : Str → Option Value} {base : Heap} {C : Addr}
theorem ok_row {f : Addr} {fd : FuncData} (F : Fun K "is_row" "is_row" sRow f fd) (T : Nm mg) (htup : mg "tuple" = none) : FnOk P w K mg base CX0 1 f fd ["thing"] (spOne isRow) := by
  refine F.ok scRow spOne_len (fun cdv A outer s H vs Q E hr h => ?_)
  obtain ⟨v, d, rfl, hR, q⟩ := h
  refine ⟨_, pss_one (ps_ret (pe_callB call_isiT (by rfl) T.isi (by decide +kernel) (pa_cons (pv 0) (pa_cons (pe_tup (pa_cons (pe_bltn (v := .ty "list") (by rfl) T.list PyProof.Rows.boot_list rfl) (pa_cons (pe_bltn (v := .ty "tuple") (by rfl) htup PyProof.Rows.boot_tuple rfl) pa_nil))) pa_nil)))), ?_⟩
  refine ⟨v, rfl, by show 2 ≤ sizeLine; decide, fun p np => ⟨v, p, [.ty "list", .ty "tuple"], _, _, isRow d, rfl, upd_same, .cons (.ty _) (.cons (.ty _) .nil), (Rp.ex (Ex.new np) d v hR).ty, kit_rows d, q _ (same_upd np)⟩⟩
theorem ok_isDeed {f : Addr} {fd : FuncData} (F : Fun K "is_deed" "is_deed" sIsDeed f fd) (hT : Nm mg) (hstr : mg "str" = none) (CR : Cal P w K mg base 1 "is_row" ["thing"] (spOne isRow)) : FnOk P w K mg base CX0 2 f fd ["thing", "word", "many"] spIsDeed := by
  refine F.ok scIsDeed (fun vs H Q E ⟨v, d, z, m, e, _⟩ => by rw [e]; rfl) (fun cdv A outer s H vs Q E hr h => ?_)
  obtain ⟨v, d, z, m, rfl, hR, hm, q⟩ := h
  refine ⟨_, pss_one (ps_ret (pe_and (pe_cal CR (hr.mono (by decide)) (by rfl) (pa_cons (pv 0) pa_nil)) (pe_and (pe_cmpR op_eq (pe_callB call_len_seq (by rfl) hT.len PySem.boot_len (pa_cons (pv 0) pa_nil)) (pv 2) (nomark _)) (pe_and (pe_callB call_isi (by rfl) hT.isi (by decide +kernel) (pa_cons (pe_ix ix_seq (pv 0) pe_int (fun _ _ => rfl)) (pa_cons (pe_bltn (v := .ty "str") (by rfl) hstr PyProof.Rows.boot_str rfl) pa_nil))) (pe_one (pe_cmpR op_eq (pe_ix ix_seq (pv 0) pe_int (fun _ _ => rfl)) (pv 1) (nomark _))))))), ?_⟩
  refine ⟨v, rfl, v, d, rfl, hR, fun H1 s1 => ⟨isRow d, rfl, ite2 (fun e => ?_) (fun e => ?_)⟩⟩
  · have q1 := q H1 s1
    have hR1 := Rp.sm s1 hR
    obtain ⟨ds, hds⟩ : ∃ ds, rowsD d = some ds := Option.isSome_iff_exists.mp e
    obtain ⟨a, xs, rfl, hx, hso⟩ := hR1.rows hds
    have hl := hx.length
    have hv : isDeedD d z m = (decide (ds.length = m) && headIs z ds) := by unfold isDeedD; rw [hds]
    rw [hv] at q1
    refine ⟨.ref a, rfl, a, xs, rfl, hso.elim (fun h => .inl (SqL.of h)) (fun h => .inr (SqT.of h)), .int (m : Int), rfl, rfl, _, rfl, ?_⟩
    have ed : decide (V.int (xs.length : Int) = V.int (m : Int)) = decide (ds.length = m) := by
      rw [hl]
      by_cases c : ds.length = m
      · rw [c]; simp
      · have : ¬ (V.int (ds.length : Int) = V.int (m : Int)) := fun z => c (by injection z with z; omega)
        rw [decide_eq_false c, decide_eq_false this]
    rw [ed]
    refine ite2 (fun c => ?_) (fun c => ?_)
    · have c' := of_decide_eq_true c
      rw [c, Bool.true_and] at q1
      obtain ⟨x, xs', rfl⟩ : ∃ x xs', xs = x :: xs' := by
        cases xs with
        | nil =>
          have h0 : ([] : List V).length = 0 := rfl
          omega
        | cons x xs' => exact ⟨x, xs', rfl⟩
      cases hx with
      | @cons _ _ d0 ds0 h0 ht =>
        refine ⟨.ref a, rfl, rix_of (i := 0) hso rfl ⟨x, .ty "str", _, _, isStrB d0, rfl, .ty _, h0.ty, kit_str d0, isStrB d0, rfl, ite2 (fun e2 => ?_) (fun e2 => ?_)⟩⟩
        · cases h0 with
          | str y =>
            refine ⟨.ref a, rfl, rix_of (i := 0) hso rfl ⟨.str z, rfl, rfl, ?_⟩⟩
            have e3 : decide (V.str y = V.str z) = decide (y = z) := by
              by_cases c : y = z
              · rw [c]; simp
              · have : ¬ (V.str y = V.str z) := fun q => c (by injection q)
                rw [decide_eq_false c, decide_eq_false this]
            rw [e3]
            exact q1
          | _ => exact absurd e2 Bool.false_ne_true
        · have e3 : headIs z (d0 :: ds0) = false := by
            cases h0 with
            | str y => exact absurd rfl e2
            | _ => rfl
          rw [e3] at q1
          exact q1
    · have c' : decide (ds.length = m) = false := Bool.eq_false_iff.mpr c
      rw [c', Bool.false_and] at q1
      exact q1
  · have hd : rowsD d = none := by
      cases z : rowsD d with
      | none => rfl
      | some ds => exact absurd (show isRow d = true by unfold isRow; rw [z]; rfl) e
    have q1 := q H1 s1
    have hv : isDeedD d z m = false := by unfold isDeedD; rw [hd]
    rw [hv] at q1
    exact q1
theorem ok_isCom {f : Addr} {fd : FuncData} (F : Fun K "is_coming" "is_coming" sIsCom f fd) (CD : Cal P w K mg base 2 "is_deed" ["thing", "word", "many"] spIsDeed) (CP : Cal P w K mg base 2 "is_patience" ["thing"] (spOne isPatience)) : FnOk P w K mg base CX0 3 f fd ["thing"] (spOne isComD) := by
  refine F.ok scIsCom spOne_len (fun cdv A outer s H vs Q E hr h => ?_)
  obtain ⟨v, d, rfl, hR, q⟩ := h
  refine ⟨_, pss_one (ps_ret (pe_and (pe_cal CD (hr.mono (by decide)) (by rfl) (pa_cons (pv 0) (pa_cons pe_str (pa_cons pe_int pa_nil)))) (pe_one (pe_cal CP (hr.mono (by decide)) (by rfl) (pa_cons (pe_ix ix_seq (pv 0) pe_int (fun _ _ => rfl)) pa_nil))))), ?_⟩
  refine ⟨v, rfl, v, d, "come", 2, rfl, hR, by decide, fun H1 s1 => ⟨_, rfl, ite2 (fun e => ?_) (fun e => ?_)⟩⟩
  · have hR1 := Rp.sm s1 hR
    have h2 : ∃ x p, rowsD d = some [x, p] := by
      unfold isDeedD at e
      cases z : rowsD d with
      | none => rw [z] at e; cases e
      | some ds =>
        rw [z] at e
        simp only [Bool.and_eq_true, decide_eq_true_eq] at e
        match ds, e.1 with
        | [x, p], _ => exact ⟨x, p, rfl⟩
    obtain ⟨x, p, hds⟩ := h2
    obtain ⟨a, xs, rfl, hx, hso⟩ := hR1.rows hds
    cases hx with
    | cons h0 ht =>
      cases ht with
      | cons h1 ht =>
        cases ht
        refine ⟨.ref a, rfl, rix_of (i := 1) hso rfl ⟨_, p, rfl, h1, fun H2 s2 => ?_⟩⟩
        have q2 := q H2 (s1.trans s2)
        have hv : isComD d = isPatience p := by
          unfold isComD
          rw [e, Bool.true_and]
          unfold sndP
          rw [hds]
        rw [hv] at q2
        exact q2
  · have q1 := q H1 s1
    have hv : isComD d = false := by
      unfold isComD
      rw [Bool.eq_false_iff.mpr e, Bool.false_and]
    rw [hv] at q1
    exact q1
theorem ok_isHist {f : Addr} {fd : FuncData} (F : Fun K "is_history" "is_history" sIsHist f fd) (CR : Cal P w K mg base 1 "is_row" ["thing"] (spOne isRow)) (CD : Cal P w K mg base 2 "is_deed" ["thing", "word", "many"] spIsDeed) (CC : Cal P w K mg base 3 "is_coming" ["thing"] (spOne isComD)) : FnOk P w K mg base CX0 4 f fd ["thing"] (spOne isHistD) := by
  refine F.ok scIsHist spOne_len (fun cdv A outer s H vs Q E hr h => ?_)
  obtain ⟨v, d, rfl, hR, q⟩ := h
  have nd := scIsHist.nd
  refine ⟨_, (pss_cons (ps_if (pt_not (pt_val (pe_cal CR (hr.mono (by decide)) (by rfl) (pa_cons (pv 0) pa_nil)))) (pss_one (ps_ret pe_bl)) pss_nil)
      (pss_cons (ps_set (i := 1) nd rfl (.inl rfl) pe_int)
      (pss_cons (ps_for PassesOwn.never rfl (pi_seq (pv 0)) (pg_name (i := 2) nd rfl (.inl rfl)) (pss_one (ps_if (pt_val (pe_cal CC (hr.mono (by decide)) (by rfl) (pa_cons (pv 2) pa_nil))) (pss_one (ps_aug (i := 1) nd rfl (.inl rfl) pe_int ip_add)) (pss_one (ps_if (PW.pt (pw_and (pt_val (pe_cal CD (hr.mono (by decide)) (by rfl) (pa_cons (pv 2) (pa_cons pe_str (pa_cons pe_int pa_nil))))) (pw_and1 (pt_cmpR op_gt (pv 1) pe_int (nomark _))))) (pss_one (ps_aug (i := 1) nd rfl (.inl rfl) pe_int ip_sub)) (pss_one (ps_ret pe_bl)))))))
      (pss_one (ps_ret pe_bl))))), ?_⟩
  refine ⟨v, rfl, v, d, rfl, hR, fun H1 s1 => ⟨isRow d, rfl, ?_⟩⟩
  cases hds : rowsD d with
  | none =>
    have e1 : isRow d = false := by unfold isRow; rw [hds]; rfl
    have e2 : isHistD d = false := by unfold isHistD; rw [hds]
    have q1 := q H1 s1
    rw [e2] at q1
    rw [e1]
    exact iteT q1
  | some ds =>
    have e1 : isRow d = true := by unfold isRow; rw [hds]; rfl
    have e2 : isHistD d = (standF ds 0).isSome := by unfold isHistD; rw [hds]
    rw [e1]
    refine iteF ?_
    have hR1 := Rp.sm s1 hR
    obtain ⟨a, xs, rfl, hx, hso⟩ := hR1.rows hds
    have st : StSeq H1 a xs := ⟨hso⟩
    refine ⟨.ref a, rfl, a, xs, rfl, st, fun J hJ => for_it (walk_seq hJ) (fun i σ G => (∃ (n : Nat) (y2 : Option V), σ = [some (.ref a), some (.int (n : Int)), y2] ∧ standF ds 0 = standF (ds.drop i) n) ∧ Same H1 G) ⟨⟨0, none, rfl, rfl⟩, Same.refl _⟩ (fun i σ G _ hP => Ex.of hP.2) (fun i x σ G G' hi hP hY => ?_) (fun σ G hP => ?_)⟩
    · obtain ⟨⟨n, y2, rfl, hst⟩, sG⟩ := hP
      obtain ⟨rfl, hxi⟩ := hY
      obtain ⟨di, hdi, hRi⟩ := hx.get hxi
      have hdr : ds.drop i = di :: ds.drop (i + 1) := by
        have hil := (List.getElem?_eq_some_iff.mp hdi)
        rw [List.drop_eq_getElem_cons hil.1, hil.2]
      rw [hdr] at hst
      have hRG := Rp.sm sG hRi
      refine ⟨x, rfl, x, di, rfl, hRG, fun H3 s3 => ⟨isComD di, rfl, ite2 (fun e => ?_) (fun e => ?_)⟩⟩
      · refine ⟨.int (n : Int), rfl, (n : Int), 1, rfl, rfl, ⟨n + 1, _, rfl, ?_⟩, sG.trans s3⟩
        rw [hst]
        conv => lhs; unfold standF
        rw [if_pos e]
      · have hRG3 := Rp.sm s3 hRG
        refine ⟨x, rfl, x, di, "serve", 1, rfl, hRG3, by decide, fun H4 s4 => ⟨_, rfl, ite2 (fun e2' => ?_) (fun e2' => ?_)⟩⟩
        · refine ⟨.int (n : Int), rfl, _, _, rfl, rfl, _, rfl, ite2 (fun e3 => ?_) (fun e3 => ?_)⟩
          · have e3 : (0 : Int) < (n : Int) := of_decide_eq_true e3
            refine ⟨.int (n : Int), rfl, (n : Int), 1, rfl, rfl, ⟨n - 1, some x, ?_, ?_⟩, (sG.trans s3).trans s4⟩
            · show [some (.ref a), some (.int ((n : Int) - 1)), some x] = _
              rw [show ((n - 1 : Nat) : Int) = (n : Int) - 1 by omega]
            · rw [hst]
              conv => lhs; unfold standF
              rw [if_neg e, if_pos e2', if_pos (by omega)]
          · have e3 : ¬ (0 : Int) < (n : Int) := fun z => e3 (decide_eq_true z)
            have q1 := q H4 (s1.trans ((sG.trans s3).trans s4))
            have : isHistD d = false := by
              rw [e2, hst]
              unfold standF
              rw [if_neg e, if_pos e2', if_neg (by omega)]
              rfl
            rw [this] at q1
            exact q1
        · have q1 := q H4 (s1.trans ((sG.trans s3).trans s4))
          have : isHistD d = false := by
            rw [e2, hst]
            unfold standF
            rw [if_neg e, if_neg e2']
            rfl
          rw [this] at q1
          exact q1
    · obtain ⟨⟨n, y2, rfl, hst⟩, sG⟩ := hP
      have q1 := q G (s1.trans sG)
      have : isHistD d = true := by
        rw [e2, hst, hx.length, List.drop_length]
        rfl
      rw [this] at q1
      exact q1
theorem Flds.comeX {fs : List (Str × V)} {L : LnA} (h : Flds fs L) : fs.lookup ("come" : Str) = none := h.no _ (by decide +kernel) (by decide +kernel) (by decide +kernel) (by decide +kernel) (by decide +kernel)
theorem Flds.serveX {fs : List (Str × V)} {L : LnA} (h : Flds fs L) : fs.lookup ("serve" : Str) = none := h.no _ (by decide +kernel) (by decide +kernel) (by decide +kernel) (by decide +kernel) (by decide +kernel)
theorem serve_eqX {s : LS} {x : Nat} {xs : List Nat} {r : Option Int} (h1 : s.xs = x :: xs) (h2 : s.rs.head? = some r) : serveS s x r = stepS s .serve := by
  show serveS s x r = serveS s (s.xs.headD 0) (s.rs.headD none)
  rw [h1, List.headD_cons, List.headD_eq_head?_getD, h2]
  rfl
theorem ok_lineOf {f fI fC fS : Addr} {fd fdI fdC fdS : FuncData} (F : Fun K "line_of" "line_of" sLineOf f fd) (T : LnT K mg C) (M : Mk K C fI)
    (GI : FnOk P w K mg base CX0 1 fI fdI ["self"] (spInit C)) (bI : Binds K fdI ["self"] [])
    (mC : Meth K C "come" fC) (GC : FnOk P w K mg base CX0 3 fC fdC ["self", "patience"] (spComeM C)) (bC : Binds K fdC ["self", "patience"] [])
    (mS : Meth K C "serve" fS) (GS : FnOk P w K mg base CX0 1 fS fdS ["self"] (spServeM C)) (bS : Binds K fdS ["self"] [])
    (CH : Cal P w K mg base 4 "is_history" ["thing"] (spOne isHistD)) (CC : Cal P w K mg base 3 "is_coming" ["thing"] (spOne isComD)) : FnOk P w K mg base CX0 5 f fd ["history"] (spLineOf C) := by
  refine F.ok scLineOf (fun vs H Q E ⟨v, d, ds, e, _⟩ => by rw [e]; rfl) (fun cdv A outer s H vs Q E hr h => ?_)
  obtain ⟨v, d, ds, rfl, hR, hds, hst, hl, q⟩ := h
  have nd := scLineOf.nd
  refine ⟨_, (pss_cons (ps_if (pt_not (pt_val (pe_cal CH (hr.mono (by decide)) (by rfl) (pa_cons (pv 0) pa_nil)))) (pss_one ps_never) pss_nil)
      (pss_cons (ps_set (i := 1) nd rfl (.inl rfl) (pe_make0 M GI (hr.mono (by decide)) rfl T.mgC bI .nil pass0))
      (pss_cons (ps_for PassesOwn.never rfl (pi_seqW (pv 0)) (pg_name (i := 2) nd rfl (.inl rfl)) (pss_one (ps_if (pt_val (pe_cal CC (hr.mono (by decide)) (by rfl) (pa_cons (pv 2) pa_nil))) (pss_one (ps_expr (pe_meth (pv 1) T.cl mC GC (hr.mono (by decide)) bC .nil pass0 (pa_cons (pe_ix ix_seq (pv 2) pe_int (fun _ _ => rfl)) pa_nil)))) (pss_one (ps_expr (pe_meth0 (pv 1) T.cl mS GS (hr.mono (by decide)) bS .nil pass0))))))
      (pss_one (ps_ret (pv 1)))))), ?_⟩
  have e2 : isHistD d = true := by unfold isHistD; rw [hds]; exact hst
  refine ⟨v, rfl, v, d, rfl, hR, fun H1 s1 => ⟨isHistD d, rfl, ?_⟩⟩
  rw [e2]
  refine iteF ?_
  refine fun x1 dx1 nx1 nd1 ne1 => ⟨x1, dx1, rfl, upd_same, fun L G1 eA nA lA kA => ⟨rfl, ?_⟩⟩
  have s01 : Same H1 G1 := fun b o e => kA b o (ne_of_none e nx1) (by rw [upd_ne (ne_of_none e nx1), upd_ne (ne_of_none e nd1)]; exact e)
  have nA0 : ∀ b, L.has b → H1 b = none := fun b hb => by
    cases z : H1 b with
    | none => rfl
    | some o =>
      have := nA b hb
      rw [upd_ne (ne_of_none z nx1), upd_ne (ne_of_none z nd1), z] at this
      cases this
  subst eA
  have hR1 := Rp.sm s1 hR
  obtain ⟨a, xs, rfl, hx, hso⟩ := hR1.rows hds
  show tSeq _ _ _ [some (.ref a), some (.ref L.o), none] G1
  have stG : ∀ {G : Hp}, Same H1 G → StSeq G a xs := fun m => ⟨hso.imp (fun h => m _ _ h) (fun h => m _ _ h)⟩
  obtain ⟨kk, hkk⟩ := Option.isSome_iff_exists.mp hst
  have hvd : Vd (ds.map toDeed) := standF_ok ds [] kk vd_nil hkk
  refine ⟨.ref a, rfl, a, xs, rfl, stG s01, fun J hJ => ?_⟩
  have hja : ∀ G : Hp, Same H1 G → (∀ o, G1 a = some o → G a = some o) := fun G m o e => by
    rcases hso with h | h
    · rw [s01 _ _ h] at e; rw [← e]; exact m _ _ h
    · rw [s01 _ _ h] at e; rw [← e]; exact m _ _ h
  refine for_seq (K := K) (a := a) (xs := xs) (fun i σ G => (∃ y, σ = [some (.ref a), some (.ref L.o), y]) ∧ Same H1 G ∧ LineAt C G L (stF ((ds.take i).map toDeed)))
    ⟨⟨none, rfl⟩, s01, lA⟩ (fun i σ G hP => hJ G (hja G hP.2.1)) (fun i x σ G hxi hP => ?_) (fun σ G hP => ?_)
  · obtain ⟨⟨y, rfl⟩, sG, lG⟩ := hP
    obtain ⟨di, hdi, hRi⟩ := hx.get hxi
    have hil := (List.getElem?_eq_some_iff.mp hdi).1
    have hRG := Rp.sm sG hRi
    have hsn : (ds.take (i + 1)).map toDeed = (ds.take i).map toDeed ++ [toDeed di] := by rw [List.take_add_one, hdi, List.map_append]; rfl
    have hvt : ∀ j, Vd ((ds.take j).map toDeed) := fun j => Vd.pre (es := (ds.drop j).map toDeed) (by rw [← List.map_append, List.take_append_drop]; exact hvd)
    have hok := (hvt i).ok
    have hcn : (stF ((ds.take i).map toDeed)).ps.length ≤ 400 := by
      have h1 := hok.dl
      have h2 := hok.tot
      rw [stF_ds, List.length_map, List.length_take] at h1
      omega
    have hv1 := hvt (i + 1)
    rw [hsn] at hv1 ⊢
    rw [stF_snoc]
    have hxs : toDeed di = .serve → (stF ((ds.take i).map toDeed)).xs ≠ [] := fun z => by rw [z] at hv1; exact hv1.last
    generalize stF ((ds.take i).map toDeed) = s at lG hok hcn hxs
    refine ⟨x, rfl, x, di, rfl, hRG, fun H3 s3 => ⟨isComD di, rfl, ite2 (fun e => ?_) (fun e => ?_)⟩⟩
    · obtain ⟨p, e1, e2, e3⟩ := comD_toDeed e
      obtain ⟨w0, pd, hrw, hpd⟩ := comD_rows e
      have hRG3 := Rp.sm s3 hRG
      obtain ⟨t, ys, rfl, hys, hto⟩ := hRG3.rows hrw
      have lG3 := lG.same s3
      cases hys with
      | cons h0 ht =>
        cases ht with
        | @cons v1 _ _ _ h1 ht =>
          cases ht
          rw [← hpd, e3] at h1
          obtain rfl := rp_optV h1
          obtain ⟨dx, fs, hob, hf⟩ := lG3.ob
          refine ⟨.ref L.o, rfl, L.o, dx, fs, rfl, hob, hf.comeX, .ref t, rfl, rix_of (i := 1) hto rfl ⟨L, s, p, rfl, lG3, e2, hcn, fun H4 l4 m4 => ?_⟩⟩
          refine ⟨⟨_, rfl⟩, fun b o eb => m4.keep b o (fun z => by rw [nA0 b z] at eb; cases eb) (s3 _ _ (sG b o eb)), ?_⟩
          rw [e1]
          exact l4
    · have e1 : toDeed di = .serve := by unfold toDeed; rw [if_neg e]
      have hx0 := hxs e1
      rw [e1]
      obtain ⟨x0, xs0, ex⟩ : ∃ x0 xs0, s.xs = x0 :: xs0 := by
        cases z : s.xs with
        | nil => exact absurd z hx0
        | cons x0 xs0 => exact ⟨x0, xs0, rfl⟩
      have lG3 := lG.same s3
      obtain ⟨dx, fs, hob, hf⟩ := lG3.ob
      refine ⟨.ref L.o, rfl, L.o, dx, fs, rfl, hob, hf.serveX, L, s, x0, xs0, rfl, lG3, ex, hcn, fun H4 rr hrr l4 m4 => ?_⟩
      refine ⟨⟨_, rfl⟩, fun b o eb => m4.keep b o (fun z => by rw [nA0 b z] at eb; cases eb) (s3 _ _ (sG b o eb)), ?_⟩
      rw [← serve_eqX ex hrr]
      exact l4
  · obtain ⟨⟨y, rfl⟩, sG, lG⟩ := hP
    rw [hx.length, List.take_length] at lG
    exact ⟨_, rfl, q L G (s1.trans sG) (fun b hb => by
      cases z : H b with
      | none => rfl
      | some o =>
        have := s1 _ _ z
        rw [nA0 b hb] at this
        cases this) lG hvd⟩
end
end CL
set_option Elab.async false
set_option linter.all false
set_option pp.maxSteps 600
set_option maxRecDepth 100000
set_option maxHeartbeats 4000000
namespace CL
open PySem PySem.Spec PyProof.Rows L2 GE
abbrev sTold : Stmt := topS 45
theorem scTold : FnScope ["thing", "found", "caught"] ["thing"] (defScope sTold) := ⟨rfl, rfl, rfl, by decide +kernel, rfl, by decide +kernel, by decide +kernel⟩
abbrev sUndone : Stmt := topS 48
theorem scUndone : FnScope ["line", "found", "caught"] ["line"] (defScope sUndone) := ⟨rfl, rfl, rfl, by decide +kernel, rfl, by decide +kernel, by decide +kernel⟩
theorem Flds.undo {fs : List (Str × V)} {L : LnA} (h : Flds fs L) : fs.lookup ("undo" : Str) = none := h.no _ (by decide +kernel) (by decide +kernel) (by decide +kernel) (by decide +kernel) (by decide +kernel)
/-- nothing is let out -/
theorem takes0N {X : Cx} : L2N.Takes X (fun _ _ _ _ => False) := fun _ _ x => by
  obtain ⟨_, _, _, _, _, _, _, _, _, _, _, _, _, _, _, _, z⟩ := x
  exact z.elim
/-- the classes of refusals and what they say -/
structure Refs (K : PySem.W.Frag) (mg : Str → Option Value) (G : ClsG K mg) (LE : Addr) : Prop where
  le : mg "LineError" = some (.ref LE)
  xNoHistory : ExcM K mg "NoHistory" G.aNoHistory
  eNoHistory : PySem.W.exmOne K (.ref G.aNoHistory) (.ref LE) = some true
  wNoHistory : ClsW K mg G G.aNoHistory "NoHistory"
  xNothing : ExcM K mg "Nothing" G.aNothing
  eNothing : PySem.W.exmOne K (.ref G.aNothing) (.ref LE) = some true
  wNothing : ClsW K mg G G.aNothing "Nothing"
def badHist (B : Addr) : Sp := fun vs H _ E => ∃ (v : V) (d : PyData), vs = [v] ∧ Rp H v d ∧ isHistD d = false ∧ ∀ H', Same H H' → E (.ref B) none H'
def spTold (C : Addr) : Sp := fun vs H Q _ => ∃ (v : V) (d : PyData), vs = [v] ∧ Rp H v d ∧ ((isHistD d = false ∧ ∀ H', Same H H' → Q (.str "NoHistory") H') ∨ ∃ ds, rowsD d = some ds ∧ (standF ds 0).isSome = true ∧ ds.length ≤ 310 ∧
  ∀ (L : LnA) H', Same H H' → (∀ b, L.has b → H b = none) → LineAt C H' L (stF (ds.map toDeed)) → Vd (ds.map toDeed) → Q (.ref L.o) H')
def spUndone (C : Addr) : Sp := fun vs H Q _ => ∃ (L : LnA) (s : LS), vs = [.ref L.o] ∧ LineAt C H L s ∧ s.ds = [] ∧ ∀ H', Same H H' → Q (.str "Nothing") H'
section
variable {P : Program} {w : World} {K : PySem.W.Frag} {mg : Str → Option Value} {base : Heap} {C : Addr}
theorem bad_lineOf {f B : Addr} {fd : FuncData} (F : Fun K "line_of" "line_of" sLineOf f fd) (XB : ExcM K mg "NoHistory" B) (CH : Cal P w K mg base 4 "is_history" ["thing"] (spOne isHistD)) : FnOk P w K mg base (L2N.CX P w) 5 f fd ["history"] (badHist B) := by
  refine okN F scLineOf (fun vs H Q E ⟨v, d, e, _⟩ => by rw [e]; rfl) (fun cdv A outer s H vs Q E hr h => ?_)
  obtain ⟨v, d, rfl, hR, hb, q⟩ := h
  refine ⟨_, pss_cons (ps_if (pt_not (pt_val (pe_cal CH (hr.mono (by decide)) (by rfl) (pa_cons (pv 0) pa_nil)))) (pss_one (L2N.ps_raise rfl (L2N.takes_of rfl rfl rfl rfl) (L2N.pmk_own PySem.F.excBase_ValueError XB.x XB.g XB.k (raises_own XB.b XB.t) (by rfl)))) pss_nil) pss_never, ?_⟩
  refine ⟨v, rfl, v, d, rfl, hR, fun H1 s1 => ⟨_, rfl, ?_⟩⟩
  rw [hb]
  exact iteT (q H1 s1)
theorem ok_told {f fL LE : Addr} {fd fdL : FuncData} (F : Fun K "_law_told" "_law_told" sTold f fd) (G : ClsG K mg) (R : Refs K mg G LE) (CC : CalP P w K mg base 1 "_law_class" ["caught"] (spClass K mg G))
    (gL : mg "line_of" = some (.ref fL)) (kL : PySem.W.keepIn K (.ref fL) = true) (GL : FnOk P w K mg base (L2N.CX P w) 5 fL fdL ["history"] (fun vs H Q E => spLineOf C vs H Q E ∨ badHist G.aNoHistory vs H Q E)) (bL : Binds K fdL ["history"] []) :
    FnOk P w K mg base CX0 6 f fd ["thing"] (spTold C) := by
  refine F.ok scTold (fun vs H Q E ⟨v, d, e, _⟩ => by rw [e]; rfl) (fun cdv A outer s0 H vs Q E hr h => ?_)
  obtain ⟨v, d, rfl, hR, h⟩ := h
  have nd := scTold.nd
  have hrH := L2H.roomH_of hr
  refine ⟨_, (pss_cons (ps_set (i := 1) nd rfl (.inl rfl) pe_non)
    (pss_cons (L2N.ps_try_as (i := 2) (Wout := fun _ _ _ _ => False) (ts := (fun a cls d D σ H => ∃ Dc, cls = .ref Dc ∧ d = none ∧ tAsg (fun σ H Q => tCons (tVar 2) tNil σ H fun vs H1 => spClass K mg G a Dc vs H1 Q E0) (gName 1) D σ H)) rfl rfl nd rfl rfl ⟨rfl, by decide, .inl R.le⟩ takes0N
      (fun W pn xe tk po => pss_one (ps_set (i := 1) nd rfl (.inl rfl) (pe_callS GL (hr.mono (by decide)) (by rfl) gL kL bL (fun σ => L2N.passAt tk σ) (pa_cons (pv 0) pa_nil))))
      (fun a oe cls d pn z fe => ⟨fun pins t σ H D I y => by
        obtain ⟨Dc, rfl, rfl, y⟩ := y
        obtain ⟨fvs, hfv⟩ := fe
        exact (pss_one (ps_set (i := 1) nd rfl (.inl rfl) (pe_calP CC (h := (a, oe)) (D := Dc) ⟨(hrH.mono (j := 1) (by decide)).dp, (hrH.mono (j := 1) (by decide)).un⟩ ⟨rfl, fvs, hfv, z.2.2 fvs hfv⟩ List.mem_cons_self z.zc (by rfl) (pa_cons (pv 2) pa_nil)))).run pins t σ H D I y⟩))
    (pss_one (ps_ret (pv 1))))), ?_⟩
  rcases h with ⟨hb, q⟩ | ⟨ds, e1, e2, e3, q⟩
  · exact ⟨v, rfl, .inr ⟨v, d, rfl, hR, hb, fun H1 s1 => ⟨true, R.eNoHistory, fun _ a ha => ⟨_, rfl, rfl, .ref a, rfl, _, rfl, R.wNoHistory, fun H2 s2 => ⟨.str "NoHistory", rfl, q H2 (s1.trans s2)⟩⟩, fun y => nomatch y⟩⟩⟩
  · exact ⟨v, rfl, .inl ⟨v, d, ds, rfl, hR, e1, e2, e3, fun L H' s n l vd => ⟨.ref L.o, rfl, q L H' s n l vd⟩⟩⟩
theorem ok_undone {f fU LE : Addr} {fd fdU : FuncData} (F : Fun K "_law_undone" "_law_undone" sUndone f fd) (T : LnT K mg C) (G : ClsG K mg) (R : Refs K mg G LE) (CC : CalP P w K mg base 1 "_law_class" ["caught"] (spClass K mg G))
    (mU : Meth K C "undo" fU) (GU : FnOk P w K mg base (L2N.CX P w) 2 fU fdU ["self"] (badUndo C G.aNothing)) (bU : Binds K fdU ["self"] []) : FnOk P w K mg base CX0 3 f fd ["line"] (spUndone C) := by
  refine F.ok scUndone (fun vs H Q E ⟨L, s, e, _⟩ => by rw [e]; rfl) (fun cdv A outer s0 H vs Q E hr h => ?_)
  obtain ⟨L, s, rfl, hL, hx, q⟩ := h
  have nd := scUndone.nd
  have hrH := L2H.roomH_of hr
  refine ⟨_, (pss_cons (ps_set (i := 1) nd rfl (.inl rfl) pe_non)
    (pss_cons (L2N.ps_try_as (i := 2) (Wout := fun _ _ _ _ => False) (ts := (fun a cls d D σ H => ∃ Dc, cls = .ref Dc ∧ d = none ∧ tAsg (fun σ H Q => tCons (tVar 2) tNil σ H fun vs H1 => spClass K mg G a Dc vs H1 Q E0) (gName 1) D σ H)) rfl rfl nd rfl rfl ⟨rfl, by decide, .inl R.le⟩ takes0N
      (fun W pn xe tk po => pss_one (ps_expr (pe_methE0 (pv 0) T.cl mU GU (hr.mono (by decide)) bU (fun σ => L2N.passAt tk σ))))
      (fun a oe cls d pn z fe => ⟨fun pins t σ H D I y => by
        obtain ⟨Dc, rfl, rfl, y⟩ := y
        obtain ⟨fvs, hfv⟩ := fe
        exact (pss_one (ps_set (i := 1) nd rfl (.inl rfl) (pe_calP CC (h := (a, oe)) (D := Dc) ⟨(hrH.mono (j := 1) (by decide)).dp, (hrH.mono (j := 1) (by decide)).un⟩ ⟨rfl, fvs, hfv, z.2.2 fvs hfv⟩ List.mem_cons_self z.zc (by rfl) (pa_cons (pv 2) pa_nil)))).run pins t σ H D I y⟩))
    (pss_one (ps_ret (pv 1))))), ?_⟩
  obtain ⟨⟨dx, fs, hob, hf⟩, _⟩ := id hL
  exact ⟨.ref L.o, rfl, L.o, dx, fs, rfl, hob, hf.undo, L, s, rfl, hL, hx, true, R.eNothing, fun _ a ha => ⟨_, rfl, rfl, .ref a, rfl, _, rfl, R.wNothing, fun H2 s2 => ⟨.str "Nothing", rfl, q H2 s2⟩⟩, fun y => nomatch y⟩
end
end CL
set_option Elab.async false
set_option linter.all false
set_option pp.maxSteps 600
set_option maxRecDepth 100000
set_option maxHeartbeats 4000000
namespace CL
open PySem PySem.Spec PyProof.Rows L2 GE
abbrev sLHist : Stmt := topS 43
theorem scLHist : FnScope ["thing", "stand", "deed"] ["thing"] (defScope sLHist) := ⟨rfl, rfl, rfl, by decide +kernel, rfl, by decide +kernel, by decide +kernel⟩
theorem hu_of' {k : Nat} {A : Around} (r : Room k A) : A.units + 1 < cLine := by
  have := r.un
  omega
theorem inV_two (z a b : Str) : inV (.str z) [.str a, .str b] = (decide (z = a) || decide (z = b)) := by
  by_cases h1 : z = a
  · subst h1; simp [inV, eqV]
  · by_cases h2 : z = b
    · subst h2; simp [inV, eqV]
    · have h3 : ¬ a = z := fun e => h1 e.symm
      have h4 : ¬ b = z := fun e => h2 e.symm
      simp [inV, eqV, h1, h2, h3, h4]
theorem comD_no {d : PyData} {es : List PyData} (h : rowsD d = some es) (n : es.length ≠ 2) : isComD d = false := by
  unfold isComD isDeedD
  rw [h]
  simp [n]
theorem serD_no {d : PyData} {es : List PyData} (h : rowsD d = some es) (n : es.length ≠ 1) : isDeedD d "serve" 1 = false := by
  unfold isDeedD
  rw [h]
  simp [n]
theorem head_no {d e0 : PyData} {es : List PyData} {w : Str} {m : Nat} (h : rowsD d = some (e0 :: es)) (n : headIs w (e0 :: es) = false) : isDeedD d w m = false := by
  unfold isDeedD
  rw [h]
  simp [n]
theorem seq_mk {A B : TS} {D : Ends} {σ : L2.St} {H : Hp} (h : ∀ nx : L2.St → Hp → Prop, (∀ σ' H', B D σ' H' → nx σ' H') → A { D with nx := nx } σ H) : tSeq A B D σ H := h (B D) fun _ _ z => z
section
variable {P : Program} {w : World} {K : PySem.W.Frag} {mg : Str → Option Value} {base : Heap} {C : Addr}
theorem ok_lhist {f : Addr} {fd : FuncData} (F : Fun K "_law_is_history" "_law_is_history" sLHist f fd) (hT : Nm mg) (htup : mg "tuple" = none) (hstr : mg "str" = none) : FnOk P w K mg base CX0 3 f fd ["thing"] (spOne isHistD) := by
  refine F.ok scLHist spOne_len (fun cdv A outer s H vs Q E hr h => ?_)
  obtain ⟨v, d, rfl, hR, q⟩ := h
  have nd := scLHist.nd
  have hu := hu_of' hr
  refine ⟨_, (pss_cons (ps_if (pt_not (pt_val (pe_callB call_isiT (by rfl) hT.isi (by decide +kernel) (pa_cons (pv 0) (pa_cons (pe_tup (pa_cons (pe_bltn (v := .ty "list") (by rfl) hT.list PyProof.Rows.boot_list rfl) (pa_cons (pe_bltn (v := .ty "tuple") (by rfl) htup PyProof.Rows.boot_tuple rfl) pa_nil))) pa_nil))))) (pss_one (ps_ret pe_bl)) pss_nil)
      (pss_cons (ps_set (i := 1) nd rfl (.inl rfl) pe_int)
      (pss_cons (ps_for PassesOwn.never rfl (pi_seq (pv 0)) (pg_name (i := 2) nd rfl (.inl rfl)) (pss_cons (ps_if (PW.pt (pw_or (pt_not (pt_val (pe_callB call_isiT (by rfl) hT.isi (by decide +kernel) (pa_cons (pv 2) (pa_cons (pe_tup (pa_cons (pe_bltn (v := .ty "list") (by rfl) hT.list PyProof.Rows.boot_list rfl) (pa_cons (pe_bltn (v := .ty "tuple") (by rfl) htup PyProof.Rows.boot_tuple rfl) pa_nil))) pa_nil))))) (pw_or (pt_cmpR op_eq (pe_callB call_len_seq (by rfl) hT.len PySem.boot_len (pa_cons (pv 2) pa_nil)) pe_int (nomark _)) (pw_or1 (pt_not (pt_val (pe_callB call_isi (by rfl) hT.isi (by decide +kernel) (pa_cons (pe_ix ix_seq (pv 2) pe_int (fun _ _ => rfl)) (pa_cons (pe_bltn (v := .ty "str") (by rfl) hstr PyProof.Rows.boot_str rfl) pa_nil))))))))) (pss_one (ps_ret pe_bl)) pss_nil)
      (pss_cons (ps_if (PW.pt (pw_or (pt_cmpR op_notIn_seq (pe_ix ix_seq (pv 2) pe_int (fun _ _ => rfl)) (pe_lst (pa_cons pe_str (pa_cons pe_str pa_nil))) (by rfl)) (pw_or1 (pt_cmpR op_ne (pe_callB call_len_seq (by rfl) hT.len PySem.boot_len (pa_cons (pv 2) pa_nil)) (pe_dget hu (pe_disp (pps_cons pe_str pe_int (pps_cons pe_str pe_int pps_nil)) (by rfl) (by rfl) (fun z => by cases z) (by decide)) (pe_ix ix_seq (pv 2) pe_int (fun _ _ => rfl)) (fun _ _ => rfl)) (nomark _))))) (pss_one (ps_ret pe_bl)) pss_nil)
      (pss_cons (ps_if (PW.pt (pw_and (pt_cmpR op_eq (pe_ix ix_seq (pv 2) pe_int (fun _ _ => rfl)) pe_str (nomark _)) (pw_and1 (pt_cmpR op_eq (pv 1) pe_int (nomark _))))) (pss_one (ps_ret pe_bl)) pss_nil)
      (pss_cons (ps_if (PW.pt (pw_and (pt_cmpR op_eq (pe_ix ix_seq (pv 2) pe_int (fun _ _ => rfl)) pe_str (nomark _)) (pw_and1 (pt_cmp (pc_notN (pe_ix ix_seq (pv 2) pe_int (fun _ _ => rfl))))))) (pss_one (ps_if (PW.pt (pw_or (pt_val (pe_callB call_isi (by rfl) hT.isi (by decide +kernel) (pa_cons (pe_ix ix_seq (pv 2) pe_int (fun _ _ => rfl)) (pa_cons (pe_bltn (v := .ty "bool") (by rfl) hT.bool PyProof.Rows.boot_bool rfl) pa_nil)))) (pw_or (pt_not (pt_val (pe_callB call_isi (by rfl) hT.isi (by decide +kernel) (pa_cons (pe_ix ix_seq (pv 2) pe_int (fun _ _ => rfl)) (pa_cons (pe_bltn (v := .ty "int") (by rfl) hT.int PyProof.Rows.boot_int rfl) pa_nil))))) (pw_or1 (pt_not (pt_chain op_le op_le pe_int (pe_ix ix_seq (pv 2) pe_int (fun _ _ => rfl)) (pe_op op_pow pe_int pe_int))))))) (pss_one (ps_ret pe_bl)) pss_nil)) pss_nil)
      (pss_one (ps_set (i := 1) nd rfl (.inl rfl) (pe_op op_add (pv 1) (pe_dget hu (pe_disp (pps_cons pe_str pe_int (pps_cons pe_str (pe_un un_neg pe_int) pps_nil)) (by rfl) (by rfl) (fun z => by cases z) (by decide)) (pe_ix ix_seq (pv 2) pe_int (fun _ _ => rfl)) (fun _ _ => rfl))))))))))
      (pss_one (ps_ret pe_bl))))), ?_⟩
  have hGG : GREAT = 1000000000000000000000000000000 := rfl
  refine ⟨v, rfl, by show 2 ≤ sizeLine; decide, fun p0 np0 => ⟨v, p0, [.ty "list", .ty "tuple"], _, _, isRow d, rfl, upd_same, .cons (.ty _) (.cons (.ty _) .nil), (Rp.ex (Ex.new np0) d v hR).ty, kit_rows d, isRow d, rfl, ?_⟩⟩
  have s1 := same_upd (o := .tup [.ty "list", .ty "tuple"]) np0
  generalize upd H p0 (.tup [.ty "list", .ty "tuple"]) = H1 at s1
  cases hds : rowsD d with
  | none =>
    have e1 : isRow d = false := by unfold isRow; rw [hds]; rfl
    have e2 : isHistD d = false := by unfold isHistD; rw [hds]
    have q1 := q H1 s1
    rw [e2] at q1
    rw [e1]
    exact iteT q1
  | some ds =>
    have e1 : isRow d = true := by unfold isRow; rw [hds]; rfl
    have e2 : isHistD d = (standF ds 0).isSome := by unfold isHistD; rw [hds]
    rw [e1]
    refine iteF ?_
    have hR1 := Rp.sm s1 hR
    obtain ⟨a, xs, rfl, hx, hso⟩ := hR1.rows hds
    have st : StSeq H1 a xs := ⟨hso⟩
    refine ⟨.ref a, rfl, a, xs, rfl, st, fun J hJ => for_it (walk_seq hJ) (fun i σ G => (∃ (n : Nat) (y2 : Option V), σ = [some (.ref a), some (.int (n : Int)), y2] ∧ standF ds 0 = standF (ds.drop i) n) ∧ Same H1 G) ⟨⟨0, none, rfl, rfl⟩, Same.refl H1⟩ (fun i σ G _ hP => Ex.of hP.2) (fun i x σ G0 G hi hP hY => ?_) (fun σ G hP => ?_)⟩
    · obtain ⟨⟨n, y2, rfl, hst⟩, sG⟩ := hP
      obtain ⟨rfl, hxi⟩ := hY
      obtain ⟨di, hdi, hRi⟩ := hx.get hxi
      have hdr : ds.drop i = di :: ds.drop (i + 1) := by
        have hil := (List.getElem?_eq_some_iff.mp hdi)
        rw [List.drop_eq_getElem_cons hil.1, hil.2]
      rw [hdr] at hst
      have hRG := Rp.sm sG hRi
      have bad : ∀ H', Same G H' → isComD di = false → (isDeedD di "serve" 1 = false ∨ n = 0) → Q (.bl false) H' := fun H' s' c1 c2 => by
        have q1 := q H' (s1.trans (sG.trans s'))
        have : isHistD d = false := by
          rw [e2, hst]
          unfold standF
          rw [c1, if_neg Bool.false_ne_true]
          by_cases c3 : isDeedD di "serve" 1 = true
          · rw [if_pos c3]
            rcases c2 with c2 | c2
            · rw [c2] at c3; cases c3
            · rw [c2]; rfl
          · rw [if_neg c3]; rfl
        rw [this] at q1
        exact q1
      dsimp only [gName]
      show tSeq _ _ _ [some (.ref a), some (.int (n : Int)), some x] G
      refine ⟨x, rfl, by show 2 ≤ sizeLine; decide, fun p1 np1 => ⟨x, p1, [.ty "list", .ty "tuple"], _, _, isRow di, rfl, upd_same, .cons (.ty _) (.cons (.ty _) .nil), (Rp.ex (Ex.new np1) di x hRG).ty, kit_rows di, isRow di, rfl, ?_⟩⟩
      have t1 := same_upd (o := .tup [.ty "list", .ty "tuple"]) np1
      generalize upd G p1 (.tup [.ty "list", .ty "tuple"]) = G1 at t1
      cases hes : rowsD di with
      | none =>
        have f1 : isRow di = false := by unfold isRow; rw [hes]; rfl
        have f2 : ∀ (w : Str) (m : Nat), isDeedD di w m = false := fun w m => by unfold isDeedD; rw [hes]
        rw [f1]
        exact iteT (bad G1 t1 (by unfold isComD; rw [f2]; rfl) (.inl (f2 _ _)))
      | some es =>
        have f1 : isRow di = true := by unfold isRow; rw [hes]; rfl
        rw [f1]
        refine iteF ?_
        obtain ⟨b, ys, rfl, hy, hb⟩ := (Rp.sm t1 hRG).rows hes
        have ly := hy.length
        refine ⟨.ref b, rfl, b, ys, rfl, hb.elim (fun h => .inl (SqL.of h)) (fun h => .inr (SqT.of h)), rfl, _, rfl, ite2 (fun e => ?_) (fun e => ?_)⟩
        · have e0 : ys.length = 0 := by
            have := V.int.inj (of_decide_eq_true e)
            omega
          exact bad G1 t1 (comD_no hes (by omega)) (.inl (serD_no hes (by omega)))
        obtain ⟨y0, ys', rfl⟩ : ∃ y0 ys', ys = y0 :: ys' := by
          cases ys with
          | nil => exact absurd (by decide) e
          | cons y0 ys' => exact ⟨y0, ys', rfl⟩
        clear e
        cases hy with
        | @cons _ _ d0 es' h0 ht =>
        have lt' := ht.length
        refine ⟨.ref b, rfl, rix_of (i := 0) hb rfl ⟨y0, .ty "str", _, _, isStrB d0, rfl, .ty _, h0.ty, kit_str d0, isStrB d0, rfl, ?_⟩⟩
        have nostr : (∀ z, d0 ≠ .str z) → ∀ w, headIs w (d0 :: es') = false := fun h w => by
          cases d0 with
          | str z => exact absurd rfl (h z)
          | _ => rfl
        cases h0 with
        | str z =>
          refine iteF ?_
          refine ⟨.ref b, rfl, rix_of (i := 0) hb rfl ⟨small_le (by show 2 ≤ 1000; decide), fun p2 np2 => ⟨p2, [.str "come", .str "serve"], rfl, .inl (SqL.of upd_same), rfl, rfl, _, rfl, ?_⟩⟩⟩
          have t2 := same_upd (o := .lst [.str "come", .str "serve"]) np2
          generalize upd G1 p2 (.lst [.str "come", .str "serve"]) = G2 at t2
          have t02 := t1.trans t2
          have hb2 : G2 b = some (.lst (.str z :: ys')) ∨ G2 b = some (.tup (.str z :: ys')) := hb.imp (fun h => t2 _ _ h) (fun h => t2 _ _ h)
          rw [inV_two]
          have dget : ∀ (G3 : Hp) (p3 : Addr) (x y : Int) (w : Str) (r : V), ((w = ("come" : Str) ∧ r = .int x) ∨ (w = ("serve" : Str) ∧ r = .int y)) → DGet (upd G3 p3 (.dK (mergeK [] [((Sum.inr "come" : Key), V.int x), ((Sum.inr "serve" : Key), V.int y)]))) p3 (.str w) (some r) := fun G3 p3 x y w r h => by
            rcases h with ⟨rfl, rfl⟩ | ⟨rfl, rfl⟩
            · exact .inl ⟨_, Sum.inr "come", .inl upd_same, rfl, rfl⟩
            · exact .inl ⟨_, Sum.inr "serve", .inl upd_same, rfl, rfl⟩
          have two : ∀ {X : Hp} {p3 : Addr} {o : HO}, X p3 = none → Same X (upd (upd X p3 (.dK [])) p3 o) := fun {X p3 o} n => by
            rw [upd_upd]
            exact same_upd n
          by_cases hz : z = ("come" : Str)
          · subst hz
            rw [show (!(decide (("come" : Str) = "come") || decide (("come" : Str) = "serve"))) = false from by simp]
            refine iteF ?_
            refine ⟨.ref b, rfl, b, _, rfl, hb2.elim (fun h => .inl (SqL.of h)) (fun h => .inr (SqT.of h)), fun p3 np3 => ⟨upd_same, [((Sum.inr "come" : Key), V.int 2), ((Sum.inr "serve" : Key), V.int 1)], rfl, by decide, .ref b, rfl, rix_of (i := 0) (hb2.imp (fun h => two np3 _ _ h) (fun h => two np3 _ _ h)) rfl ⟨p3, .int 2, rfl, dget _ _ 2 1 _ _ (.inl ⟨rfl, rfl⟩), rfl, _, rfl, ite2 (fun e => ?_) (fun e => ?_)⟩⟩⟩
            · exact bad _ (t02.trans (two np3)) (comD_no hes (fun z => by
                have h1 : ((V.str "come" :: ys').length : Int) = 2 := by rw [List.length_cons, lt']; rw [List.length_cons] at z; omega
                rw [h1] at e
                simp at e)) (.inl (head_no hes (show decide (("come" : Str) = "serve") = false by decide +kernel)))
            · have len2 : (V.str "come" :: ys').length = 2 := by
                have e1 := Bool.not_eq_true _ ▸ e
                by_cases c : (V.str "come" :: ys').length = 2
                · exact c
                · exact absurd (show (!decide (V.int (((V.str "come" :: ys').length : Nat) : Int) = V.int 2)) = true by
                    rw [decide_eq_false (fun z => c (by have := V.int.inj z; omega))]
                    rfl) e
              have t3 : Same G2 (upd (upd G2 p3 (.dK [])) p3 (.dK (mergeK [] [((Sum.inr "come" : Key), V.int 2), ((Sum.inr "serve" : Key), V.int 1)]))) := two np3
              generalize upd (upd G2 p3 (.dK [])) p3 (.dK (mergeK [] [((Sum.inr "come" : Key), V.int 2), ((Sum.inr "serve" : Key), V.int 1)])) = G3 at t3
              have t03 := t02.trans t3
              have hb3 : G3 b = some (.lst (.str "come" :: ys')) ∨ G3 b = some (.tup (.str "come" :: ys')) := hb2.imp (fun h => t3 _ _ h) (fun h => t3 _ _ h)
              have noS : isDeedD di "serve" 1 = false := head_no hes (show decide (("come" : Str) = "serve") = false by decide +kernel)
              obtain ⟨p, rfl⟩ : ∃ p, ys' = [p] := by
                match ys', len2 with
                | [p], _ => exact ⟨p, rfl⟩
              cases ht with
              | @cons _ _ dp es0 hp hnil =>
              cases hnil
              have hcm : isComD di = isPatience dp := by
                unfold isComD isDeedD sndP
                rw [hes]
                show (decide ((2 : Nat) = 2) && headIs "come" [.str "come", dp] && isPatience dp) = isPatience dp
                have h1 : headIs "come" [.str "come", dp] = true := by
                  show decide (("come" : Str) = "come") = true
                  exact decide_eq_true rfl
                rw [h1]
                rfl
              -- not served
              refine ⟨.ref b, rfl, rix_of (i := 0) hb3 rfl ⟨rfl, _, rfl, ite2 (fun y => absurd (V.str.inj (of_decide_eq_true y)) (by decide +kernel)) (fun _ => ?_)⟩⟩
              have pd : p = .non → dp = .none := fun e => by subst e; cases hp; rfl
              -- deed[1] is not None
              refine iteF ?_
              unfold tNext
              dsimp only
              show tSeq (tIfS _ (tIfS _ _ _) _) _ _ [some (.ref a), some (.int (n : Int)), some (.ref b)] G3
              refine seq_mk fun nx hnx => ?_
              have NEXT : ∀ G4, Same G3 G4 → isPatience dp = true → nx [some (.ref a), some (.int (n : Int)), some (.ref b)] G4 := fun G4 t4 hp1 => by
                have hb4 : G4 b = some (.lst [.str "come", p]) ∨ G4 b = some (.tup [.str "come", p]) := hb3.imp (fun h => t4 _ _ h) (fun h => t4 _ _ h)
                refine hnx _ _ ⟨.int (n : Int), rfl, fun p4 np4 => ⟨1, rfl, upd_same, [((Sum.inr "come" : Key), V.int 1), ((Sum.inr "serve" : Key), V.int (-1))], rfl, by decide, .ref b, rfl, rix_of (i := 0) (hb4.imp (fun h => two np4 _ _ h) (fun h => two np4 _ _ h)) rfl ⟨p4, .int 1, rfl, dget _ _ 1 (-1) _ _ (.inl ⟨rfl, rfl⟩), (n : Int), 1, rfl, rfl, ⟨n + 1, some (.ref b), rfl, ?_⟩, sG.trans ((t03.trans t4).trans (two np4))⟩⟩⟩
                rw [hst]
                conv => lhs; unfold standF
                rw [hcm, if_pos hp1]
              refine ⟨.ref b, rfl, rix_of (i := 0) hb3 rfl ⟨rfl, _, rfl, ite2 (fun _ => ?_) (fun y => absurd (decide_eq_true rfl) y)⟩⟩
              refine ⟨.ref b, rfl, rix_of (i := 1) hb3 rfl ⟨_, rfl, ?_⟩⟩
              have noP : isPatience dp = false → ∀ G4, Same G3 G4 → Q (.bl false) G4 := fun h G4 t4 => bad G4 (t03.trans t4) (by rw [hcm]; exact h) (.inl noS)
              have hpt := (Rp.sm (t2.trans t3) hp).ty (K := K)
              cases hp with
              | non => exact iteF (NEXT G3 (Same.refl G3) rfl)
              | bl k =>
                refine iteT ⟨.ref b, rfl, rix_of (i := 1) hb3 rfl ⟨.bl k, .ty "bool", _, _, true, rfl, .ty _, (Rp.bl (H := G3) k).ty, kit_bool (.bool k), true, rfl, ?_⟩⟩
                exact iteT (noP rfl G3 (Same.refl G3))
              | int j =>
                refine iteT ⟨.ref b, rfl, rix_of (i := 1) hb3 rfl ⟨.int j, .ty "bool", _, _, false, rfl, .ty _, (Rp.int (H := G3) j).ty, kit_bool (.int j), false, rfl, iteF ?_⟩⟩
                refine ⟨.ref b, rfl, rix_of (i := 1) hb3 rfl ⟨.int j, .ty "int", _, _, true, rfl, .ty _, (Rp.int (H := G3) j).ty, kit_int (.int j), true, rfl, iteF ?_⟩⟩
                refine ⟨.ref b, rfl, rix_of (i := 1) hb3 rfl ⟨0, j, rfl, rfl, decide ((0 : Int) ≤ j), rfl, ?_⟩⟩
                have ej : isPatience (.int j) = (decide ((0 : Int) ≤ j) && decide (j ≤ GREAT)) := rfl
                by_cases j0 : (0 : Int) ≤ j
                · rw [decide_eq_true j0]
                  refine iteT ⟨10, 30, rfl, rfl, ⟨by decide, by decide, by decide⟩, j, _, rfl, rfl, decide (j ≤ (10 : Int) ^ (30 : Int).toNat), rfl, ?_⟩
                  rw [p30]
                  by_cases j1 : j ≤ GREAT
                  · rw [decide_eq_true j1]
                    exact iteF (NEXT G3 (Same.refl G3) (by rw [ej, decide_eq_true j0, decide_eq_true j1]; rfl))
                  · rw [decide_eq_false j1]
                    exact iteT (noP (by rw [ej, decide_eq_false j1, Bool.and_false]) G3 (Same.refl G3))
                · rw [decide_eq_false j0]
                  exact iteF ⟨false, rfl, iteT (noP (by rw [ej, decide_eq_false j0]; rfl) G3 (Same.refl G3))⟩
              | _ => exact iteT ⟨.ref b, rfl, rix_of (i := 1) hb3 rfl ⟨_, .ty "bool", _, _, false, rfl, .ty _, hpt, kit_bool _, false, rfl, iteF ⟨.ref b, rfl, rix_of (i := 1) hb3 rfl ⟨_, .ty "int", _, _, false, rfl, .ty _, hpt, kit_int _, false, rfl, iteT (noP rfl G3 (Same.refl G3))⟩⟩⟩⟩
          · by_cases hz2 : z = ("serve" : Str)
            · subst hz2
              rw [show (!(decide (("serve" : Str) = "come") || decide (("serve" : Str) = "serve"))) = false from by simp]
              refine iteF ?_
              have noC : isComD di = false := by
                unfold isComD
                rw [head_no (w := "come") (m := 2) hes (show decide (("serve" : Str) = "come") = false by decide +kernel)]
                rfl
              refine ⟨.ref b, rfl, b, _, rfl, hb2.elim (fun h => .inl (SqL.of h)) (fun h => .inr (SqT.of h)), fun p3 np3 => ⟨upd_same, [((Sum.inr "come" : Key), V.int 2), ((Sum.inr "serve" : Key), V.int 1)], rfl, by decide, .ref b, rfl, rix_of (i := 0) (hb2.imp (fun h => two np3 _ _ h) (fun h => two np3 _ _ h)) rfl ⟨p3, .int 1, rfl, dget _ _ 2 1 _ _ (.inr ⟨rfl, rfl⟩), rfl, _, rfl, ite2 (fun e => ?_) (fun e => ?_)⟩⟩⟩
              · exact bad _ (t02.trans (two np3)) noC (.inl (serD_no hes (fun z => by
                  have h1 : ((V.str "serve" :: ys').length : Int) = 1 := by rw [List.length_cons, lt']; rw [List.length_cons] at z; omega
                  rw [h1] at e
                  simp at e)))
              have len1 : (V.str "serve" :: ys').length = 1 := by
                by_cases c : (V.str "serve" :: ys').length = 1
                · exact c
                · exact absurd (show (!decide (V.int (((V.str "serve" :: ys').length : Nat) : Int) = V.int 1)) = true by
                    rw [decide_eq_false (fun z => c (by have := V.int.inj z; omega))]
                    rfl) e
              have t3 : Same G2 (upd (upd G2 p3 (.dK [])) p3 (.dK (mergeK [] [((Sum.inr "come" : Key), V.int 2), ((Sum.inr "serve" : Key), V.int 1)]))) := two np3
              generalize upd (upd G2 p3 (.dK [])) p3 (.dK (mergeK [] [((Sum.inr "come" : Key), V.int 2), ((Sum.inr "serve" : Key), V.int 1)])) = G3 at t3
              have t03 := t02.trans t3
              have hb3 : G3 b = some (.lst (.str "serve" :: ys')) ∨ G3 b = some (.tup (.str "serve" :: ys')) := hb2.imp (fun h => t3 _ _ h) (fun h => t3 _ _ h)
              have yesS : isDeedD di "serve" 1 = true := by
                unfold isDeedD
                rw [hes]
                show (decide ((PyData.str "serve" :: es').length = 1) && decide (("serve" : Str) = "serve")) = true
                have h1 : (PyData.str "serve" :: es').length = 1 := by rw [List.length_cons, ← lt', ← List.length_cons (a := V.str "serve")]; exact len1
                rw [decide_eq_true h1, decide_eq_true rfl]
                rfl
              refine ⟨.ref b, rfl, rix_of (i := 0) hb3 rfl ⟨rfl, _, rfl, ite2 (fun _ => ?_) (fun y => absurd (decide_eq_true rfl) y)⟩⟩
              refine ⟨.int (n : Int), rfl, rfl, _, rfl, ite2 (fun e5 => ?_) (fun e5 => ?_)⟩
              · have n0 : n = 0 := by
                  have := V.int.inj (of_decide_eq_true e5)
                  omega
                exact bad G3 t03 noC (.inr n0)
              have np : 0 < n := by
                by_cases c : n = 0
                · subst c
                  exact absurd (decide_eq_true rfl) e5
                · omega
              -- not a coming
              refine ⟨.ref b, rfl, rix_of (i := 0) hb3 rfl ⟨rfl, _, rfl, ite2 (fun y => absurd (V.str.inj (of_decide_eq_true y)) (by decide +kernel)) (fun _ => ?_)⟩⟩
              refine iteF ?_
              refine ⟨.int (n : Int), rfl, fun p4 np4 => ⟨1, rfl, upd_same, [((Sum.inr "come" : Key), V.int 1), ((Sum.inr "serve" : Key), V.int (-1))], rfl, by decide, .ref b, rfl, rix_of (i := 0) (hb3.imp (fun h => two np4 _ _ h) (fun h => two np4 _ _ h)) rfl ⟨p4, .int (-1), rfl, dget _ _ 1 (-1) _ _ (.inr ⟨rfl, rfl⟩), (n : Int), -1, rfl, rfl, ⟨n - 1, some (.ref b), ?_, ?_⟩, sG.trans (t03.trans (two np4))⟩⟩⟩
              · show [some (V.ref a), some (V.int ((n : Int) + -1)), some (V.ref b)] = _
                rw [show ((n - 1 : Nat) : Int) = (n : Int) + -1 by omega]
              · rw [hst]
                conv => lhs; unfold standF
                rw [noC, if_neg Bool.false_ne_true, if_pos yesS, if_pos np]
            · rw [show (!(decide (z = ("come" : Str)) || decide (z = ("serve" : Str)))) = true from by simp [hz, hz2]]
              exact iteT (bad G2 t02 (by unfold isComD; rw [head_no hes (show headIs "come" (.str z :: es') = false from decide_eq_false hz)]; rfl) (.inl (head_no hes (show headIs "serve" (.str z :: es') = false from decide_eq_false hz2))))
        | _ => exact iteT (bad G1 t1 (by unfold isComD; rw [head_no hes (nostr (fun _ => nofun) _)]; rfl) (.inl (head_no hes (nostr (fun _ => nofun) _))))
    · obtain ⟨⟨n, y2, rfl, hst⟩, sG⟩ := hP
      have q1 := q G (s1.trans sG)
      have : isHistD d = true := by
        rw [e2, hst, hx.length, List.drop_length]
        rfl
      rw [this] at q1
      exact q1
end
end CL
set_option Elab.async false
set_option linter.all false
set_option pp.maxSteps 600
set_option maxRecDepth 100000
set_option maxHeartbeats 4000000
namespace CL
open PySem PySem.Spec PyProof.Rows L2 GE
theorem Flds.hist {fs : List (Str × V)} {L : LnA} (h : Flds fs L) : fs.lookup ("history" : Str) = none := h.no _ (by decide +kernel) (by decide +kernel) (by decide +kernel) (by decide +kernel) (by decide +kernel)
def isCome : Deed → Bool
  | .come _ => true
  | .serve => false
theorem foldl_come : ∀ (ds : List Deed) (s : LS), (ds.foldl stepS s).ps.length = s.ps.length + (ds.filter isCome).length
  | [], s => rfl
  | d :: ds, s => by
    show ((ds.foldl stepS (stepS s d))).ps.length = _
    rw [foldl_come ds, List.filter_cons]
    cases d with
    | come p =>
      have hps : (stepS s (.come p)).ps.length = s.ps.length + 1 := by show (bump _ _ ++ [0]).length = _; rw [List.length_append, bump_len]; rfl
      rw [hps]
      show _ = _ + ((_ :: _ : List Deed)).length
      rw [List.length_cons]
      omega
    | serve => rfl
theorem come_count (ds : List Deed) : (ds.filter isCome).length = (stF ds).ps.length := by
  have h := foldl_come ds LS.nil
  have e : ds.foldl stepS LS.nil = stF ds := rfl
  have z : LS.nil.ps.length = 0 := rfl
  rw [e, z] at h
  omega
theorem serve_eq {s : LS} {x : Nat} {xs : List Nat} {r : Option Int} (h1 : s.xs = x :: xs) (h2 : s.rs.head? = some r) : serveS s x r = stepS s .serve := by
  show serveS s x r = serveS s (s.xs.headD 0) (s.rs.headD none)
  rw [h1, List.headD_cons, List.headD_eq_head?_getD, h2]
  rfl
/-! ### a bag, a line, and the deeds that it came by -/
structure Dis2 (r : Bg) (L : LnA) (A : Addr) : Prop where
  aa : ¬ L.has r.a
  ac : ¬ L.has r.c
  ag : ¬ L.has A
  ar : A ≠ r.a
structure Sd (C : Addr) (n : Nat) (H : Hp) (r : Bg) (L : LnA) (A : Addr) (s : LS) (ws : List V) (ds : List Deed) : Prop where
  bag : BagAt n H r
  ln : LineAt C H L s
  al : H A = some (.lst ws)
  aw : All2 (DeedV H) ws ds
/-- all but the bag and a line's own lists stays -/
structure Mx (r : Bg) (L : LnA) (H H' : Hp) : Prop where
  keep : ∀ b o, b ≠ r.a → ¬ L.has b → H b = some o → H' b = some o
theorem Mx.of {r : Bg} {L : LnA} {H H' : Hp} (m : Same H H') : Mx r L H H' := ⟨fun b o _ _ e => m b o e⟩
theorem Mx.mv {r : Bg} {L : LnA} {H H' : Hp} (m : Mv r H H') : Mx r L H H' := ⟨fun b o n _ e => m.keep b o n e⟩
theorem Mx.mvL {r : Bg} {L : LnA} {H H' : Hp} (m : MvL L H H') : Mx r L H H' := ⟨fun b o _ n e => m.keep b o n e⟩
theorem Mx.trans {r : Bg} {L : LnA} {H H1 H2 : Hp} (a : Mx r L H H1) (b : Mx r L H1 H2) : Mx r L H H2 := ⟨fun c o n1 n2 e => b.keep c o n1 n2 (a.keep c o n1 n2 e)⟩
section
variable {C : Addr} {n m : Nat} {H H' : Hp} {r : Bg} {L : LnA} {A : Addr} {s s' : LS} {ws : List V} {ds : List Deed}
theorem Sd.same (w : Sd C n H r L A s ws ds) (m : Same H H') : Sd C n H' r L A s ws ds := ⟨w.bag.same m, w.ln.same m, m _ _ w.al, w.aw.imp fun _ _ => DeedV.kx fun t ys e => m _ _ e⟩
theorem Sd.mv (w : Sd C n H r L A s ws ds) (d : Dis2 r L A) (b : BagAt m H' r) (v : Mv r H H') : Sd C m H' r L A s ws ds := ⟨b, w.ln.mv w.bag d.aa v, v.keep _ _ d.ar w.al, w.aw.imp fun _ _ => DeedV.kx fun t ys e => v.keep _ _ (fun z => by
  obtain ⟨vs, e2⟩ := w.bag.isl
  rw [z, e2] at e
  cases e) e⟩
theorem Sd.mvL (w : Sd C n H r L A s ws ds) (d : Dis2 r L A) (l : LineAt C H' L s') (v : MvL L H H') : Sd C n H' r L A s' ws ds := ⟨w.bag.mvL d.aa d.ac v, l, v.keep _ _ d.ag w.al, w.aw.imp fun _ _ => DeedV.kx fun t ys e => v.keep _ _ (w.ln.nol e fun _ => nofun) e⟩
end
theorem sm_int {i : Int} (h0 : 0 ≤ i) (h1 : i < 1000) : B 100 1000 (.int i) := by
  have h2 : (1000 : Nat) ≤ 2 ^ 140 := by decide
  exact (b_int (k := 0) (by omega)).mono (by decide) (by decide)
abbrev sLRight : Stmt := topS 41
abbrev nRight : List Str := ["line", "deeds", "stand", "rest", "past", "told", "due", "some", "person"]
theorem scRight : FnScope nRight ["line", "deeds"] (defScope sLRight) := ⟨rfl, rfl, rfl, by decide +kernel, rfl, by decide +kernel, by decide +kernel⟩
theorem opts_rp {H : Hp} : ∀ os : List (Option Int), RpAll H (os.map optV) (os.map optD)
  | [] => .nil
  | o :: os => .cons (rp_opt2 o) (opts_rp os)
def deedD : Deed → PyData
  | .come p => .tuple [.str "come", optD p]
  | .serve => .tuple [.str "serve"]
theorem deeds_rp {H : Hp} : ∀ {ws : List V} {ds : List Deed}, All2 (DeedV H) ws ds → RpAll H ws (ds.map deedD)
  | _, _, .nil => .nil
  | _, d :: _, .cons h t => by
    refine .cons ?_ (deeds_rp t)
    cases d with
    | come p =>
      obtain ⟨t, rfl, e⟩ := h
      exact .tup e (.cons (.str _) (.cons (rp_opt2 p) .nil))
    | serve =>
      obtain ⟨t, rfl, e⟩ := h
      exact .tup e (.cons (.str _) .nil)
def Rng (o : Option Int) : Prop := isPatience (optD o) = true
theorem rng_int {i : Int} (h : Rng (some i)) : 0 ≤ i ∧ i ≤ GREAT := by
  have h : (decide (0 ≤ i) && decide (i ≤ GREAT)) = true := h
  rw [Bool.and_eq_true] at h
  exact ⟨of_decide_eq_true h.1, of_decide_eq_true h.2⟩
theorem goes_rng : ∀ (p : Nat) (l : List (Option Int)), (∀ o ∈ l, Rng o) → ∀ o ∈ (goes p l).2, Rng o
  | 0, l, h => h
  | p + 1, l, h => by
    cases q : l[p]? with
    | none => rw [goes_eX q]; exact h
    | some o =>
      cases o with
      | none => rw [goes_eN q]; exact goes_rng p l h
      | some v =>
        by_cases hv : v = 0
        · subst hv; rw [goes_e0 q]; exact h
        · rw [goes_eS q hv]
          refine goes_rng p _ fun o ho => ?_
          rcases List.mem_or_eq_of_mem_set ho with z | z
          · exact h o z
          · subst z
            obtain ⟨h1, h2⟩ := rng_int (h _ (List.mem_of_getElem? q))
            exact pat_some (by omega) (by omega)
theorem Vd.rng : ∀ {ds : List Deed}, (∀ d ∈ ds, OkD d) → ∀ o ∈ (stF ds).rs, Rng o := by
  intro ds
  induction hn : ds.length generalizing ds with
  | zero =>
    intro _ o ho
    rw [List.eq_nil_of_length_eq_zero hn] at ho
    cases ho
  | succ n ih =>
    intro h
    rcases List.eq_nil_or_concat ds with z | ⟨es, d, z⟩
    · subst z; cases hn
    · rw [List.concat_eq_append] at z
      subst z
      have hes := ih (ds := es) (by rw [List.length_append] at hn; simp at hn; exact hn) fun d hd => h d (List.mem_append.mpr (.inl hd))
      rw [stF_snoc]
      intro o ho
      cases d with
      | come p =>
        rcases List.mem_append.mp (show o ∈ (goes (stF es).rs.length (stF es).rs).2.take (stF es).k ++ p :: (goes (stF es).rs.length (stF es).rs).2.drop (stF es).k from ho) with z | z
        · exact goes_rng _ _ hes o (List.mem_of_mem_take z)
        · rcases List.mem_cons.mp z with z | z
          · rw [z]; exact h (.come p) (List.mem_append.mpr (.inr (List.mem_singleton.mpr rfl))) p rfl
          · exact goes_rng _ _ hes o (List.mem_of_mem_drop z)
      | serve => exact hes o (List.mem_of_mem_tail ho)
theorem b_rng {o : Option Int} (h : Rng o) : B 0 200 (optD o) := by
  cases o with
  | none => exact b_none
  | some i =>
    obtain ⟨h1, h2⟩ := rng_int h
    have h3 : (1000000000000000000000000000000 : Nat) ≤ 2 ^ 140 := by decide
    have h4 : GREAT = 1000000000000000000000000000000 := rfl
    have h5 : (2 : Nat) ^ 140 = 1393796574908163946345982392040522594123776 := by decide +kernel
    exact b_int (by omega)
def dataR (ds : List Deed) : PyData := .list [.list ((so (stF ds).xs).map optD), .list ((stF ds).rs.map optD), .list (ds.map deedD)]
theorem dataR_b {ds : List Deed} (hv : Vd ds) (ho : ∀ d ∈ ds, OkD d) (hl : ds.length ≤ 300) : B 100 10000000 (dataR ds) := by
  obtain ⟨c1, c2⟩ := ds_count hv 300 hl
  have ok := hv.ok
  have b1 : B 1 70000 (.list ((so (stF ds).xs).map optD)) := by
    refine (B.list (k := 0) (u := 200) (n := 300) (fun x hx => ?_) (by rw [List.length_map]; unfold so; rw [List.length_map]; exact c2)).mono (by decide) (by decide)
    obtain ⟨o, ho, rfl⟩ := List.mem_map.mp hx
    obtain ⟨y, hy, rfl⟩ := List.mem_map.mp ho
    have := ok.lt y hy
    have h3 : (1000 : Nat) ≤ 2 ^ 140 := by decide
    exact b_int (by omega)
  have b2 : B 1 70000 (.list ((stF ds).rs.map optD)) := by
    refine (B.list (k := 0) (u := 200) (n := 300) (fun x hx => ?_) (by rw [List.length_map, ← ok.len]; exact c2)).mono (by decide) (by decide)
    obtain ⟨o, hmem, rfl⟩ := List.mem_map.mp hx
    exact b_rng (Vd.rng ho o hmem)
  have b3 : B 2 200000 (.list (ds.map deedD)) := by
    refine (B.list (k := 1) (u := 500) (n := 300) (fun x hx => ?_) (by rw [List.length_map]; exact hl)).mono (by decide) (by decide)
    obtain ⟨d, hmem, rfl⟩ := List.mem_map.mp hx
    have bs : ∀ z : Str, (reprText z).length ≤ 200 → B 0 200 (.str z) := fun z hz => ⟨Nat.zero_le _, hz, rfl⟩
    have w1 : B 0 200 (.str "come") := bs _ (by decide +kernel)
    have w2 : B 0 200 (.str "serve") := bs _ (by decide +kernel)
    cases d with
    | come p =>
      refine (B.tuple (k := 0) (u := 200) (n := 2) (fun y hy => ?_) (Nat.le_refl _)).mono (by decide) (by decide)
      rcases List.mem_cons.mp hy with z | z
      · rw [z]; exact w1
      · rw [List.mem_singleton.mp z]; exact b_rng (ho _ hmem p rfl)
    | serve =>
      refine (B.tuple (k := 0) (u := 200) (n := 1) (fun y hy => ?_) (Nat.le_refl _)).mono (by decide) (by decide)
      rw [List.mem_singleton.mp hy]; exact w2
  refine (B.list (k := 2) (u := 200000) (n := 3) (fun x hx => ?_) (Nat.le_refl _)).mono (by decide) (by decide)
  rcases List.mem_cons.mp hx with z | z
  · rw [z]; exact b1.mono (by decide) (by decide)
  · rcases List.mem_cons.mp z with z | z
    · rw [z]; exact b2.mono (by decide) (by decide)
    · rw [List.mem_singleton.mp z]; exact b3
/-- what is told, as data -/
theorem dataR_rp {H : Hp} {ds : List Deed} {a q l h : Addr} {ws : List V} (ea : H a = some (.lst [.ref q, .ref l, .ref h])) (eq : H q = some (.lst (ppl (stF ds).xs))) (el : H l = some (.lst ((stF ds).rs.map optV))) (eh : H h = some (.lst ws)) (aw : All2 (DeedV H) ws ds) : Rp H (.ref a) (dataR ds) := by
  rw [ppl_so] at eq
  exact .lst ea (.cons (.lst eq (opts_rp _)) (.cons (.lst el (opts_rp _)) (.cons (.lst eh (deeds_rp aw)) .nil)))
theorem LineAt.kd {C : Addr} {H H' : Hp} {L : LnA} {s : LS} (h : LineAt C H L s) (k : ∀ b o, (∀ kvs, o ≠ .dK kvs) → H b = some o → H' b = some o) : LineAt C H' L s := by
  obtain ⟨dx, fs, ho, hf⟩ := h.ob
  obtain ⟨vs, e1, a1⟩ := h.se
  obtain ⟨ws, e2, a2⟩ := h.de
  have kt : ∀ t ys, H t = some (.tup ys) → H' t = some (.tup ys) := fun t ys e => k t _ (fun _ => nofun) e
  exact ⟨⟨dx, fs, k _ _ (fun _ => nofun) ho, hf⟩, k _ _ (fun _ => nofun) h.pe, k _ _ (fun _ => nofun) h.re, k _ _ (fun _ => nofun) h.pa, ⟨vs, k _ _ (fun _ => nofun) e1, a1.imp fun _ _ => ServV.kx kt⟩, ⟨ws, k _ _ (fun _ => nofun) e2, a2.imp fun _ _ => DeedV.kx kt⟩, h.nd, h.ok⟩
def spRight (C : Addr) : Sp := fun vs H Q _ => ∃ (L : LnA) (A : Addr) (ws : List V) (ds : List Deed), vs = [.ref L.o, .ref A] ∧ LineAt C H L (stF ds) ∧ H A = some (.lst ws) ∧ All2 (DeedV H) ws ds ∧ Vd ds ∧ (∀ d ∈ ds, OkD d) ∧ ds.length ≤ 300 ∧ ∀ H', Same H H' → Q (.bl true) H'
section
variable {P : Program} {w : World} {K : PySem.W.Frag} {mg : Str → Option Value} {base : Heap} {C : Addr}
theorem ok_right {f fQ fL fH fW fLN : Addr} {fd fdQ fdL fdH fdW fdLN : FuncData} (F : Fun K "_law_right" "_law_right" sLRight f fd) (hT : Nm mg) (T : LnT K mg C) (hrepr : mg "repr" = none) (hsys : ∃ o, base.get? sysModules = some o)
    (mQ : Meth K C "queue" fQ) (GQ : FnOk P w K mg base CX0 1 fQ fdQ ["self"] (spQueM C)) (bQ : Binds K fdQ ["self"] [])
    (mL : Meth K C "left" fL) (GL : FnOk P w K mg base CX0 1 fL fdL ["self"] (spLeftM C)) (bL : Binds K fdL ["self"] [])
    (mH : Meth K C "history" fH) (GH : FnOk P w K mg base CX0 1 fH fdH ["self"] (spHistM C)) (bH : Binds K fdH ["self"] [])
    (mW : Meth K C "went_past" fW) (GW : FnOk P w K mg base CX0 2 fW fdW ["self", "person"] (spWentM C)) (bW : Binds K fdW ["self", "person"] [])
    (hLs : PySem.W.findIn K (.ref C) "__len__" = some (some (.ref fLN))) (hLf : PySem.W.isFn K (.ref fLN) = true) (GLN : FnOk P w K mg base CX0 1 fLN fdLN ["self"] (spLenM C)) (bLN : Binds K fdLN ["self"] [])
    (CDo : Cal P w K mg base 4 "_law_done" ["deeds"] spDone) : FnG P w K mg base 6 f fd ["line", "deeds"] (spRight C) := by
  refine fng_of F scRight (fun vs H Q E ⟨L, A, ws, ds, e, _⟩ => by rw [e]; rfl) (fun cdv A' outer s H vs Q E hgd hr h => ?_)
  obtain ⟨L, A, ws, ds, rfl, ln, eA, hws, hv, ho, hl, q⟩ := h
  have nd := scRight.nd
  have hu := hu_of hr
  refine ⟨_, (pss_cons (ps_asg (pe_cal CDo (hr.mono (by decide)) (by rfl) (pa_cons (pv 1) pa_nil)) (pg_tup rfl (pgs_cons (pg_name (i := 2) nd rfl (.inl rfl)) (pgs_cons (pg_name (i := 3) nd rfl (.inr rfl)) (pgs_cons (pg_name (i := 4) nd rfl (.inr rfl)) pgs_nil)))))
      (pss_cons (ps_set (i := 5) nd rfl (.inl rfl) (pe_lst (pa_cons (pe_meth0 (pv 0) T.cl mQ GQ (hr.mono (by decide)) bQ .nil pass0) (pa_cons (pe_meth0 (pv 0) T.cl mL GL (hr.mono (by decide)) bL .nil pass0) (pa_cons (pe_meth0 (pv 0) T.cl mH GH (hr.mono (by decide)) bH .nil pass0) pa_nil)))))
      (pss_cons (ps_set (i := 6) nd rfl (.inl rfl) (pe_lst (pa_cons (pv 2) (pa_cons (pe_lc (own := [("person", 8)]) (g := gName 8) (tt := tYes) rfl nd (pi_list (pv 2)) (blkOk_by (own := [("person", 8)]) (N := nRight) (sc := defScope sLRight) (by decide +kernel)) (fun _ _ _ _ _ => pg_name (i := 8) nd rfl (Or.inl rfl)) (fun _ _ _ _ _ => pts_nil) (fun _ _ _ _ _ => dget_blk hu (pv 3) (pv 8) (fun _ _ => rfl))) (pa_cons (pv 1) pa_nil)))))
      (pss_cons (ps_if (PW.pt (pw_or (pt_cmpR op_ne (pe_callB (call_reprD hgd hr hsys) (by rfl) hrepr (by decide +kernel) (pa_cons (pv 5) pa_nil)) (pe_callB (call_reprD hgd hr hsys) (by rfl) hrepr (by decide +kernel) (pa_cons (pv 6) pa_nil)) (nomark _)) (pw_or1 (pt_cmpR op_ne (pe_callB (call_lenOwn GLN (hr.mono (by decide)) hLs hLf bLN pass0) (by rfl) hT.len PySem.boot_len (pa_cons (pv 0) pa_nil)) (pe_callB call_len_seq (by rfl) hT.len PySem.boot_len (pa_cons (pv 2) pa_nil)) (nomark _))))) (pss_one (ps_ret pe_bl)) pss_nil)
      (pss_cons (ps_if (pt_cmpR (op_neE hr.units0) (pe_lock (pe_lc (own := [("person", 8)]) (g := gName 8) rfl nd (pi_keys (pv 4)) (blkOk_by (own := [("person", 8)]) (N := nRight) (sc := defScope sLRight) (by decide +kernel)) (fun _ _ _ _ _ => pg_name (i := 8) nd rfl (Or.inl rfl)) (fun _ _ _ _ _ => pts_one (pt_cmpR op_ne (pe_meth (pv 0) T.cl mW GW (hr.mono (by decide)) bW .nil pass0 (pa_cons (pv 8) pa_nil)) (dget_blk hu (pv 4) (pv 8) (fun _ _ => rfl)) (nomark _))) (fun _ _ _ _ _ => pv 8))) (pe_lst pa_nil) (nomark _)) (pss_one (ps_ret pe_bl)) pss_nil)
      (pss_cons (ps_for PassesOwn.never rfl (pi_list (pv 5)) (pg_name (i := 7) nd rfl (.inl rfl)) (pss_one (ps_expr (pe_bm PySem.F.plainAttrs_list PySem.F.slot_list_append PySem.F.type_list_append mt_append (pv 7) (pa_cons pe_non pa_nil)))))
      (pss_one (ps_ret (pe_cmpR op_eq (pe_callB (call_reprD hgd hr hsys) (by rfl) hrepr (by decide +kernel) (pa_cons (pe_lst (pa_cons (pe_meth0 (pv 0) T.cl mQ GQ (hr.mono (by decide)) bQ .nil pass0) (pa_cons (pe_meth0 (pv 0) T.cl mL GL (hr.mono (by decide)) bL .nil pass0) (pa_cons (pe_meth0 (pv 0) T.cl mH GH (hr.mono (by decide)) bH .nil pass0) pa_nil)))) pa_nil)) (pe_callB (call_reprD hgd hr hsys) (by rfl) hrepr (by decide +kernel) (pa_cons (pv 6) pa_nil)) (nomark _)))))))))), ?_⟩
  have hok := hv.ok
  have hB := dataR_b hv ho hl
  obtain ⟨c1, c2⟩ := ds_count hv 300 hl
  -- stand, rest, past
  refine ⟨.ref A, rfl, A, ws, ds, rfl, eA, hws, hv, by omega, fun t S D P1 H1 f1 s1 et eS hR hf eP nS nD nP => ⟨t, _, rfl, SqT.of et, rfl, .ref S, _, rfl, .ref D, _, rfl, .ref P1, _, rfl, rfl, ?_⟩⟩
  have ln1 := ln.same s1
  have aw1 := hws.imp fun _ _ => DeedV.kx fun t ys e => s1 t _ e
  show tSeq _ _ _ [some (.ref L.o), some (.ref A), some (.ref S), some (.ref D), some (.ref P1), none, none, none, none] H1
  -- told
  obtain ⟨dx, fs, hob, hf'⟩ := ln1.ob
  refine ⟨.ref L.o, rfl, L.o, dx, fs, rfl, hob, hf'.queue, L, _, rfl, ln1, fun q1 n1 => ?_⟩
  have s2 : Same H1 (upd H1 q1 (.lst (ppl (stF ds).xs))) := same_upd n1
  have e1 : (upd H1 q1 (.lst (ppl (stF ds).xs))) q1 = some (.lst (ppl (stF ds).xs)) := upd_same
  generalize upd H1 q1 (.lst (ppl (stF ds).xs)) = H2 at s2 e1
  refine ⟨.ref L.o, rfl, L.o, dx, fs, rfl, s2 _ _ hob, hf'.left, L, _, rfl, ln1.same s2, fun q2 n2 => ?_⟩
  have s3 : Same H2 (upd H2 q2 (.lst ((stF ds).rs.map optV))) := same_upd n2
  have e2 : (upd H2 q2 (.lst ((stF ds).rs.map optV))) q2 = some (.lst ((stF ds).rs.map optV)) := upd_same
  generalize upd H2 q2 (.lst ((stF ds).rs.map optV)) = H3 at s3 e2
  have q12 : q1 ≠ q2 := ne_of_none e1 n2
  have e1' := e1
  have e2' := e2
  refine ⟨.ref L.o, rfl, L.o, dx, fs, rfl, s3 _ _ (s2 _ _ hob), hf'.hist, L, _, rfl, (ln1.same s2).same s3, fun q3 ws3 n3 aw3 => ?_⟩
  rw [stF_ds] at aw3
  have s4 : Same H3 (upd H3 q3 (.lst ws3)) := same_upd n3
  have e3 : (upd H3 q3 (.lst ws3)) q3 = some (.lst ws3) := upd_same
  generalize upd H3 q3 (.lst ws3) = H4 at s4 e3
  have e3' := e3
  have q13 : q1 ≠ q3 := ne_of_none (s3 _ _ e1) n3
  have q23 : q2 ≠ q3 := ne_of_none e2 n3
  refine ⟨small_le (by show 3 ≤ 1000; decide), fun TO nTO => ?_⟩
  have s5 : Same H4 (upd H4 TO (.lst [.ref q1, .ref q2, .ref q3])) := same_upd nTO
  have eTO : (upd H4 TO (.lst [.ref q1, .ref q2, .ref q3])) TO = some (.lst [.ref q1, .ref q2, .ref q3]) := upd_same
  dsimp only [gName]
  show tSeq _ _ _ [some (.ref L.o), some (.ref A), some (.ref S), some (.ref D), some (.ref P1), some (.ref TO), none, none, none] (upd H4 TO (.lst [.ref q1, .ref q2, .ref q3]))
  generalize upd H4 TO (.lst [.ref q1, .ref q2, .ref q3]) = H5 at s5 eTO
  have s15 : Same H1 H5 := (s2.trans s3).trans (s4.trans s5)
  have e1 := s5 _ _ (s4 _ _ (s3 _ _ e1))
  have e2 := s5 _ _ (s4 _ _ e2)
  have e3 := s5 _ _ e3
  have aw5 : All2 (DeedV H5) ws3 ds := aw3.imp fun _ _ => DeedV.kx fun t ys e => s5 _ _ (s4 _ _ e)
  have ne13 : ∀ b o, H1 b = some o → b ≠ q1 ∧ b ≠ q2 ∧ b ≠ q3 ∧ b ≠ TO := fun b o e => ⟨ne_of_none e n1, ne_of_none (s2 _ _ e) n2, ne_of_none (s3 _ _ (s2 _ _ e)) n3, ne_of_none (s4 _ _ (s3 _ _ (s2 _ _ e))) nTO⟩
  have rp5 := dataR_rp eTO e1 e2 e3 aw5
  obtain ⟨kvs, k1, k2, k3⟩ := hR
  -- due
  refine ⟨.ref S, rfl, .ref S, rfl, S, rfl, ⟨_, SqL.of (s15 _ _ eS)⟩, fun D2 nD2 => ?_⟩
  have nDD : D ≠ D2 := fun z => by rw [← z, s15 _ _ k1] at nD2; cases nD2
  have nSD : S ≠ D2 := fun z => by rw [← z, s15 _ _ eS] at nD2; cases nD2
  refine lc_list (K := K) (a := S) (xs := ppl (stF ds).xs) (fun i G => (∀ b o, b ≠ D2 → H5 b = some o → G b = some o) ∧ G D2 = some (.lst ((((stF ds).xs.take i).map f1).map optV)))
    ⟨fun b o nb e => by rw [upd_ne nb]; exact e, upd_same⟩ (fun i G _ ⟨mG, _⟩ => SqL.of (mG _ _ nSD (s15 _ _ eS))) (fun i x G hx ⟨mG, eD⟩ => ?_) (fun G ⟨mG, eD⟩ => ?_)
  · have il : i < (stF ds).xs.length := by rw [← ppl_len]; exact (List.getElem?_eq_some_iff.mp hx).1
    rw [ppl_get il] at hx
    obtain rfl := (Option.some.inj hx).symm
    have hlt := hok.lt _ (List.getElem_mem il)
    have hsn : (((stF ds).xs.take (i + 1)).map f1).map optV = (((stF ds).xs.take i).map f1).map optV ++ [optV (f1 (stF ds).xs[i])] := by rw [List.take_add_one, List.getElem?_eq_getElem il, List.map_append, List.map_append]; rfl
    have dg : DGet G D (.int ((stF ds).xs[i] : Int)) (some (optV (f1 (stF ds).xs[i]))) := by rw [← k3 _ hlt]; exact DGet.k (k := Sum.inl ((stF ds).xs[i] : Int)) (mG _ _ nDD (s15 _ _ k1))
    refine ⟨rfl, yesT ⟨.ref D, rfl, .int ((stF ds).xs[i] : Int), rfl, D, _, rfl, dg, _, eD, by rw [List.length_map, List.length_map, List.length_take]; exact small1000 (by omega), fun b o nb e => by rw [upd_ne nb]; exact mG b o nb e, ?_⟩⟩
    rw [upd_same, hsn]
  rw [ppl_len, List.take_length, hf] at eD
  have s6 : Same H5 G := fun b o e => mG b o (fun z => by rw [z, nD2] at e; cases e) e
  refine ⟨.ref A, rfl, small_le (by show 3 ≤ 1000; decide), fun DU nDU => ?_⟩
  have s7 : Same G (upd G DU (.lst [.ref S, .ref D2, .ref A])) := same_upd nDU
  have eDU : (upd G DU (.lst [.ref S, .ref D2, .ref A])) DU = some (.lst [.ref S, .ref D2, .ref A]) := upd_same
  dsimp only [gName]
  show tSeq _ _ _ [some (.ref L.o), some (.ref A), some (.ref S), some (.ref D), some (.ref P1), some (.ref TO), some (.ref DU), none, none] (upd G DU (.lst [.ref S, .ref D2, .ref A]))
  generalize upd G DU (.lst [.ref S, .ref D2, .ref A]) = H7 at s7 eDU
  have s57 : Same H5 H7 := s6.trans s7
  have s17 : Same H1 H7 := s15.trans s57
  have eD7 := s7 _ _ eD
  have aw7 : All2 (DeedV H7) ws ds := aw1.imp fun _ _ => DeedV.kx fun t ys e => s17 t _ e
  have nq : ∀ b, (b = S ∨ b = D2 ∨ b = A ∨ b = DU) → b ≠ q1 ∧ b ≠ q2 ∧ b ≠ q3 := fun b hb => by
    rcases hb with rfl | rfl | rfl | rfl
    · obtain ⟨a1, a2, a3, _⟩ := ne13 _ _ eS; exact ⟨a1, a2, a3⟩
    · exact ⟨Ne.symm (ne_of_none e1 nD2), Ne.symm (ne_of_none e2 nD2), Ne.symm (ne_of_none e3 nD2)⟩
    · obtain ⟨a1, a2, a3, _⟩ := ne13 _ _ (s1 _ _ eA); exact ⟨a1, a2, a3⟩
    · exact ⟨Ne.symm (ne_of_none (s6 _ _ e1) nDU), Ne.symm (ne_of_none (s6 _ _ e2) nDU), Ne.symm (ne_of_none (s6 _ _ e3) nDU)⟩
  have rpD7 : Rp H7 (.ref DU) (dataR ds) := dataR_rp eDU (s17 _ _ eS) eD7 (s17 _ _ (s1 _ _ eA)) aw7
  have ln7 := ln1.same s17
  obtain ⟨dx7, fs7, hob7, hf7⟩ := ln7.ob
  -- repr(told) != repr(due) or len(line) != len(stand)
  refine ⟨.ref TO, rfl, .ref TO, dataR ds, TO, rfl, rfl, Rp.sm s57 rp5, hB, .ref DU, rfl, .ref DU, dataR ds, DU, rfl, rfl, rpD7, hB, rfl, _, rfl, ite2 (fun y => absurd y (by simp)) (fun _ => ?_)⟩
  refine ⟨.ref L.o, rfl, L.o, dx7, fs7, rfl, hob7, L, _, rfl, ln7, (stF ds).xs.length, rfl, by omega, .ref S, rfl, S, _, rfl, .inl (SqL.of (s17 _ _ eS)), rfl, _, rfl, ite2 (fun y => absurd y (by rw [ppl_len]; simp)) (fun _ => ?_)⟩
  -- went past
  have eP7 := s17 _ _ eP
  refine ⟨P1, _, eP7, trivial, fun od => ⟨.ref P1, rfl, P1, od, rfl, .inl ⟨_, upd_same, fun D3 nD3 => ?_⟩⟩⟩
  have hfz : (upd H7 P1 (.frz od (.dK (pastK (stF ds).ps)))) P1 = some (.frz od (.dK (pastK (stF ds).ps))) := upd_same
  have hkd : ∀ b o, (∀ kvs, o ≠ .dK kvs) → H7 b = some o → (upd H7 P1 (.frz od (.dK (pastK (stF ds).ps)))) b = some o := fun b o no e => by
    rw [upd_ne (fun z => by rw [z, eP7] at e; exact no _ (Option.some.inj e).symm)]
    exact e
  have bk : ∀ {G : Hp}, Same (upd H7 P1 (.frz od (.dK (pastK (stF ds).ps)))) G → Same H7 (upd G P1 (.dK (pastK (stF ds).ps))) := fun {G} m b o e => by
    by_cases z : b = P1
    · subst z
      rw [eP7] at e
      rw [upd_same]
      exact e
    · rw [upd_ne z]
      exact m b o (by rw [upd_ne z]; exact e)
  have lnF := ln7.kd hkd
  generalize upd H7 P1 (.frz od (.dK (pastK (stF ds).ps))) = HF at hfz bk lnF nD3
  have nP3 : P1 ≠ D3 := fun z => by rw [← z, hfz] at nD3; cases nD3
  refine lc_it walk_keys (fun i G => Same HF G ∧ G D3 = some (.lst [])) ⟨same_upd nD3, upd_same⟩ (fun i G _ ⟨mG, _⟩ => mG _ _ hfz) (fun i x G G' hi ⟨mG, eG⟩ hY => ?_) (fun G ⟨mG, eG⟩ => ⟨mG _ _ hfz, ?_⟩)
  · obtain ⟨rfl, kx, vx, hkv, rfl⟩ := hY
    rw [pastK_len] at hi
    have hkx : kx = (Sum.inl (i : Int) : Key) := by
      unfold pastK at hkv
      rw [List.getElem?_map, List.getElem?_range hi] at hkv
      cases hkv
      rfl
    subst hkx
    have lnG := lnF.same mG
    obtain ⟨dxG, fsG, hobG, hfG⟩ := lnG.ob
    refine ⟨rfl, .ref L.o, rfl, L.o, dxG, fsG, rfl, hobG, hfG.went, .int (i : Int), rfl, L, _, i, hi, rfl, lnG, fun H8 s8 => ?_⟩
    have dg : DGet H8 P1 (.int (i : Int)) (some (.int ((stF ds).ps.getD i 0 : Nat))) := by rw [← pastK_get (ps := (stF ds).ps) hi]; exact .inl ⟨_, Sum.inl (i : Int), .inr ⟨od, s8 _ _ (mG _ _ hfz)⟩, rfl, rfl⟩
    refine ⟨.ref P1, rfl, .int (i : Int), rfl, P1, _, rfl, dg, rfl, _, rfl, ite2 (fun y => absurd y ?_) (fun _ => ⟨mG.trans s8, s8 _ _ eG⟩)⟩
    have eg : (stF ds).ps.getD i 0 = (stF ds).ps[i] := by rw [List.getD_eq_getElem?_getD, List.getElem?_eq_getElem hi]; rfl
    rw [eg]
    simp
  · have s8 := bk mG
    have eD3 : (upd G P1 (.dK (pastK (stF ds).ps))) D3 = some (.lst []) := by rw [upd_ne (Ne.symm nP3)]; exact eG
    generalize upd G P1 (.dK (pastK (stF ds).ps)) = H8 at s8 eD3
    refine ⟨Nat.zero_le _, fun Z nZ => ⟨D3, Z, [], rfl, rfl, (same_upd nZ) _ _ eD3, upd_same, _, rfl, iteF ?_⟩⟩
    have s9 : Same H7 (upd H8 Z (.lst [])) := s8.trans (same_upd nZ)
    generalize upd H8 Z (.lst []) = H9 at s9
    have s59 := s57.trans s9
    have s19 := s17.trans s9
    -- for some in told: some.append(None)
    refine ⟨.ref TO, rfl, TO, rfl, ⟨_, SqL.of (s59 _ _ eTO)⟩, for_list (xs := [.ref q1, .ref q2, .ref q3]) (fun i σ G => (∃ y, σ = [some (.ref L.o), some (.ref A), some (.ref S), some (.ref D), some (.ref P1), some (.ref TO), some (.ref DU), y, none]) ∧ (∀ b, b ≠ q1 → b ≠ q2 → b ≠ q3 → G b = H9 b) ∧ (∃ us, G q1 = some (.lst us) ∧ us.length ≤ 300 + i) ∧ (∃ us, G q2 = some (.lst us) ∧ us.length ≤ 300 + i) ∧ ∃ us, G q3 = some (.lst us) ∧ us.length ≤ 300 + i)
      ⟨⟨_, rfl⟩, fun _ _ _ _ => rfl, ⟨_, s59 _ _ e1, by rw [ppl_len]; omega⟩, ⟨_, s59 _ _ e2, by rw [List.length_map, ← hok.len]; omega⟩, ⟨_, s59 _ _ e3, by rw [aw5.length]; omega⟩⟩
      (fun i σ G _ ⟨_, kG, _⟩ => SqL.of (by
        rw [kG TO (Ne.symm (ne_of_none (s4 _ _ (s3 _ _ e1')) nTO)) (Ne.symm (ne_of_none (s4 _ _ e2') nTO)) (Ne.symm (ne_of_none e3' nTO))]
        exact s59 _ _ eTO)) (fun i x σ G hx hP => ?_) (fun σ G hP => ?_)⟩
    · obtain ⟨⟨y, rfl⟩, kG, ⟨u1, g1, z1⟩, ⟨u2, g2, z2⟩, ⟨u3, g3, z3⟩⟩ := hP
      have hi3 := (List.getElem?_eq_some_iff.mp hx).1
      have sz : 1000 ≤ sizeLine := by decide
      have hi3 : i < 3 := hi3
      match i, hi3, hx with
      | 0, _, hx =>
        cases hx
        exact ⟨.ref q1, rfl, .inl ⟨rfl, _, SqL.of g1⟩, q1, u1, .non, rfl, rfl, g1, by omega, ⟨_, rfl⟩, fun b a1 a2 a3 => by rw [upd_ne a1]; exact kG b a1 a2 a3, ⟨_, upd_same, by rw [List.length_append, List.length_singleton]; omega⟩, ⟨u2, by rw [upd_ne (Ne.symm q12)]; exact g2, by omega⟩, ⟨u3, by rw [upd_ne (Ne.symm q13)]; exact g3, by omega⟩⟩
      | 1, _, hx =>
        cases hx
        exact ⟨.ref q2, rfl, .inl ⟨rfl, _, SqL.of g2⟩, q2, u2, .non, rfl, rfl, g2, by omega, ⟨_, rfl⟩, fun b a1 a2 a3 => by rw [upd_ne a2]; exact kG b a1 a2 a3, ⟨u1, by rw [upd_ne q12]; exact g1, by omega⟩, ⟨_, upd_same, by rw [List.length_append, List.length_singleton]; omega⟩, ⟨u3, by rw [upd_ne (Ne.symm q23)]; exact g3, by omega⟩⟩
      | 2, _, hx =>
        cases hx
        exact ⟨.ref q3, rfl, .inl ⟨rfl, _, SqL.of g3⟩, q3, u3, .non, rfl, rfl, g3, by omega, ⟨_, rfl⟩, fun b a1 a2 a3 => by rw [upd_ne a3]; exact kG b a1 a2 a3, ⟨u1, by rw [upd_ne q13]; exact g1, by omega⟩, ⟨u2, by rw [upd_ne q23]; exact g2, by omega⟩, ⟨_, upd_same, by rw [List.length_append, List.length_singleton]; omega⟩⟩
    · obtain ⟨⟨y, rfl⟩, kG, _⟩ := hP
      have s1G : Same H1 G := fun b o e => by
        obtain ⟨a1, a2, a3, _⟩ := ne13 b o e
        rw [kG b a1 a2 a3]
        exact s19 _ _ e
      have up : ∀ {b : Addr} {o : HO}, (b = S ∨ b = D2 ∨ b = A ∨ b = DU) → H7 b = some o → G b = some o := fun {b o} hb e => by
        obtain ⟨a1, a2, a3⟩ := nq b hb
        rw [kG b a1 a2 a3]
        exact s9 _ _ e
      have rpG : Rp G (.ref DU) (dataR ds) := dataR_rp (up (.inr (.inr (.inr rfl))) eDU) (s1G _ _ eS) (up (.inr (.inl rfl)) eD7) (s1G _ _ (s1 _ _ eA)) (aw1.imp fun _ _ => DeedV.kx fun t ys e => s1G t _ e)
      have lnG := ln1.same s1G
      dsimp only []
      show tRet _ _ [some (.ref L.o), some (.ref A), some (.ref S), some (.ref D), some (.ref P1), some (.ref TO), some (.ref DU), y, none] G
      obtain ⟨dx, fs, hob, hf'⟩ := lnG.ob
      refine ⟨.ref L.o, rfl, L.o, dx, fs, rfl, hob, hf'.queue, L, _, rfl, lnG, fun q1 n1 => ?_⟩
      have s2 : Same G (upd G q1 (.lst (ppl (stF ds).xs))) := same_upd n1
      have e1 : (upd G q1 (.lst (ppl (stF ds).xs))) q1 = some (.lst (ppl (stF ds).xs)) := upd_same
      generalize upd G q1 (.lst (ppl (stF ds).xs)) = H2 at s2 e1
      refine ⟨.ref L.o, rfl, L.o, dx, fs, rfl, s2 _ _ hob, hf'.left, L, _, rfl, lnG.same s2, fun q2 n2 => ?_⟩
      have s3 : Same H2 (upd H2 q2 (.lst ((stF ds).rs.map optV))) := same_upd n2
      have e2 : (upd H2 q2 (.lst ((stF ds).rs.map optV))) q2 = some (.lst ((stF ds).rs.map optV)) := upd_same
      generalize upd H2 q2 (.lst ((stF ds).rs.map optV)) = H3 at s3 e2
      refine ⟨.ref L.o, rfl, L.o, dx, fs, rfl, s3 _ _ (s2 _ _ hob), hf'.hist, L, _, rfl, (lnG.same s2).same s3, fun q3 ws3 n3 aw3 => ?_⟩
      rw [stF_ds] at aw3
      have s4 : Same H3 (upd H3 q3 (.lst ws3)) := same_upd n3
      have e3 : (upd H3 q3 (.lst ws3)) q3 = some (.lst ws3) := upd_same
      generalize upd H3 q3 (.lst ws3) = H4 at s4 e3
      refine ⟨small_le (by show 3 ≤ 1000; decide), fun TO nTO => ?_⟩
      have s5 : Same H4 (upd H4 TO (.lst [.ref q1, .ref q2, .ref q3])) := same_upd nTO
      have eTO : (upd H4 TO (.lst [.ref q1, .ref q2, .ref q3])) TO = some (.lst [.ref q1, .ref q2, .ref q3]) := upd_same
      generalize upd H4 TO (.lst [.ref q1, .ref q2, .ref q3]) = H5 at s5 eTO
      have rp5 := dataR_rp eTO (s5 _ _ (s4 _ _ (s3 _ _ e1))) (s5 _ _ (s4 _ _ e2)) (s5 _ _ e3) (aw3.imp fun _ _ => DeedV.kx fun t ys e => s5 _ _ (s4 _ _ e))
      have sG5 : Same G H5 := (s2.trans s3).trans (s4.trans s5)
      refine ⟨.ref TO, dataR ds, TO, rfl, rfl, rp5, hB, .ref DU, rfl, .ref DU, dataR ds, DU, rfl, rfl, Rp.sm sG5 rpG, hB, rfl, ?_⟩
      have qq := q H5 ((s1.trans s1G).trans sG5)
      have et : decide (V.str (dataR ds).shown = V.str (dataR ds).shown) = true := decide_eq_true rfl
      rw [et]
      exact qq
end
end CL
set_option Elab.async false
set_option linter.all false
set_option pp.maxSteps 600
set_option maxRecDepth 100000
set_option maxHeartbeats 4000000
namespace CL
open PySem PySem.Spec PyProof.Rows L2 GE
abbrev sBent : Stmt := topS 44
abbrev nBent : List Str := ["bag", "deeds", "at", "odd", "new", "some"]
theorem scBent : FnScope nBent ["bag", "deeds"] (defScope sBent) := ⟨rfl, rfl, rfl, by decide +kernel, rfl, by decide +kernel, by decide +kernel⟩
abbrev sPlain : Stmt := topS 46
theorem scPlain : FnScope ["thing", "deed"] ["thing"] (defScope sPlain) := ⟨rfl, rfl, rfl, by decide +kernel, rfl, by decide +kernel, by decide +kernel⟩
/-- the heap but for the bag -/
noncomputable def Hid (r : Bg) (H : Hp) : Hp := Hw (fun b => b = r.a) H
theorem Hid.mv {r : Bg} {H H' : Hp} (m : Mv r H H') : Same (Hid r H) (Hid r H') := fun b o e => by
  have n : ¬ b = r.a := Hw.ne (W := fun b => b = r.a) e
  unfold Hid
  rw [Hw.at (W := fun b => b = r.a) n]
  exact m.keep b o n (Hw.sub _ H b o e)
theorem Hid.of {r : Bg} {H H' : Hp} (m : Same H H') : Same (Hid r H) (Hid r H') := Same.hw m
theorem Hid.sub (r : Bg) (H : Hp) : Same (Hid r H) H := Hw.sub _ H
theorem Hid.at {r : Bg} {H : Hp} {b : Addr} {o : HO} (n : b ≠ r.a) (e : H b = some o) : Hid r H b = some o := by
  unfold Hid
  rw [Hw.at (W := fun b => b = r.a) n]
  exact e
theorem RpAll.dropX {H : Hp} : ∀ {vs : List V} {ds : List PyData} (n : Nat), RpAll H vs ds → RpAll H (vs.drop n) (ds.drop n)
  | _, _, 0, h => h
  | _, _, n + 1, .nil => .nil
  | _, _, n + 1, .cons h t => RpAll.dropX n t
theorem RpAll.rev {H : Hp} : ∀ {vs : List V} {ds : List PyData}, RpAll H vs ds → RpAll H vs.reverse ds.reverse
  | _, _, .nil => .nil
  | v :: vs, d :: ds, .cons h t => by
    rw [List.reverse_cons, List.reverse_cons]
    exact (RpAll.rev t).append (.cons h .nil)
theorem RpAll.rep {H : Hp} {v : V} {d : PyData} (h : Rp H v d) : ∀ n : Nat, RpAll H (List.replicate n [v]).flatten (List.replicate n d)
  | 0 => .nil
  | n + 1 => .cons h (RpAll.rep h n)
def spBent : Sp := fun vs H Q _ => ∃ (r : Bg) (A : Addr) (ws : List V) (es : List PyData) (n : Nat), vs = [.ref r.a, .ref A] ∧ BagAt n H r ∧ n + 10 < M60 ∧ H A = some (.lst ws) ∧ A ≠ r.a ∧ RpAll (Hid r H) ws es ∧ ws.length ≤ 299 ∧
  ∀ p ds H', BagAt (n + 10) H' r → Mv r H H' → Rp (Hid r H') (.ref p) (.list ds) → ds.length ≤ 300 → Q (.ref p) H'
def spPlain : Sp := fun vs H Q _ => ∃ (v : V) (d : PyData) (ds : List PyData), vs = [v] ∧ Rp H v d ∧ rowsD d = some ds ∧ (standF ds 0).isSome = true ∧ ds.length ≤ 310 ∧ ∀ p ws H', Same H H' → H p = none → H' p = some (.lst ws) → All2 (DeedV H') ws (ds.map toDeed) → Q (.ref p) H'
section
variable {P : Program} {w : World} {K : PySem.W.Frag} {mg : Str → Option Value} {base : Heap} {C : Addr}
theorem ok_bent {f : Addr} {fd : FuncData} (F : Fun K "_law_bent" "_law_bent" sBent f fd) (hT : Nm mg) (CD : Cal P w K mg base 4 "_law_draw" ["bag", "many"] (spE spDraw)) : FnOk P w K mg base CX0 5 f fd ["bag", "deeds"] spBent := by
  refine F.ok scBent (fun vs H Q E ⟨r, A, ws, es, n, e, _⟩ => by rw [e]; rfl) (fun cdv A' outer s H vs Q E hr h => ?_)
  obtain ⟨r, A, ws, es, n, rfl, hb, hn, eA, nAr, hws, hl, q⟩ := h
  have nd := scBent.nd
  refine ⟨_, (pss_cons (ps_set (i := 2) nd rfl (.inl rfl) (pe_cal CD (hr.mono (by decide)) (by rfl) (pa_cons (pv 0) (pa_cons (pe_op op_add (pe_callB call_len_seq (by rfl) hT.len PySem.boot_len (pa_cons (pv 1) pa_nil)) pe_int) pa_nil))))
      (pss_cons (ps_set (i := 3) nd rfl (.inl rfl) (pe_lst (pa_cons (pe_tup (pa_cons pe_str (pa_cons (pe_un un_neg pe_int) pa_nil))) (pa_cons (pe_tup (pa_cons pe_str (pa_cons pe_bl pa_nil))) (pa_cons (pe_tup (pa_cons pe_str (pa_cons pe_str pa_nil))) (pa_cons (pe_tup (pa_cons pe_str pa_nil)) (pa_cons (pe_tup (pa_cons pe_str (pa_cons pe_int (pa_cons pe_int pa_nil)))) (pa_cons (pe_tup (pa_cons pe_str (pa_cons pe_int pa_nil))) (pa_cons (pe_tup (pa_cons pe_str pa_nil)) (pa_cons (pe_tup pa_nil) (pa_cons pe_non pa_nil)))))))))))
      (pss_cons (ps_set (i := 3) nd rfl (.inl rfl) (pe_op op_cat (pv 3) (pe_lst (pa_cons pe_str (pa_cons pe_int (pa_cons (pe_tup (pa_cons pe_str (pa_cons (pe_op op_add (pe_op op_pow pe_int pe_int) pe_int) pa_nil))) (pa_cons (pe_tup (pa_cons pe_int pa_nil)) (pa_cons (pe_tup (pa_cons pe_non (pa_cons pe_int pa_nil))) (pa_cons (pe_tup (pa_cons pe_str pa_nil)) (pa_cons (pe_tup (pa_cons pe_str (pa_cons (pe_lst (pa_cons pe_int pa_nil)) pa_nil))) (pa_cons (pe_tup (pa_cons pe_str pa_nil)) pa_nil)))))))))))
      (pss_cons (ps_set (i := 3) nd rfl (.inl rfl) (pe_op op_cat (pv 3) (pe_lst (pa_cons (pe_lst (pa_cons pe_str pa_nil)) (pa_cons (pe_lst (pa_cons pe_str (pa_cons pe_int pa_nil))) (pa_cons pe_dnewK pa_nil))))))
      (pss_cons (ps_set (i := 4) nd rfl (.inl rfl) (pe_ix ix_list (pv 3) (pe_cal CD (hr.mono (by decide)) (by rfl) (pa_cons (pv 0) (pa_cons pe_int pa_nil))) (fun _ _ => rfl)))
      (pss_cons (ps_set (i := 5) nd rfl (.inl rfl) (pe_lst (pa_cons (pe_op op_cat (pe_op op_cat (pe_slice sl_list (pv 1) po_none (po_some (pv 2))) (pe_lst (pa_cons (pv 4) pa_nil))) (pe_slice sl_list (pv 1) (po_some (pv 2)) po_none)) (pa_cons (pe_op op_cat (pe_op op_cat (pe_slice sl_list (pv 1) po_none (po_some (pv 2))) (pe_lst (pa_cons (pv 4) pa_nil))) (pe_slice sl_list (pv 1) (po_some (pe_op op_add (pv 2) pe_int)) po_none)) (pa_cons (pe_slice sl_list (pv 1) (po_some pe_int) po_none) (pa_cons (pe_revL (pv 1)) pa_nil))))))
      (pss_cons (ps_set (i := 5) nd rfl (.inl rfl) (pe_op op_cat (pv 5) (pe_lst (pa_cons (pe_op op_cat (pe_lst (pa_cons (pe_tup (pa_cons pe_str pa_nil)) pa_nil)) (pv 1)) (pa_cons (pe_lst (pa_cons (pv 1) pa_nil)) (pa_cons (pe_op op_cat (pe_slice sl_list (pv 1) po_none (po_some pe_int)) (pe_op op_rep (pe_lst (pa_cons (pe_tup (pa_cons pe_str pa_nil)) pa_nil)) pe_int)) pa_nil))))))
      (pss_one (ps_ret (pe_ix ix_list (pv 5) (pe_cal CD (hr.mono (by decide)) (by rfl) (pa_cons (pv 0) (pa_cons pe_int pa_nil))) (fun _ _ => rfl))))))))))), ?_⟩
  have hM : M60 = 1000000000000000000 := rfl
  have hwl := hws.length
  refine ⟨.ref r.a, rfl, .ref A, rfl, A, _, rfl, .inl (SqL.of eA), _, 1, rfl, rfl, r, _, n, rfl, hb, by omega, by omega, by omega, fun x0 K0 b0 v0 x00 x01 => ?_⟩
  obtain ⟨at_, rfl⟩ : ∃ j : Nat, x0 = (j : Int) := ⟨x0.toNat, by omega⟩
  have eA0 := v0.keep A _ nAr eA
  have ws0 := RpAll.sm (Hid.mv v0) hws
  dsimp only [gName]
  show tSeq _ _ _ [some (.ref r.a), some (.ref A), some (.int (at_ : Int)), none, none, none] K0
  refine ⟨1, rfl, small_le (by show 2 ≤ 1000; decide), fun p1 np1 => ?_⟩
  have sp1 := same_upd (o := .tup [.str "come", .int (-1)]) np1
  have rp1 : p1 ≠ r.a := fun z => (BagAt.some (b0)) (by rw [← z]; exact np1)
  have ep1 : (upd K0 p1 (.tup [.str "come", .int (-1)])) p1 = some (.tup [.str "come", .int (-1)]) := upd_same
  have b1 := b0.same sp1
  generalize upd K0 p1 (.tup [.str "come", .int (-1)]) = K1 at sp1 ep1 b1 ⊢
  refine ⟨small_le (by show 2 ≤ 1000; decide), fun p2 np2 => ?_⟩
  have sp2 := same_upd (o := .tup [.str "come", .bl true]) np2
  have rp2 : p2 ≠ r.a := fun z => (BagAt.some (b1)) (by rw [← z]; exact np2)
  have ep2 : (upd K1 p2 (.tup [.str "come", .bl true])) p2 = some (.tup [.str "come", .bl true]) := upd_same
  have b2 := b1.same sp2
  generalize upd K1 p2 (.tup [.str "come", .bl true]) = K2 at sp2 ep2 b2 ⊢
  refine ⟨small_le (by show 2 ≤ 1000; decide), fun p3 np3 => ?_⟩
  have sp3 := same_upd (o := .tup [.str "come", .str "3"]) np3
  have rp3 : p3 ≠ r.a := fun z => (BagAt.some (b2)) (by rw [← z]; exact np3)
  have ep3 : (upd K2 p3 (.tup [.str "come", .str "3"])) p3 = some (.tup [.str "come", .str "3"]) := upd_same
  have b3 := b2.same sp3
  generalize upd K2 p3 (.tup [.str "come", .str "3"]) = K3 at sp3 ep3 b3 ⊢
  refine ⟨small_le (by show 1 ≤ 1000; decide), fun p4 np4 => ?_⟩
  have sp4 := same_upd (o := .tup [.str "come"]) np4
  have rp4 : p4 ≠ r.a := fun z => (BagAt.some (b3)) (by rw [← z]; exact np4)
  have ep4 : (upd K3 p4 (.tup [.str "come"])) p4 = some (.tup [.str "come"]) := upd_same
  have b4 := b3.same sp4
  generalize upd K3 p4 (.tup [.str "come"]) = K4 at sp4 ep4 b4 ⊢
  refine ⟨small_le (by show 3 ≤ 1000; decide), fun p5 np5 => ?_⟩
  have sp5 := same_upd (o := .tup [.str "come", .int 1, .int 1]) np5
  have rp5 : p5 ≠ r.a := fun z => (BagAt.some (b4)) (by rw [← z]; exact np5)
  have ep5 : (upd K4 p5 (.tup [.str "come", .int 1, .int 1])) p5 = some (.tup [.str "come", .int 1, .int 1]) := upd_same
  have b5 := b4.same sp5
  generalize upd K4 p5 (.tup [.str "come", .int 1, .int 1]) = K5 at sp5 ep5 b5 ⊢
  refine ⟨small_le (by show 2 ≤ 1000; decide), fun p6 np6 => ?_⟩
  have sp6 := same_upd (o := .tup [.str "serve", .int 0]) np6
  have rp6 : p6 ≠ r.a := fun z => (BagAt.some (b5)) (by rw [← z]; exact np6)
  have ep6 : (upd K5 p6 (.tup [.str "serve", .int 0])) p6 = some (.tup [.str "serve", .int 0]) := upd_same
  have b6 := b5.same sp6
  generalize upd K5 p6 (.tup [.str "serve", .int 0]) = K6 at sp6 ep6 b6 ⊢
  refine ⟨small_le (by show 1 ≤ 1000; decide), fun p7 np7 => ?_⟩
  have sp7 := same_upd (o := .tup [.str "go"]) np7
  have rp7 : p7 ≠ r.a := fun z => (BagAt.some (b6)) (by rw [← z]; exact np7)
  have ep7 : (upd K6 p7 (.tup [.str "go"])) p7 = some (.tup [.str "go"]) := upd_same
  have b7 := b6.same sp7
  generalize upd K6 p7 (.tup [.str "go"]) = K7 at sp7 ep7 b7 ⊢
  refine ⟨Nat.zero_le _, fun p8 np8 => ?_⟩
  have sp8 := same_upd (o := .tup []) np8
  have rp8 : p8 ≠ r.a := fun z => (BagAt.some (b7)) (by rw [← z]; exact np8)
  have ep8 : (upd K7 p8 (.tup [])) p8 = some (.tup []) := upd_same
  have b8 := b7.same sp8
  generalize upd K7 p8 (.tup []) = K8 at sp8 ep8 b8 ⊢
  refine ⟨small_le (by show 9 ≤ 1000; decide), fun p9 np9 => ?_⟩
  have sp9 := same_upd (o := .lst [.ref p1, .ref p2, .ref p3, .ref p4, .ref p5, .ref p6, .ref p7, .ref p8, .non]) np9
  have rp9 : p9 ≠ r.a := fun z => (BagAt.some (b8)) (by rw [← z]; exact np9)
  have ep9 : (upd K8 p9 (.lst [.ref p1, .ref p2, .ref p3, .ref p4, .ref p5, .ref p6, .ref p7, .ref p8, .non])) p9 = some (.lst [.ref p1, .ref p2, .ref p3, .ref p4, .ref p5, .ref p6, .ref p7, .ref p8, .non]) := upd_same
  have b9 := b8.same sp9
  generalize upd K8 p9 (.lst [.ref p1, .ref p2, .ref p3, .ref p4, .ref p5, .ref p6, .ref p7, .ref p8, .non]) = K9 at sp9 ep9 b9 ⊢
  dsimp only [gName]
  show tSeq _ _ _ [some (.ref r.a), some (.ref A), some (.int (at_ : Int)), some (.ref p9), none, none] K9
  refine ⟨.ref p9, rfl, ?_⟩
  refine ⟨10, 30, rfl, rfl, ⟨by decide, by decide, by decide⟩, _, 1, rfl, rfl, small_le (by show 2 ≤ 1000; decide), fun p10 np10 => ?_⟩
  have sp10 := same_upd (o := .tup [.str "come", .int ((10 : Int) ^ (30 : Int).toNat + 1)]) np10
  have rp10 : p10 ≠ r.a := fun z => (BagAt.some (b9)) (by rw [← z]; exact np10)
  have ep10 : (upd K9 p10 (.tup [.str "come", .int ((10 : Int) ^ (30 : Int).toNat + 1)])) p10 = some (.tup [.str "come", .int ((10 : Int) ^ (30 : Int).toNat + 1)]) := upd_same
  have b10 := b9.same sp10
  generalize upd K9 p10 (.tup [.str "come", .int ((10 : Int) ^ (30 : Int).toNat + 1)]) = K10 at sp10 ep10 b10 ⊢
  refine ⟨small_le (by show 1 ≤ 1000; decide), fun p11 np11 => ?_⟩
  have sp11 := same_upd (o := .tup [.int 1]) np11
  have rp11 : p11 ≠ r.a := fun z => (BagAt.some (b10)) (by rw [← z]; exact np11)
  have ep11 : (upd K10 p11 (.tup [.int 1])) p11 = some (.tup [.int 1]) := upd_same
  have b11 := b10.same sp11
  generalize upd K10 p11 (.tup [.int 1]) = K11 at sp11 ep11 b11 ⊢
  refine ⟨small_le (by show 2 ≤ 1000; decide), fun p12 np12 => ?_⟩
  have sp12 := same_upd (o := .tup [.non, .int 1]) np12
  have rp12 : p12 ≠ r.a := fun z => (BagAt.some (b11)) (by rw [← z]; exact np12)
  have ep12 : (upd K11 p12 (.tup [.non, .int 1])) p12 = some (.tup [.non, .int 1]) := upd_same
  have b12 := b11.same sp12
  generalize upd K11 p12 (.tup [.non, .int 1]) = K12 at sp12 ep12 b12 ⊢
  refine ⟨small_le (by show 1 ≤ 1000; decide), fun p13 np13 => ?_⟩
  have sp13 := same_upd (o := .tup [.str "Serve"]) np13
  have rp13 : p13 ≠ r.a := fun z => (BagAt.some (b12)) (by rw [← z]; exact np13)
  have ep13 : (upd K12 p13 (.tup [.str "Serve"])) p13 = some (.tup [.str "Serve"]) := upd_same
  have b13 := b12.same sp13
  generalize upd K12 p13 (.tup [.str "Serve"]) = K13 at sp13 ep13 b13 ⊢
  refine ⟨small_le (by show 1 ≤ 1000; decide), fun p14 np14 => ?_⟩
  have sp14 := same_upd (o := .lst [.int 1]) np14
  have rp14 : p14 ≠ r.a := fun z => (BagAt.some (b13)) (by rw [← z]; exact np14)
  have ep14 : (upd K13 p14 (.lst [.int 1])) p14 = some (.lst [.int 1]) := upd_same
  have b14 := b13.same sp14
  generalize upd K13 p14 (.lst [.int 1]) = K14 at sp14 ep14 b14 ⊢
  refine ⟨small_le (by show 2 ≤ 1000; decide), fun p15 np15 => ?_⟩
  have sp15 := same_upd (o := .tup [.str "come", .ref p14]) np15
  have rp15 : p15 ≠ r.a := fun z => (BagAt.some (b14)) (by rw [← z]; exact np15)
  have ep15 : (upd K14 p15 (.tup [.str "come", .ref p14])) p15 = some (.tup [.str "come", .ref p14]) := upd_same
  have b15 := b14.same sp15
  generalize upd K14 p15 (.tup [.str "come", .ref p14]) = K15 at sp15 ep15 b15 ⊢
  refine ⟨small_le (by show 1 ≤ 1000; decide), fun p16 np16 => ?_⟩
  have sp16 := same_upd (o := .tup [.str "serve"]) np16
  have rp16 : p16 ≠ r.a := fun z => (BagAt.some (b15)) (by rw [← z]; exact np16)
  have ep16 : (upd K15 p16 (.tup [.str "serve"])) p16 = some (.tup [.str "serve"]) := upd_same
  have b16 := b15.same sp16
  generalize upd K15 p16 (.tup [.str "serve"]) = K16 at sp16 ep16 b16 ⊢
  refine ⟨small_le (by show 8 ≤ 1000; decide), fun p17 np17 => ?_⟩
  have sp17 := same_upd (o := .lst [.str "serve", .int 5, .ref p10, .ref p11, .ref p12, .ref p13, .ref p15, .ref p16]) np17
  have rp17 : p17 ≠ r.a := fun z => (BagAt.some (b16)) (by rw [← z]; exact np17)
  have ep17 : (upd K16 p17 (.lst [.str "serve", .int 5, .ref p10, .ref p11, .ref p12, .ref p13, .ref p15, .ref p16])) p17 = some (.lst [.str "serve", .int 5, .ref p10, .ref p11, .ref p12, .ref p13, .ref p15, .ref p16]) := upd_same
  have b17 := b16.same sp17
  generalize upd K16 p17 (.lst [.str "serve", .int 5, .ref p10, .ref p11, .ref p12, .ref p13, .ref p15, .ref p16]) = K17 at sp17 ep17 b17 ⊢
  refine ⟨p9, p17, [.ref p1, .ref p2, .ref p3, .ref p4, .ref p5, .ref p6, .ref p7, .ref p8, .non], [.str "serve", .int 5, .ref p10, .ref p11, .ref p12, .ref p13, .ref p15, .ref p16], rfl, rfl, (sp17 _ _ (sp16 _ _ (sp15 _ _ (sp14 _ _ (sp13 _ _ (sp12 _ _ (sp11 _ _ (sp10 _ _ ep9)))))))), ep17, small_le (by show 17 ≤ 1000; decide), fun p18 np18 => ?_⟩
  have sp18 := same_upd (o := .lst ([.ref p1, .ref p2, .ref p3, .ref p4, .ref p5, .ref p6, .ref p7, .ref p8, .non] ++ [.str "serve", .int 5, .ref p10, .ref p11, .ref p12, .ref p13, .ref p15, .ref p16])) np18
  have rp18 : p18 ≠ r.a := fun z => (BagAt.some (b17)) (by rw [← z]; exact np18)
  have ep18 : (upd K17 p18 (.lst ([.ref p1, .ref p2, .ref p3, .ref p4, .ref p5, .ref p6, .ref p7, .ref p8, .non] ++ [.str "serve", .int 5, .ref p10, .ref p11, .ref p12, .ref p13, .ref p15, .ref p16]))) p18 = some (.lst ([.ref p1, .ref p2, .ref p3, .ref p4, .ref p5, .ref p6, .ref p7, .ref p8, .non] ++ [.str "serve", .int 5, .ref p10, .ref p11, .ref p12, .ref p13, .ref p15, .ref p16])) := upd_same
  have b18 := b17.same sp18
  generalize upd K17 p18 (.lst ([.ref p1, .ref p2, .ref p3, .ref p4, .ref p5, .ref p6, .ref p7, .ref p8, .non] ++ [.str "serve", .int 5, .ref p10, .ref p11, .ref p12, .ref p13, .ref p15, .ref p16])) = K18 at sp18 ep18 b18 ⊢
  dsimp only [gName]
  show tSeq _ _ _ [some (.ref r.a), some (.ref A), some (.int (at_ : Int)), some (.ref p18), none, none] K18
  refine ⟨.ref p18, rfl, ?_⟩
  refine ⟨small_le (by show 1 ≤ 1000; decide), fun p19 np19 => ?_⟩
  have sp19 := same_upd (o := .lst [.str "serve"]) np19
  have rp19 : p19 ≠ r.a := fun z => (BagAt.some (b18)) (by rw [← z]; exact np19)
  have ep19 : (upd K18 p19 (.lst [.str "serve"])) p19 = some (.lst [.str "serve"]) := upd_same
  have b19 := b18.same sp19
  generalize upd K18 p19 (.lst [.str "serve"]) = K19 at sp19 ep19 b19 ⊢
  refine ⟨small_le (by show 2 ≤ 1000; decide), fun p20 np20 => ?_⟩
  have sp20 := same_upd (o := .lst [.str "come", .int 2]) np20
  have rp20 : p20 ≠ r.a := fun z => (BagAt.some (b19)) (by rw [← z]; exact np20)
  have ep20 : (upd K19 p20 (.lst [.str "come", .int 2])) p20 = some (.lst [.str "come", .int 2]) := upd_same
  have b20 := b19.same sp20
  generalize upd K19 p20 (.lst [.str "come", .int 2]) = K20 at sp20 ep20 b20 ⊢
  refine fun p21 np21 => ?_
  have sp21 := same_upd (o := .dK []) np21
  have rp21 : p21 ≠ r.a := fun z => (BagAt.some (b20)) (by rw [← z]; exact np21)
  have ep21 : (upd K20 p21 (.dK [])) p21 = some (.dK []) := upd_same
  have b21 := b20.same sp21
  generalize upd K20 p21 (.dK []) = K21 at sp21 ep21 b21 ⊢
  refine ⟨small_le (by show 3 ≤ 1000; decide), fun p22 np22 => ?_⟩
  have sp22 := same_upd (o := .lst [.ref p19, .ref p20, .ref p21]) np22
  have rp22 : p22 ≠ r.a := fun z => (BagAt.some (b21)) (by rw [← z]; exact np22)
  have ep22 : (upd K21 p22 (.lst [.ref p19, .ref p20, .ref p21])) p22 = some (.lst [.ref p19, .ref p20, .ref p21]) := upd_same
  have b22 := b21.same sp22
  generalize upd K21 p22 (.lst [.ref p19, .ref p20, .ref p21]) = K22 at sp22 ep22 b22 ⊢
  have ep18' : K18 p18 = some (.lst [.ref p1, .ref p2, .ref p3, .ref p4, .ref p5, .ref p6, .ref p7, .ref p8, .non, .str "serve", .int 5, .ref p10, .ref p11, .ref p12, .ref p13, .ref p15, .ref p16]) := ep18
  refine ⟨p18, p22, [.ref p1, .ref p2, .ref p3, .ref p4, .ref p5, .ref p6, .ref p7, .ref p8, .non, .str "serve", .int 5, .ref p10, .ref p11, .ref p12, .ref p13, .ref p15, .ref p16], [.ref p19, .ref p20, .ref p21], rfl, rfl, (sp22 _ _ (sp21 _ _ (sp20 _ _ (sp19 _ _ ep18')))), ep22, small_le (by show 20 ≤ 1000; decide), fun LO nLO => ?_⟩
  obtain ⟨ov, hov⟩ : ∃ ov : List V, ov = [V.ref p1, .ref p2, .ref p3, .ref p4, .ref p5, .ref p6, .ref p7, .ref p8, .non, .str "serve", .int 5, .ref p10, .ref p11, .ref p12, .ref p13, .ref p15, .ref p16, .ref p19, .ref p20, .ref p21] := ⟨_, rfl⟩
  have sO := same_upd (o := .lst ov) nLO
  have eLO : (upd K22 LO (.lst ov)) LO = some (.lst ov) := upd_same
  have rLO : LO ≠ r.a := fun z => (BagAt.some b22) (by rw [← z]; exact nLO)
  have bO := b22.same sO
  dsimp only [gName]
  show tSeq _ _ _ [some (.ref r.a), some (.ref A), some (.int (at_ : Int)), some (.ref LO), none, none] (upd K22 LO (.lst ([.ref p1, .ref p2, .ref p3, .ref p4, .ref p5, .ref p6, .ref p7, .ref p8, .non, .str "serve", .int 5, .ref p10, .ref p11, .ref p12, .ref p13, .ref p15, .ref p16] ++ [.ref p19, .ref p20, .ref p21])))
  rw [show ([V.ref p1, .ref p2, .ref p3, .ref p4, .ref p5, .ref p6, .ref p7, .ref p8, .non, .str "serve", .int 5, .ref p10, .ref p11, .ref p12, .ref p13, .ref p15, .ref p16] ++ [.ref p19, .ref p20, .ref p21]) = ov from hov.symm]
  generalize upd K22 LO (.lst ov) = KO at sO eLO bO ⊢
  have hall : ∀ y ∈ ov, ∃ d, Rp (Hid r KO) y d := by
    intro y hy
    rw [hov] at hy
    simp only [List.mem_cons, List.not_mem_nil, or_false] at hy
    rcases hy with h | h | h | h | h | h | h | h | h | h | h | h | h | h | h | h | h | h | h | h
    · subst h; exact ⟨_, (.tup (Hid.at rp1 (sO _ _ (sp22 _ _ (sp21 _ _ (sp20 _ _ (sp19 _ _ (sp18 _ _ (sp17 _ _ (sp16 _ _ (sp15 _ _ (sp14 _ _ (sp13 _ _ (sp12 _ _ (sp11 _ _ (sp10 _ _ (sp9 _ _ (sp8 _ _ (sp7 _ _ (sp6 _ _ (sp5 _ _ (sp4 _ _ (sp3 _ _ (sp2 _ _ ep1))))))))))))))))))))))) (.cons (.str _) (.cons (.int _) .nil)))⟩
    · subst h; exact ⟨_, (.tup (Hid.at rp2 (sO _ _ (sp22 _ _ (sp21 _ _ (sp20 _ _ (sp19 _ _ (sp18 _ _ (sp17 _ _ (sp16 _ _ (sp15 _ _ (sp14 _ _ (sp13 _ _ (sp12 _ _ (sp11 _ _ (sp10 _ _ (sp9 _ _ (sp8 _ _ (sp7 _ _ (sp6 _ _ (sp5 _ _ (sp4 _ _ (sp3 _ _ ep2)))))))))))))))))))))) (.cons (.str _) (.cons (.bl _) .nil)))⟩
    · subst h; exact ⟨_, (.tup (Hid.at rp3 (sO _ _ (sp22 _ _ (sp21 _ _ (sp20 _ _ (sp19 _ _ (sp18 _ _ (sp17 _ _ (sp16 _ _ (sp15 _ _ (sp14 _ _ (sp13 _ _ (sp12 _ _ (sp11 _ _ (sp10 _ _ (sp9 _ _ (sp8 _ _ (sp7 _ _ (sp6 _ _ (sp5 _ _ (sp4 _ _ ep3))))))))))))))))))))) (.cons (.str _) (.cons (.str _) .nil)))⟩
    · subst h; exact ⟨_, (.tup (Hid.at rp4 (sO _ _ (sp22 _ _ (sp21 _ _ (sp20 _ _ (sp19 _ _ (sp18 _ _ (sp17 _ _ (sp16 _ _ (sp15 _ _ (sp14 _ _ (sp13 _ _ (sp12 _ _ (sp11 _ _ (sp10 _ _ (sp9 _ _ (sp8 _ _ (sp7 _ _ (sp6 _ _ (sp5 _ _ ep4)))))))))))))))))))) (.cons (.str _) .nil))⟩
    · subst h; exact ⟨_, (.tup (Hid.at rp5 (sO _ _ (sp22 _ _ (sp21 _ _ (sp20 _ _ (sp19 _ _ (sp18 _ _ (sp17 _ _ (sp16 _ _ (sp15 _ _ (sp14 _ _ (sp13 _ _ (sp12 _ _ (sp11 _ _ (sp10 _ _ (sp9 _ _ (sp8 _ _ (sp7 _ _ (sp6 _ _ ep5))))))))))))))))))) (.cons (.str _) (.cons (.int _) (.cons (.int _) .nil))))⟩
    · subst h; exact ⟨_, (.tup (Hid.at rp6 (sO _ _ (sp22 _ _ (sp21 _ _ (sp20 _ _ (sp19 _ _ (sp18 _ _ (sp17 _ _ (sp16 _ _ (sp15 _ _ (sp14 _ _ (sp13 _ _ (sp12 _ _ (sp11 _ _ (sp10 _ _ (sp9 _ _ (sp8 _ _ (sp7 _ _ ep6)))))))))))))))))) (.cons (.str _) (.cons (.int _) .nil)))⟩
    · subst h; exact ⟨_, (.tup (Hid.at rp7 (sO _ _ (sp22 _ _ (sp21 _ _ (sp20 _ _ (sp19 _ _ (sp18 _ _ (sp17 _ _ (sp16 _ _ (sp15 _ _ (sp14 _ _ (sp13 _ _ (sp12 _ _ (sp11 _ _ (sp10 _ _ (sp9 _ _ (sp8 _ _ ep7))))))))))))))))) (.cons (.str _) .nil))⟩
    · subst h; exact ⟨_, (.tup (Hid.at rp8 (sO _ _ (sp22 _ _ (sp21 _ _ (sp20 _ _ (sp19 _ _ (sp18 _ _ (sp17 _ _ (sp16 _ _ (sp15 _ _ (sp14 _ _ (sp13 _ _ (sp12 _ _ (sp11 _ _ (sp10 _ _ (sp9 _ _ ep8)))))))))))))))) .nil)⟩
    · subst h; exact ⟨_, .non⟩
    · subst h; exact ⟨_, (.str _)⟩
    · subst h; exact ⟨_, (.int _)⟩
    · subst h; exact ⟨_, (.tup (Hid.at rp10 (sO _ _ (sp22 _ _ (sp21 _ _ (sp20 _ _ (sp19 _ _ (sp18 _ _ (sp17 _ _ (sp16 _ _ (sp15 _ _ (sp14 _ _ (sp13 _ _ (sp12 _ _ (sp11 _ _ ep10)))))))))))))) (.cons (.str _) (.cons (.int _) .nil)))⟩
    · subst h; exact ⟨_, (.tup (Hid.at rp11 (sO _ _ (sp22 _ _ (sp21 _ _ (sp20 _ _ (sp19 _ _ (sp18 _ _ (sp17 _ _ (sp16 _ _ (sp15 _ _ (sp14 _ _ (sp13 _ _ (sp12 _ _ ep11))))))))))))) (.cons (.int _) .nil))⟩
    · subst h; exact ⟨_, (.tup (Hid.at rp12 (sO _ _ (sp22 _ _ (sp21 _ _ (sp20 _ _ (sp19 _ _ (sp18 _ _ (sp17 _ _ (sp16 _ _ (sp15 _ _ (sp14 _ _ (sp13 _ _ ep12)))))))))))) (.cons .non (.cons (.int _) .nil)))⟩
    · subst h; exact ⟨_, (.tup (Hid.at rp13 (sO _ _ (sp22 _ _ (sp21 _ _ (sp20 _ _ (sp19 _ _ (sp18 _ _ (sp17 _ _ (sp16 _ _ (sp15 _ _ (sp14 _ _ ep13))))))))))) (.cons (.str _) .nil))⟩
    · subst h; exact ⟨_, (.tup (Hid.at rp15 (sO _ _ (sp22 _ _ (sp21 _ _ (sp20 _ _ (sp19 _ _ (sp18 _ _ (sp17 _ _ (sp16 _ _ ep15))))))))) (.cons (.str _) (.cons (.lst (Hid.at rp14 (sO _ _ (sp22 _ _ (sp21 _ _ (sp20 _ _ (sp19 _ _ (sp18 _ _ (sp17 _ _ (sp16 _ _ (sp15 _ _ ep14)))))))))) (.cons (.int _) .nil)) .nil)))⟩
    · subst h; exact ⟨_, (.tup (Hid.at rp16 (sO _ _ (sp22 _ _ (sp21 _ _ (sp20 _ _ (sp19 _ _ (sp18 _ _ (sp17 _ _ ep16)))))))) (.cons (.str _) .nil))⟩
    · subst h; exact ⟨_, (.lst (Hid.at rp19 (sO _ _ (sp22 _ _ (sp21 _ _ (sp20 _ _ ep19))))) (.cons (.str _) .nil))⟩
    · subst h; exact ⟨_, (.lst (Hid.at rp20 (sO _ _ (sp22 _ _ (sp21 _ _ ep20)))) (.cons (.str _) (.cons (.int _) .nil)))⟩
    · subst h; exact ⟨_, (.dct (Hid.at rp21 (sO _ _ (sp22 _ _ ep21))))⟩
  have lov : ov.length = 20 := by rw [hov]; rfl
  have sAO : Same K0 KO := ((((((((((((((((((((((sp1).trans sp2).trans sp3).trans sp4).trans sp5).trans sp6).trans sp7).trans sp8).trans sp9).trans sp10).trans sp11).trans sp12).trans sp13).trans sp14).trans sp15).trans sp16).trans sp17).trans sp18).trans sp19).trans sp20).trans sp21).trans sp22).trans sO
  have eAO := sAO _ _ eA0
  have wsO := RpAll.sm (Hid.of sAO) ws0
  clear hov sO
  -- new
  refine ⟨.ref LO, rfl, .ref r.a, rfl, r, 20, n + 1, rfl, bO, by omega, by decide, by decide, fun x1 M0 c0 v1 x10 x11 => ?_⟩
  obtain ⟨j, rfl⟩ : ∃ j : Nat, x1 = (j : Int) := ⟨x1.toNat, by omega⟩
  have hj : j < ov.length := by omega
  obtain ⟨yd, hyd⟩ := hall ov[j] (List.getElem_mem hj)
  refine ⟨LO, ov, j, ov[j], rfl, rfl, SqL.of (v1.keep LO _ rLO eLO), atI_nat (List.getElem?_eq_getElem hj), ?_⟩
  have hy0 := Rp.sm (Hid.mv v1) hyd
  have eAM := v1.keep A _ nAr eAO
  have wsM := RpAll.sm (Hid.mv v1) wsO
  generalize ov[j] = y at hy0
  have mv0 : Mv r H M0 := (v0.trans (Mv.of sAO)).trans v1
  dsimp only [gName]
  show tSeq _ _ _ [some (.ref r.a), some (.ref A), some (.int (at_ : Int)), some (.ref LO), some y, none] M0
  clear hall wsO eAO sAO bO rLO eLO
  refine ⟨.ref A, rfl, .int (at_ : Int), rfl, (at_ : Int), rfl, A, _, rfl, SqL.of eAM, fun p101 np101 => ?_⟩
  rw [cut_to]
  have sp101 := same_upd (o := .lst (ws.take at_)) np101
  have rp101 : p101 ≠ r.a := fun z => (BagAt.some c0) (by rw [← z]; exact np101)
  have ep101 : (upd M0 p101 (.lst (ws.take at_))) p101 = some (.lst (ws.take at_)) := upd_same
  have c101 := c0.same sp101
  generalize upd M0 p101 (.lst (ws.take at_)) = M101 at sp101 ep101 c101 ⊢
  refine ⟨y, rfl, small_le (by show 1 ≤ 1000; decide), fun p102 np102 => ?_⟩
  have sp102 := same_upd (o := .lst [y]) np102
  have rp102 : p102 ≠ r.a := fun z => (BagAt.some c101) (by rw [← z]; exact np102)
  have ep102 : (upd M101 p102 (.lst [y])) p102 = some (.lst [y]) := upd_same
  have c102 := c101.same sp102
  generalize upd M101 p102 (.lst [y]) = M102 at sp102 ep102 c102 ⊢
  refine ⟨p101, p102, (ws.take at_), [y], rfl, rfl, (sp102 _ _ ep101), ep102, small_le (by simp only [List.length_append, List.length_take, List.length_drop, List.length_cons, List.length_nil]; omega), fun p103 np103 => ?_⟩
  have sp103 := same_upd (o := .lst ((ws.take at_) ++ [y])) np103
  have rp103 : p103 ≠ r.a := fun z => (BagAt.some c102) (by rw [← z]; exact np103)
  have ep103 : (upd M102 p103 (.lst ((ws.take at_) ++ [y]))) p103 = some (.lst ((ws.take at_) ++ [y])) := upd_same
  have c103 := c102.same sp103
  generalize upd M102 p103 (.lst ((ws.take at_) ++ [y])) = M103 at sp103 ep103 c103 ⊢
  refine ⟨.ref A, rfl, .int (at_ : Int), rfl, (at_ : Int), rfl, A, _, rfl, SqL.of (sp103 _ _ (sp102 _ _ (sp101 _ _ eAM))), fun p104 np104 => ?_⟩
  rw [cut_from]
  have sp104 := same_upd (o := .lst (ws.drop at_)) np104
  have rp104 : p104 ≠ r.a := fun z => (BagAt.some c103) (by rw [← z]; exact np104)
  have ep104 : (upd M103 p104 (.lst (ws.drop at_))) p104 = some (.lst (ws.drop at_)) := upd_same
  have c104 := c103.same sp104
  generalize upd M103 p104 (.lst (ws.drop at_)) = M104 at sp104 ep104 c104 ⊢
  refine ⟨p103, p104, (ws.take at_ ++ [y]), (ws.drop at_), rfl, rfl, (sp104 _ _ ep103), ep104, small_le (by simp only [List.length_append, List.length_take, List.length_drop, List.length_cons, List.length_nil]; omega), fun p105 np105 => ?_⟩
  have sp105 := same_upd (o := .lst ((ws.take at_ ++ [y]) ++ (ws.drop at_))) np105
  have rp105 : p105 ≠ r.a := fun z => (BagAt.some c104) (by rw [← z]; exact np105)
  have ep105 : (upd M104 p105 (.lst ((ws.take at_ ++ [y]) ++ (ws.drop at_)))) p105 = some (.lst ((ws.take at_ ++ [y]) ++ (ws.drop at_))) := upd_same
  have c105 := c104.same sp105
  generalize upd M104 p105 (.lst ((ws.take at_ ++ [y]) ++ (ws.drop at_))) = M105 at sp105 ep105 c105 ⊢
  refine ⟨.ref A, rfl, .int (at_ : Int), rfl, (at_ : Int), rfl, A, _, rfl, SqL.of (sp105 _ _ (sp104 _ _ (sp103 _ _ (sp102 _ _ (sp101 _ _ eAM))))), fun p106 np106 => ?_⟩
  rw [cut_to]
  have sp106 := same_upd (o := .lst (ws.take at_)) np106
  have rp106 : p106 ≠ r.a := fun z => (BagAt.some c105) (by rw [← z]; exact np106)
  have ep106 : (upd M105 p106 (.lst (ws.take at_))) p106 = some (.lst (ws.take at_)) := upd_same
  have c106 := c105.same sp106
  generalize upd M105 p106 (.lst (ws.take at_)) = M106 at sp106 ep106 c106 ⊢
  refine ⟨y, rfl, small_le (by show 1 ≤ 1000; decide), fun p107 np107 => ?_⟩
  have sp107 := same_upd (o := .lst [y]) np107
  have rp107 : p107 ≠ r.a := fun z => (BagAt.some c106) (by rw [← z]; exact np107)
  have ep107 : (upd M106 p107 (.lst [y])) p107 = some (.lst [y]) := upd_same
  have c107 := c106.same sp107
  generalize upd M106 p107 (.lst [y]) = M107 at sp107 ep107 c107 ⊢
  refine ⟨p106, p107, (ws.take at_), [y], rfl, rfl, (sp107 _ _ ep106), ep107, small_le (by simp only [List.length_append, List.length_take, List.length_drop, List.length_cons, List.length_nil]; omega), fun p108 np108 => ?_⟩
  have sp108 := same_upd (o := .lst ((ws.take at_) ++ [y])) np108
  have rp108 : p108 ≠ r.a := fun z => (BagAt.some c107) (by rw [← z]; exact np108)
  have ep108 : (upd M107 p108 (.lst ((ws.take at_) ++ [y]))) p108 = some (.lst ((ws.take at_) ++ [y])) := upd_same
  have c108 := c107.same sp108
  generalize upd M107 p108 (.lst ((ws.take at_) ++ [y])) = M108 at sp108 ep108 c108 ⊢
  refine ⟨.ref A, rfl, .int (at_ : Int), rfl, (at_ : Int), 1, rfl, rfl, ((at_ : Int) + 1), rfl, A, _, rfl, SqL.of (sp108 _ _ (sp107 _ _ (sp106 _ _ (sp105 _ _ (sp104 _ _ (sp103 _ _ (sp102 _ _ (sp101 _ _ eAM)))))))), fun p109 np109 => ?_⟩
  rw [show cutV ws (some ((at_ : Int) + 1)) none = ws.drop (at_ + 1) from cut_from ws (at_ + 1)]
  have sp109 := same_upd (o := .lst (ws.drop (at_ + 1))) np109
  have rp109 : p109 ≠ r.a := fun z => (BagAt.some c108) (by rw [← z]; exact np109)
  have ep109 : (upd M108 p109 (.lst (ws.drop (at_ + 1)))) p109 = some (.lst (ws.drop (at_ + 1))) := upd_same
  have c109 := c108.same sp109
  generalize upd M108 p109 (.lst (ws.drop (at_ + 1))) = M109 at sp109 ep109 c109 ⊢
  refine ⟨p108, p109, (ws.take at_ ++ [y]), (ws.drop (at_ + 1)), rfl, rfl, (sp109 _ _ ep108), ep109, small_le (by simp only [List.length_append, List.length_take, List.length_drop, List.length_cons, List.length_nil]; omega), fun p110 np110 => ?_⟩
  have sp110 := same_upd (o := .lst ((ws.take at_ ++ [y]) ++ (ws.drop (at_ + 1)))) np110
  have rp110 : p110 ≠ r.a := fun z => (BagAt.some c109) (by rw [← z]; exact np110)
  have ep110 : (upd M109 p110 (.lst ((ws.take at_ ++ [y]) ++ (ws.drop (at_ + 1))))) p110 = some (.lst ((ws.take at_ ++ [y]) ++ (ws.drop (at_ + 1)))) := upd_same
  have c110 := c109.same sp110
  generalize upd M109 p110 (.lst ((ws.take at_ ++ [y]) ++ (ws.drop (at_ + 1)))) = M110 at sp110 ep110 c110 ⊢
  refine ⟨.ref A, rfl, 1, rfl, A, _, rfl, SqL.of (sp110 _ _ (sp109 _ _ (sp108 _ _ (sp107 _ _ (sp106 _ _ (sp105 _ _ (sp104 _ _ (sp103 _ _ (sp102 _ _ (sp101 _ _ eAM)))))))))), fun p111 np111 => ?_⟩
  rw [show cutV ws (some 1) none = ws.drop 1 from cut_from ws 1]
  have sp111 := same_upd (o := .lst (ws.drop 1)) np111
  have rp111 : p111 ≠ r.a := fun z => (BagAt.some c110) (by rw [← z]; exact np111)
  have ep111 : (upd M110 p111 (.lst (ws.drop 1))) p111 = some (.lst (ws.drop 1)) := upd_same
  have c111 := c110.same sp111
  generalize upd M110 p111 (.lst (ws.drop 1)) = M111 at sp111 ep111 c111 ⊢
  refine ⟨.ref A, rfl, A, _, rfl, SqL.of (sp111 _ _ (sp110 _ _ (sp109 _ _ (sp108 _ _ (sp107 _ _ (sp106 _ _ (sp105 _ _ (sp104 _ _ (sp103 _ _ (sp102 _ _ (sp101 _ _ eAM))))))))))), fun p112 np112 => ?_⟩
  have sp112 := same_upd (o := .lst (ws.reverse)) np112
  have rp112 : p112 ≠ r.a := fun z => (BagAt.some c111) (by rw [← z]; exact np112)
  have ep112 : (upd M111 p112 (.lst (ws.reverse))) p112 = some (.lst (ws.reverse)) := upd_same
  have c112 := c111.same sp112
  generalize upd M111 p112 (.lst (ws.reverse)) = M112 at sp112 ep112 c112 ⊢
  refine ⟨small_le (by show 4 ≤ 1000; decide), fun p113 np113 => ?_⟩
  have sp113 := same_upd (o := .lst [.ref p105, .ref p110, .ref p111, .ref p112]) np113
  have rp113 : p113 ≠ r.a := fun z => (BagAt.some c112) (by rw [← z]; exact np113)
  have ep113 : (upd M112 p113 (.lst [.ref p105, .ref p110, .ref p111, .ref p112])) p113 = some (.lst [.ref p105, .ref p110, .ref p111, .ref p112]) := upd_same
  have c113 := c112.same sp113
  generalize upd M112 p113 (.lst [.ref p105, .ref p110, .ref p111, .ref p112]) = M113 at sp113 ep113 c113 ⊢
  dsimp only [gName]
  show tSeq _ _ _ [some (.ref r.a), some (.ref A), some (.int (at_ : Int)), some (.ref LO), some y, some (.ref p113)] M113
  refine ⟨.ref p113, rfl, ?_⟩
  refine ⟨small_le (by show 1 ≤ 1000; decide), fun p114 np114 => ?_⟩
  have sp114 := same_upd (o := .tup [.str "serve"]) np114
  have rp114 : p114 ≠ r.a := fun z => (BagAt.some c113) (by rw [← z]; exact np114)
  have ep114 : (upd M113 p114 (.tup [.str "serve"])) p114 = some (.tup [.str "serve"]) := upd_same
  have c114 := c113.same sp114
  generalize upd M113 p114 (.tup [.str "serve"]) = M114 at sp114 ep114 c114 ⊢
  refine ⟨small_le (by show 1 ≤ 1000; decide), fun p115 np115 => ?_⟩
  have sp115 := same_upd (o := .lst [.ref p114]) np115
  have rp115 : p115 ≠ r.a := fun z => (BagAt.some c114) (by rw [← z]; exact np115)
  have ep115 : (upd M114 p115 (.lst [.ref p114])) p115 = some (.lst [.ref p114]) := upd_same
  have c115 := c114.same sp115
  generalize upd M114 p115 (.lst [.ref p114]) = M115 at sp115 ep115 c115 ⊢
  refine ⟨.ref A, rfl, p115, A, [.ref p114], ws, rfl, rfl, ep115, (sp115 _ _ (sp114 _ _ (sp113 _ _ (sp112 _ _ (sp111 _ _ (sp110 _ _ (sp109 _ _ (sp108 _ _ (sp107 _ _ (sp106 _ _ (sp105 _ _ (sp104 _ _ (sp103 _ _ (sp102 _ _ (sp101 _ _ eAM))))))))))))))), small_le (by simp only [List.length_append, List.length_cons, List.length_nil]; omega), fun p116 np116 => ?_⟩
  have sp116 := same_upd (o := .lst ([.ref p114] ++ ws)) np116
  have rp116 : p116 ≠ r.a := fun z => (BagAt.some c115) (by rw [← z]; exact np116)
  have ep116 : (upd M115 p116 (.lst ([.ref p114] ++ ws))) p116 = some (.lst ([.ref p114] ++ ws)) := upd_same
  have c116 := c115.same sp116
  generalize upd M115 p116 (.lst ([.ref p114] ++ ws)) = M116 at sp116 ep116 c116 ⊢
  refine ⟨.ref A, rfl, small_le (by show 1 ≤ 1000; decide), fun p117 np117 => ?_⟩
  have sp117 := same_upd (o := .lst [.ref A]) np117
  have rp117 : p117 ≠ r.a := fun z => (BagAt.some c116) (by rw [← z]; exact np117)
  have ep117 : (upd M116 p117 (.lst [.ref A])) p117 = some (.lst [.ref A]) := upd_same
  have c117 := c116.same sp117
  generalize upd M116 p117 (.lst [.ref A]) = M117 at sp117 ep117 c117 ⊢
  refine ⟨.ref A, rfl, 20, rfl, A, _, rfl, SqL.of (sp117 _ _ (sp116 _ _ (sp115 _ _ (sp114 _ _ (sp113 _ _ (sp112 _ _ (sp111 _ _ (sp110 _ _ (sp109 _ _ (sp108 _ _ (sp107 _ _ (sp106 _ _ (sp105 _ _ (sp104 _ _ (sp103 _ _ (sp102 _ _ (sp101 _ _ eAM))))))))))))))))), fun p118 np118 => ?_⟩
  rw [show cutV ws none (some 20) = ws.take 20 from cut_to ws 20]
  have sp118 := same_upd (o := .lst (ws.take 20)) np118
  have rp118 : p118 ≠ r.a := fun z => (BagAt.some c117) (by rw [← z]; exact np118)
  have ep118 : (upd M117 p118 (.lst (ws.take 20))) p118 = some (.lst (ws.take 20)) := upd_same
  have c118 := c117.same sp118
  generalize upd M117 p118 (.lst (ws.take 20)) = M118 at sp118 ep118 c118 ⊢
  refine ⟨small_le (by show 1 ≤ 1000; decide), fun p119 np119 => ?_⟩
  have sp119 := same_upd (o := .tup [.str "serve"]) np119
  have rp119 : p119 ≠ r.a := fun z => (BagAt.some c118) (by rw [← z]; exact np119)
  have ep119 : (upd M118 p119 (.tup [.str "serve"])) p119 = some (.tup [.str "serve"]) := upd_same
  have c119 := c118.same sp119
  generalize upd M118 p119 (.tup [.str "serve"]) = M119 at sp119 ep119 c119 ⊢
  refine ⟨small_le (by show 1 ≤ 1000; decide), fun p120 np120 => ?_⟩
  have sp120 := same_upd (o := .lst [.ref p119]) np120
  have rp120 : p120 ≠ r.a := fun z => (BagAt.some c119) (by rw [← z]; exact np120)
  have ep120 : (upd M119 p120 (.lst [.ref p119])) p120 = some (.lst [.ref p119]) := upd_same
  have c120 := c119.same sp120
  generalize upd M119 p120 (.lst [.ref p119]) = M120 at sp120 ep120 c120 ⊢
  refine ⟨p120, 30, [.ref p119], rfl, rfl, ep120, by decide, by decide, small_le (by show 1 * 30 ≤ 1000; decide), fun p121 np121 => ?_⟩
  have sp121 := same_upd (o := .lst (List.replicate (30 : Int).toNat [V.ref p119]).flatten) np121
  have rp121 : p121 ≠ r.a := fun z => (BagAt.some c120) (by rw [← z]; exact np121)
  have ep121 : (upd M120 p121 (.lst (List.replicate (30 : Int).toNat [V.ref p119]).flatten)) p121 = some (.lst (List.replicate (30 : Int).toNat [V.ref p119]).flatten) := upd_same
  have c121 := c120.same sp121
  generalize upd M120 p121 (.lst (List.replicate (30 : Int).toNat [V.ref p119]).flatten) = M121 at sp121 ep121 c121 ⊢
  refine ⟨p118, p121, (ws.take 20), ((List.replicate (30 : Int).toNat [V.ref p119]).flatten), rfl, rfl, (sp121 _ _ (sp120 _ _ (sp119 _ _ ep118))), ep121, small_le (by rw [show (((List.replicate (30 : Int).toNat [V.ref p119]).flatten)).length = 30 from rfl, List.length_take]; omega), fun p122 np122 => ?_⟩
  have sp122 := same_upd (o := .lst ((ws.take 20) ++ ((List.replicate (30 : Int).toNat [V.ref p119]).flatten))) np122
  have rp122 : p122 ≠ r.a := fun z => (BagAt.some c121) (by rw [← z]; exact np122)
  have ep122 : (upd M121 p122 (.lst ((ws.take 20) ++ ((List.replicate (30 : Int).toNat [V.ref p119]).flatten)))) p122 = some (.lst ((ws.take 20) ++ ((List.replicate (30 : Int).toNat [V.ref p119]).flatten))) := upd_same
  have c122 := c121.same sp122
  generalize upd M121 p122 (.lst ((ws.take 20) ++ ((List.replicate (30 : Int).toNat [V.ref p119]).flatten))) = M122 at sp122 ep122 c122 ⊢
  refine ⟨small_le (by show 3 ≤ 1000; decide), fun p123 np123 => ?_⟩
  have sp123 := same_upd (o := .lst [.ref p116, .ref p117, .ref p122]) np123
  have rp123 : p123 ≠ r.a := fun z => (BagAt.some c122) (by rw [← z]; exact np123)
  have ep123 : (upd M122 p123 (.lst [.ref p116, .ref p117, .ref p122])) p123 = some (.lst [.ref p116, .ref p117, .ref p122]) := upd_same
  have c123 := c122.same sp123
  generalize upd M122 p123 (.lst [.ref p116, .ref p117, .ref p122]) = M123 at sp123 ep123 c123 ⊢
  refine ⟨p113, p123, [.ref p105, .ref p110, .ref p111, .ref p112], [.ref p116, .ref p117, .ref p122], rfl, rfl, (sp123 _ _ (sp122 _ _ (sp121 _ _ (sp120 _ _ (sp119 _ _ (sp118 _ _ (sp117 _ _ (sp116 _ _ (sp115 _ _ (sp114 _ _ ep113)))))))))), ep123, small_le (by simp only [List.length_append, List.length_take, List.length_drop, List.length_cons, List.length_nil]; omega), fun p124 np124 => ?_⟩
  have sp124 := same_upd (o := .lst ([.ref p105, .ref p110, .ref p111, .ref p112] ++ [.ref p116, .ref p117, .ref p122])) np124
  have rp124 : p124 ≠ r.a := fun z => (BagAt.some c123) (by rw [← z]; exact np124)
  have ep124 : (upd M123 p124 (.lst ([.ref p105, .ref p110, .ref p111, .ref p112] ++ [.ref p116, .ref p117, .ref p122]))) p124 = some (.lst ([.ref p105, .ref p110, .ref p111, .ref p112] ++ [.ref p116, .ref p117, .ref p122])) := upd_same
  have c124 := c123.same sp124
  generalize upd M123 p124 (.lst ([.ref p105, .ref p110, .ref p111, .ref p112] ++ [.ref p116, .ref p117, .ref p122])) = M124 at sp124 ep124 c124 ⊢
  dsimp only [gName]
  show tRet _ _ [some (.ref r.a), some (.ref A), some (.int (at_ : Int)), some (.ref LO), some y, some (.ref p124)] M124
  have sM : Same M0 M124 := (((((((((((((((((((((((sp101).trans sp102).trans sp103).trans sp104).trans sp105).trans sp106).trans sp107).trans sp108).trans sp109).trans sp110).trans sp111).trans sp112).trans sp113).trans sp114).trans sp115).trans sp116).trans sp117).trans sp118).trans sp119).trans sp120).trans sp121).trans sp122).trans sp123).trans sp124
  have wsF := RpAll.sm (Hid.of sM) wsM
  have hyF := Rp.sm (Hid.of sM) hy0
  have fin : ∀ v ∈ ([V.ref p105, .ref p110, .ref p111, .ref p112, .ref p116, .ref p117, .ref p122] : List V), ∃ p ds, v = .ref p ∧ Rp (Hid r M124) (.ref p) (.list ds) ∧ ds.length ≤ 300 := by
    intro v hv
    simp only [List.mem_cons, List.not_mem_nil, or_false] at hv
    rcases hv with h | h | h | h | h | h | h
    · subst h; exact ⟨p105, _, rfl, .lst (Hid.at rp105 (sp124 _ _ (sp123 _ _ (sp122 _ _ (sp121 _ _ (sp120 _ _ (sp119 _ _ (sp118 _ _ (sp117 _ _ (sp116 _ _ (sp115 _ _ (sp114 _ _ (sp113 _ _ (sp112 _ _ (sp111 _ _ (sp110 _ _ (sp109 _ _ (sp108 _ _ (sp107 _ _ (sp106 _ _ ep105)))))))))))))))))))) (((wsF.take at_).append (.cons hyF .nil)).append (wsF.dropX at_)), by simp only [List.length_append, List.length_take, List.length_drop, List.length_cons, List.length_nil, List.length_reverse]; omega⟩
    · subst h; exact ⟨p110, _, rfl, .lst (Hid.at rp110 (sp124 _ _ (sp123 _ _ (sp122 _ _ (sp121 _ _ (sp120 _ _ (sp119 _ _ (sp118 _ _ (sp117 _ _ (sp116 _ _ (sp115 _ _ (sp114 _ _ (sp113 _ _ (sp112 _ _ (sp111 _ _ ep110))))))))))))))) (((wsF.take at_).append (.cons hyF .nil)).append (wsF.dropX (at_ + 1))), by simp only [List.length_append, List.length_take, List.length_drop, List.length_cons, List.length_nil, List.length_reverse]; omega⟩
    · subst h; exact ⟨p111, _, rfl, .lst (Hid.at rp111 (sp124 _ _ (sp123 _ _ (sp122 _ _ (sp121 _ _ (sp120 _ _ (sp119 _ _ (sp118 _ _ (sp117 _ _ (sp116 _ _ (sp115 _ _ (sp114 _ _ (sp113 _ _ (sp112 _ _ ep111)))))))))))))) (wsF.dropX 1), by simp only [List.length_append, List.length_take, List.length_drop, List.length_cons, List.length_nil, List.length_reverse]; omega⟩
    · subst h; exact ⟨p112, _, rfl, .lst (Hid.at rp112 (sp124 _ _ (sp123 _ _ (sp122 _ _ (sp121 _ _ (sp120 _ _ (sp119 _ _ (sp118 _ _ (sp117 _ _ (sp116 _ _ (sp115 _ _ (sp114 _ _ (sp113 _ _ ep112))))))))))))) wsF.rev, by simp only [List.length_append, List.length_take, List.length_drop, List.length_cons, List.length_nil, List.length_reverse]; omega⟩
    · subst h; exact ⟨p116, _, rfl, .lst (Hid.at rp116 (sp124 _ _ (sp123 _ _ (sp122 _ _ (sp121 _ _ (sp120 _ _ (sp119 _ _ (sp118 _ _ (sp117 _ _ ep116))))))))) (.cons (.tup (Hid.at rp114 (sp124 _ _ (sp123 _ _ (sp122 _ _ (sp121 _ _ (sp120 _ _ (sp119 _ _ (sp118 _ _ (sp117 _ _ (sp116 _ _ (sp115 _ _ ep114))))))))))) (.cons (.str _) .nil)) wsF), by simp only [List.length_append, List.length_take, List.length_drop, List.length_cons, List.length_nil, List.length_reverse]; omega⟩
    · subst h; exact ⟨p117, _, rfl, .lst (Hid.at rp117 (sp124 _ _ (sp123 _ _ (sp122 _ _ (sp121 _ _ (sp120 _ _ (sp119 _ _ (sp118 _ _ ep117)))))))) (.cons (.lst (Hid.at nAr (sM _ _ eAM)) wsF) .nil), by show 1 ≤ 300; decide⟩
    · subst h; exact ⟨p122, _, rfl, .lst (Hid.at rp122 (sp124 _ _ (sp123 _ _ ep122))) ((wsF.take 20).append (RpAll.rep (.tup (Hid.at rp119 (sp124 _ _ (sp123 _ _ (sp122 _ _ (sp121 _ _ (sp120 _ _ ep119)))))) (.cons (.str _) .nil)) (30 : Int).toNat)), by rw [List.length_append, List.length_replicate, List.length_take, show (30 : Int).toNat = 30 from rfl]; omega⟩
  refine ⟨.ref p124, rfl, .ref r.a, rfl, r, 7, n + 2, rfl, c124.mono (by omega), by omega, by decide, by decide, fun x2 N0 d0 v2 x20 x21 => ?_⟩
  obtain ⟨jj, rfl⟩ : ∃ j : Nat, x2 = (j : Int) := ⟨x2.toNat, by omega⟩
  have hjj : jj < ([V.ref p105, .ref p110, .ref p111, .ref p112, .ref p116, .ref p117, .ref p122] : List V).length := by show jj < 7; omega
  obtain ⟨pp, dd, ev, rr, ll⟩ := fin _ (List.getElem_mem hjj)
  refine ⟨p124, [V.ref p105, .ref p110, .ref p111, .ref p112, .ref p116, .ref p117, .ref p122], jj, .ref pp, rfl, rfl, SqL.of (v2.keep p124 _ rp124 ep124), atI_nat (by rw [List.getElem?_eq_getElem hjj, ev]), ?_⟩
  exact q pp dd N0 (d0.mono (by omega)) ((mv0.trans (Mv.of sM)).trans v2) (Rp.sm (Hid.mv v2) rr) ll
end
end CL
set_option Elab.async false
set_option linter.all false
set_option pp.maxSteps 600
set_option maxRecDepth 100000
set_option maxHeartbeats 4000000
namespace CL
open PySem PySem.Spec PyProof.Rows L2 GE
theorem tup_blk {X : Cx} {s : Shared} {H : Hp} {scope : Scope} {cenv : Env} {fp : List Addr} : CallR (X.blk s H scope cenv fp) (.type "tuple") (fun xs H Q => ∃ p ys, xs = [.ref p] ∧ ((SqL X.K H p ys ∧ ∀ l, H l = none → Q (.ref l) (upd H l (.tup ys))) ∨ (SqT X.K H p ys ∧ Q (.ref p) H))) := call_tuple_of
/-- a deed that is one, as its tuple -/
theorem deedV_of {H : Hp} {d : PyData} {es : List PyData} {ys : List V} {t : Addr} (hes : rowsD d = some es) (hy : RpAll H ys es) (e : H t = some (.tup ys)) (h : isComD d = true ∨ (isComD d = false ∧ isDeedD d "serve" 1 = true)) : DeedV H (.ref t) (toDeed d) := by
  rcases h with h | ⟨h0, h⟩
  · obtain ⟨p, e1, e2, e3⟩ := comD_toDeed h
    rw [e1]
    unfold isComD isDeedD at h
    rw [hes] at h
    simp only [Bool.and_eq_true, decide_eq_true_eq] at h
    unfold sndP at e3
    rw [hes] at e3
    match es, ys, h.1, hy, e3, e with
    | [w, q], [x, y], h1, .cons hx (.cons hq .nil), e3, e =>
      have e3 : q = optD p := e3
      subst e3
      have hw := h1.2
      cases hx with
      | str z =>
        have hz : z = ("come" : Str) := of_decide_eq_true hw
        subst hz
        rw [rp_optV hq] at e
        exact ⟨t, rfl, e⟩
      | _ => cases hw
  · have e1 : toDeed d = .serve := by unfold toDeed; rw [h0, if_neg Bool.false_ne_true]
    rw [e1]
    unfold isDeedD at h
    rw [hes] at h
    simp only [Bool.and_eq_true, decide_eq_true_eq] at h
    match es, ys, h, hy, e with
    | [w], [x], h1, .cons hx .nil, e =>
      have hw := h1.2
      cases hx with
      | str z =>
        have hz : z = ("serve" : Str) := of_decide_eq_true hw
        subst hz
        exact ⟨t, rfl, e⟩
      | _ => cases hw
theorem standF_each : ∀ (ds : List PyData) (n : Nat), (standF ds n).isSome = true → ∀ d ∈ ds, isComD d = true ∨ (isComD d = false ∧ isDeedD d "serve" 1 = true)
  | [], _, _, d, hd => nomatch hd
  | e :: ds, n, h, d, hd => by
    unfold standF at h
    by_cases c : isComD e = true
    · rw [if_pos c] at h
      rcases List.mem_cons.mp hd with z | z
      · rw [z]; exact .inl c
      · exact standF_each ds _ h d z
    · rw [if_neg c] at h
      by_cases c2 : isDeedD e "serve" 1 = true
      · rw [if_pos c2] at h
        by_cases c3 : 0 < n
        · rw [if_pos c3] at h
          rcases List.mem_cons.mp hd with z | z
          · rw [z]; exact .inr ⟨Bool.not_eq_true _ ▸ (by simpa using c), c2⟩
          · exact standF_each ds _ h d z
        · rw [if_neg c3] at h; cases h
      · rw [if_neg c2] at h; cases h
section
variable {P : Program} {w : World} {K : PySem.W.Frag} {mg : Str → Option Value} {base : Heap} {C : Addr}
theorem ok_plain {f : Addr} {fd : FuncData} (F : Fun K "_law_plain" "_law_plain" sPlain f fd) (htup : mg "tuple" = none) : FnOk P w K mg base CX0 1 f fd ["thing"] spPlain := by
  refine F.ok scPlain (fun vs H Q E ⟨v, d, ds, e, _⟩ => by rw [e]; rfl) (fun cdv A' outer s H vs Q E hr h => ?_)
  obtain ⟨v, d, ds, rfl, hR, hds, hst, hl, q⟩ := h
  have nd := scPlain.nd
  refine ⟨_, (pss_one (ps_ret (pe_lc (own := [("deed", 1)]) (g := gName 1) (tt := tYes) rfl nd (pi_seqW (pv 0)) (blkOk_by (own := [("deed", 1)]) (N := ["thing", "deed"]) (sc := defScope sPlain) (by decide +kernel)) (fun _ _ _ _ _ => pg_name (i := 1) nd rfl (Or.inl rfl)) (fun _ _ _ _ _ => pts_nil)
    (fun _ _ _ _ _ => pe_callTy tup_blk (by rfl) htup PyProof.Rows.boot_tuple (pa_cons (pv 1) pa_nil))))), ?_⟩
  obtain ⟨a, xs, rfl, hx, hso⟩ := hR.rows hds
  have lx := hx.length
  refine ⟨.ref a, rfl, a, xs, rfl, ⟨hso⟩, fun J hJ D nD => ?_⟩
  refine lc_it (walk_seq (G := fun H2 => ∀ o, H a = some o → H2 a = some o) hJ) (fun i G => ∃ out, G D = some (.lst out) ∧ Same H G ∧ All2 (DeedV G) out ((ds.take i).map toDeed)) ⟨[], upd_same, same_upd nD, .nil⟩ (fun i G _ ⟨out, _, s, _⟩ => fun o e => s _ _ e) (fun i x G G' hi hP hY => ?_) (fun G hP => ?_)
  · obtain ⟨out, eD, sG, al⟩ := hP
    obtain ⟨rfl, hxi⟩ := hY
    obtain ⟨di, hdi, hRi⟩ := hx.get hxi
    have hcase := standF_each ds 0 hst di (List.mem_of_getElem? hdi)
    obtain ⟨es, hes⟩ : ∃ es, rowsD di = some es := by
      rcases hcase with h | ⟨_, h⟩
      · obtain ⟨w', p', e, _⟩ := comD_rows h; exact ⟨_, e⟩
      · unfold isDeedD at h
        cases z : rowsD di with
        | none => rw [z] at h; cases h
        | some es => exact ⟨es, rfl⟩
    have hRG := Rp.sm sG hRi
    obtain ⟨b, ys, rfl, hy, hb⟩ := hRG.rows hes
    have hlen := al.length
    rw [List.length_map, List.length_take] at hlen
    have snoc : (ds.take (i + 1)).map toDeed = (ds.take i).map toDeed ++ [toDeed di] := by rw [List.take_add_one, hdi, List.map_append]; rfl
    have neD : ∀ {X : Hp} {o o' : HO} {t : Addr}, X D = some o → X t = some o' → (∀ z, o' ≠ .lst z) → (∃ z, o = .lst z) → t ≠ D := fun {X o o' t} e1 e2 n ⟨z, hz⟩ c => by
      rw [c, e1, hz] at e2
      exact n z (Option.some.inj e2).symm
    have put : ∀ {X : Hp} {t : Addr}, Same H X → X D = some (.lst out) → All2 (DeedV X) out ((ds.take i).map toDeed) → DeedV X (.ref t) (toDeed di) → ∃ out', (upd X D (.lst (out ++ [.ref t]))) D = some (.lst out') ∧ Same H (upd X D (.lst (out ++ [.ref t]))) ∧ All2 (DeedV (upd X D (.lst (out ++ [.ref t])))) out' ((ds.take (i + 1)).map toDeed) := fun {X t} sX eX aX dX => by
      have kt : ∀ z zs, X z = some (.tup zs) → (upd X D (.lst (out ++ [.ref t]))) z = some (.tup zs) := fun z zs e => by
        rw [upd_ne (fun c => by rw [c, eX] at e; cases e)]
        exact e
      refine ⟨_, upd_same, fun z o e => ?_, ?_⟩
      · rw [upd_ne (fun c => by rw [c, nD] at e; cases e)]
        exact sX z o e
      · rw [snoc]
        exact All2.snoc (aX.imp fun _ _ => DeedV.kx kt) (DeedV.kx kt dX)
    refine ⟨rfl, yesT ⟨.ref b, rfl, b, ys, rfl, ?_⟩⟩
    rcases hb with hb | hb
    · refine .inl ⟨SqL.of hb, fun l nl => ⟨out, same_upd nl _ _ eD, small1000 (by omega), ?_⟩⟩
      have sl := same_upd (o := .tup ys) nl
      exact put (sG.trans sl) (sl _ _ eD) (al.imp fun _ _ => DeedV.kx fun t ys e => sl _ _ e) (deedV_of hes (hy.sm sl) upd_same hcase)
    · exact .inr ⟨SqT.of hb, out, eD, small1000 (by omega), put sG eD al (deedV_of hes hy hb hcase)⟩
  · obtain ⟨out, eD, sG, al⟩ := hP
    rw [lx, List.take_length] at al
    exact q D out G sG nD eD al
end
end CL
set_option Elab.async false
set_option linter.all false
set_option pp.maxSteps 600
set_option maxRecDepth 100000
set_option maxHeartbeats 4000000
namespace CL
open PySem PySem.Spec PyProof.Rows L2 GE
abbrev sGoes : Stmt := topS 47
abbrev nGoes : List Str := ["bag", "line", "handed", "deeds", "deed", "number", "left", "time"]
theorem scGoes : FnScope nGoes ["bag", "line", "handed", "deeds"] (defScope sGoes) := ⟨rfl, rfl, rfl, by decide +kernel, rfl, by decide +kernel, by decide +kernel⟩
/-- an address that is neither the line's, nor the bag's, nor the deeds' -/
structure Out (r : Bg) (L : LnA) (A p : Addr) : Prop where
  l : ¬ L.has p
  a : p ≠ r.a
  c : p ≠ r.c
  d : p ≠ A
/-- what is handed: at h, tuples, or lists that may change -/
def Item (r : Bg) (L : LnA) (A h : Addr) (H : Hp) (n : Nat) (y : V) : Prop :=
  (∃ l z, y = .ref l ∧ H l = some (.lst z) ∧ 1 ≤ z.length ∧ z.length ≤ n ∧ Out r L A l ∧ l ≠ h) ∨ ∃ t z, y = .ref t ∧ H t = some (.tup z)
def spGoes (C : Addr) : Sp := fun vs H Q _ => ∃ (r : Bg) (L : LnA) (A h : Addr) (ws : List V) (ds : List Deed) (hs : List V) (n : Nat), vs = [.ref r.a, .ref L.o, .ref h, .ref A] ∧ Sd C n H r L A (stF ds) ws ds ∧ Dis2 r L A ∧ n + 2 < M60 ∧ Vd ds ∧ (∀ d ∈ ds, OkD d) ∧ ds.length ≤ 299 ∧
  (H h = some (.lst hs) ∨ H h = some (.tup hs)) ∧ Out r L A h ∧ hs.length ≤ 300 ∧ (∀ y ∈ hs, Item r L A h H 2 y) ∧
  ∀ H', BagAt (n + 2) H' r → H' A = some (.lst ws) → All2 (DeedV H') ws ds → (∀ b o, H b = some o → (∀ z, o ≠ .lst z) → H' b = some o) → Q (.bl true) H'
section
variable {P : Program} {w : World} {K : PySem.W.Frag} {mg : Str → Option Value} {base : Heap} {C : Addr}
theorem ok_goes {f fU fC : Addr} {fd fdU fdC : FuncData} (F : Fun K "_law_goes_on" "_law_goes_on" sGoes f fd) (hT : Nm mg) (T : LnT K mg C)
    (mU : Meth K C "undo" fU) (GU : FnOk P w K mg base CX0 2 fU fdU ["self"] (spUndoM C)) (bU : Binds K fdU ["self"] [])
    (mC : Meth K C "come" fC) (GC : FnOk P w K mg base CX0 3 fC fdC ["self", "patience"] (spComeM C)) (bC : Binds K fdC ["self", "patience"] [])
    (CD : Cal P w K mg base 4 "_law_draw" ["bag", "many"] (spE spDraw)) (CRi : CalG P w K mg base 6 "_law_right" ["line", "deeds"] (spRight C)) (CUn : Cal P w K mg base 4 "_law_undone" ["line"] (spUndone C)) : FnG P w K mg base 8 f fd ["bag", "line", "handed", "deeds"] (spGoes C) := by
  refine fng_of F scGoes (fun vs H Q E ⟨r, L, A, h, ws, ds, hs, n, e, _⟩ => by rw [e]; rfl) (fun cdv A' outer s H vs Q E hgd hr hh => ?_)
  obtain ⟨r, L, A, h, ws, ds, hs, n, rfl, sd, dis, hn, hv, hok, hl, eh, hfr, hl3, hit, q⟩ := hh
  have nd := scGoes.nd
  refine ⟨_, (pss_cons (ps_for PassesOwn.never rfl (pi_seqW (pv 2)) (pg_name (i := 4) nd rfl (.inl rfl)) (pss_one (ps_if (pt_val (pe_callB call_isi (by rfl) hT.isi (by decide +kernel) (pa_cons (pv 4) (pa_cons (pe_bltn (v := .ty "list") (by rfl) hT.list PyProof.Rows.boot_list rfl) pa_nil)))) (pss_cons (ps_expr (pe_bm PySem.F.plainAttrs_list PySem.F.slot_list_append PySem.F.type_list_append mt_append (pv 4) (pa_cons pe_int pa_nil))) (pss_one (ps_asg pe_str (pg_sub (pv 4) pe_int set_list)))) pss_nil)))
      (pss_cons (ps_if (pt_val (pe_callB call_isi (by rfl) hT.isi (by decide +kernel) (pa_cons (pv 2) (pa_cons (pe_bltn (v := .ty "list") (by rfl) hT.list PyProof.Rows.boot_list rfl) pa_nil)))) (pss_one (ps_expr (pe_bm PySem.F.plainAttrs_list PySem.F.slot_list_append PySem.F.type_list_append mt_append (pv 2) (pa_cons (pe_tup (pa_cons pe_str (pa_cons pe_int pa_nil))) pa_nil)))) pss_nil)
      (pss_cons (ps_set (i := 5) nd rfl (.inl rfl) (pe_callB call_len_seq (by rfl) hT.len PySem.boot_len (pa_cons (pe_lc (own := [("deed", 4)]) (g := gName 4) rfl nd (pi_list (pv 3)) (blkOk_by (own := [("deed", 4)]) (N := nGoes) (sc := defScope sGoes) (by decide +kernel)) (fun _ _ _ _ _ => pg_name (i := 4) nd rfl (Or.inl rfl)) (fun _ _ _ _ _ => pts_one (pt_cmpR op_eq (pe_ix ixT_blk (pv 4) pe_int (fun _ _ => rfl)) pe_str (nomark _))) (fun _ _ _ _ _ => pv 4)) pa_nil)))
      (pss_cons (ps_if (PW.pt (pw_or (pt_not (pt_val (pe_calG CRi hgd (fun vs H Q E ⟨L, A, ws, ds, e, _⟩ => by rw [e]; rfl) (hr.mono (by decide)) (by rfl) (pa_cons (pv 1) (pa_cons (pv 3) pa_nil))))) (pw_or (pt_cmpR op_ne (pe_meth (pv 1) T.cl mC GC (hr.mono (by decide)) bC .nil pass0 (pa_cons pe_int pa_nil)) (pv 5) (nomark _)) (pw_or1 (pt_not (pt_val (pe_calG CRi hgd (fun vs H Q E ⟨L, A, ws, ds, e, _⟩ => by rw [e]; rfl) (hr.mono (by decide)) (by rfl) (pa_cons (pv 1) (pa_cons (pe_op op_cat (pv 3) (pe_lst (pa_cons (pe_tup (pa_cons pe_str (pa_cons pe_int pa_nil))) pa_nil))) pa_nil))))))))) (pss_one (ps_ret pe_bl)) pss_nil)
      (pss_cons (ps_set (i := 6) nd rfl (.inl rfl) (pe_op op_cat (pv 3) (pe_lst (pa_cons (pe_tup (pa_cons pe_str (pa_cons pe_int pa_nil))) pa_nil))))
      (pss_cons (ps_for PassesOwn.never rfl (pi_range1 (by rfl) hT.range (pa_cons (pe_ix ix_list (pe_lst (pa_cons pe_int (pa_cons pe_int (pa_cons (pe_callB (call_min2 rfl) (by rfl) hT.min (by decide +kernel) (pa_cons pe_int (pa_cons (pe_callB call_len_seq (by rfl) hT.len PySem.boot_len (pa_cons (pv 6) pa_nil)) pa_nil))) (pa_cons (pe_callB call_len_seq (by rfl) hT.len PySem.boot_len (pa_cons (pv 6) pa_nil)) pa_nil))))) (pe_cal CD (hr.mono (by decide)) (by rfl) (pa_cons (pv 0) (pa_cons pe_int pa_nil))) (fun _ _ => rfl)) pa_nil)) (pg_name (i := 7) nd rfl (.inl rfl)) (pss_one (ps_if (pt_cmpR (op_neE hr.units0) (pv 6) (pe_lst pa_nil) (nomark _)) (pss_cons (ps_set (i := 6) nd rfl (.inl rfl) (pe_slice sl_list (pv 6) po_none (po_some (pe_un un_neg pe_int))))
      (pss_one (ps_if (PW.pt (pw_or (pt_cmp (pc_notN (pe_meth0 (pv 1) T.cl mU GU (hr.mono (by decide)) bU .nil pass0))) (pw_or1 (PW.pt (pw_and (pt_cmpR op_lt (pe_callB call_len_seq (by rfl) hT.len PySem.boot_len (pa_cons (pv 6) pa_nil)) pe_int (nomark _)) (pw_and1 (pt_not (pt_val (pe_calG CRi hgd (fun vs H Q E ⟨L, A, ws, ds, e, _⟩ => by rw [e]; rfl) (hr.mono (by decide)) (by rfl) (pa_cons (pv 1) (pa_cons (pv 6) pa_nil))))))))))) (pss_one (ps_ret pe_bl)) pss_nil))) pss_nil)))
      (pss_one (ps_ret (pe_and (pe_calG CRi hgd (fun vs H Q E ⟨L, A, ws, ds, e, _⟩ => by rw [e]; rfl) (hr.mono (by decide)) (by rfl) (pa_cons (pv 1) (pa_cons (pv 6) pa_nil))) (pe_one (pe_or (pe_cmpR (op_neE hr.units0) (pv 6) (pe_lst pa_nil) (nomark _)) (pe_one (pe_cmpR op_eq (pe_cal CUn (hr.mono (by decide)) (by rfl) (pa_cons (pv 1) pa_nil)) pe_str (nomark _)))))))))))))), ?_⟩
  have hM : M60 = 1000000000000000000 := rfl
  have hwl := sd.aw.length
  have c := ds_count hv 300 (by omega)
  have frame : ∀ {G : Hp}, (∀ b o, H b = some o → (∀ z, o ≠ .lst z) → G b = some o) → (∀ b o, H b = some o → (L.has b ∨ b = r.a ∨ b = r.c ∨ b = A) → G b = some o) → Sd C n G r L A (stF ds) ws ds := fun {G} k1 k2 => by
    have kt : ∀ t ys, H t = some (.tup ys) → G t = some (.tup ys) := fun t ys e => k1 _ _ e fun _ => nofun
    refine ⟨?_, sd.ln.kx fun b o hb e => hb.elim (fun z => k2 _ _ e (.inl z)) (fun z => k1 _ _ e z), k2 _ _ sd.al (.inr (.inr (.inr rfl))), sd.aw.imp fun _ _ => DeedV.kx kt⟩
    obtain ⟨ns, i, b, k, t, b1, b2, b3⟩ := sd.bag.ex
    exact ⟨ns, i, b, k, t, k2 _ _ b1 (.inr (.inl rfl)), k2 _ _ b2 (.inr (.inr (.inl rfl))), b3⟩
  refine ⟨.ref h, rfl, h, hs, rfl, ⟨eh⟩, fun J hJ => for_it (walk_seq (G := fun H2 => ∀ o, H h = some o → H2 h = some o) hJ) (fun i σ G => (∃ y, σ = [some (.ref r.a), some (.ref L.o), some (.ref h), some (.ref A), y, none, none, none]) ∧ (∀ b o, H b = some o → (∀ z, o ≠ .lst z) → G b = some o) ∧ (∀ b o, H b = some o → (L.has b ∨ b = r.a ∨ b = r.c ∨ b = A ∨ b = h) → G b = some o) ∧ ∀ y ∈ hs, Item r L A h G (2 + i) y)
    ⟨⟨_, rfl⟩, fun _ _ e _ => e, fun _ _ e _ => e, hit⟩ (fun i σ G _ hP => fun o e => hP.2.2.1 _ _ e (.inr (.inr (.inr (.inr rfl))))) (fun i x σ G0 G hi hP hY => ?_) (fun σ G hP => ?_)⟩
  · obtain ⟨⟨y, rfl⟩, k1, k2, ki⟩ := hP
    obtain ⟨rfl, hxi⟩ := hY
    dsimp only [gName]
    show tIfS _ _ _ _ [some (.ref r.a), some (.ref L.o), some (.ref h), some (.ref A), some x, none, none, none] G
    rcases ki x (List.mem_of_getElem? hxi) with ⟨l, z, rfl, el, z1, z2, ol, lh⟩ | ⟨t, z, rfl, et⟩
    · refine ⟨.ref l, rfl, .ref l, .ty "list", _, _, true, rfl, .ty _, .base (.lst el), kit_list (.list []), true, rfl, iteT ?_⟩
      refine ⟨.ref l, rfl, .inl ⟨rfl, _, SqL.of el⟩, l, z, .int 7, rfl, rfl, el, small1000 (by omega), ?_⟩
      have i0 : ixN (z ++ [V.int 7]).length 0 = some 0 := by
        have := ixN_nat (n := (z ++ [V.int 7]).length) (j := 0) (by rw [List.length_append]; show 0 < z.length + 1; omega)
        exact this
      refine ⟨.ref l, rfl, l, _, 0, 0, rfl, rfl, upd_same, i0, ?_⟩
      rw [upd_upd]
      have z3 : ((z ++ [V.int 7]).set 0 (.str "serve")).length = z.length + 1 := by rw [List.length_set, List.length_append]; rfl
      refine ⟨⟨_, rfl⟩, fun b o e no => ?_, fun b o e hb => ?_, fun y' hy' => ?_⟩
      · have e1 := k1 b o e no
        rw [upd_ne (fun c => by rw [c, el] at e1; exact no _ (Option.some.inj e1).symm)]
        exact e1
      · have e1 := k2 b o e hb
        rw [upd_ne (fun c => by
          rcases hb with q | q | q | q | q
          · exact ol.l (c ▸ q)
          · exact ol.a (c ▸ q)
          · exact ol.c (c ▸ q)
          · exact ol.d (c ▸ q)
          · exact lh (c ▸ q))]
        exact e1
      · rcases ki y' hy' with ⟨l', z', a1, a2, a3, a4, a5, a6⟩ | ⟨t', z', a1, a2⟩
        · by_cases q : l' = l
          · subst q
            exact .inl ⟨l', _, a1, upd_same, by rw [z3]; omega, by rw [z3]; omega, a5, a6⟩
          · exact .inl ⟨l', z', a1, by rw [upd_ne q]; exact a2, a3, by omega, a5, a6⟩
        · exact .inr ⟨t', z', a1, by rw [upd_ne (fun c => by rw [c, el] at a2; cases a2)]; exact a2⟩
    · refine ⟨.ref t, rfl, .ref t, .ty "list", _, _, false, rfl, .ty _, .base (.tup et), kit_list (.tuple []), false, rfl, iteF ?_⟩
      refine ⟨⟨_, rfl⟩, k1, k2, fun y' hy' => (ki y' hy').imp (fun ⟨l, z, a1, a2, a3, a4, a5⟩ => ⟨l, z, a1, a2, a3, by omega, a5⟩) id⟩
  obtain ⟨⟨y, rfl⟩, k1, k2, ki⟩ := hP
  dsimp only []
  show tSeq (tIfS _ _ _) _ _ [some (.ref r.a), some (.ref L.o), some (.ref h), some (.ref A), y, none, none, none] G
  refine seq_mk fun nx hnx => ?_
  have REST : ∀ G2, (∀ b o, H b = some o → (∀ z, o ≠ .lst z) → G2 b = some o) → (∀ b o, H b = some o → (L.has b ∨ b = r.a ∨ b = r.c ∨ b = A) → G2 b = some o) → nx [some (.ref r.a), some (.ref L.o), some (.ref h), some (.ref A), y, none, none, none] G2 := by
    intro G2 k1' k2'
    have sd2 := frame k1' k2'
    refine hnx _ _ ?_
    clear hnx k1 k2 ki frame
    -- number = len([..])
    refine ⟨.ref A, rfl, A, rfl, ⟨_, SqL.of sd2.al⟩, fun D nD => ?_⟩
    have nAD : A ≠ D := fun z => by rw [← z, sd2.al] at nD; cases nD
    refine lc_list (K := K) (a := A) (xs := ws) (fun i H4 => (∀ b o, b ≠ D → G2 b = some o → H4 b = some o) ∧ ∃ acc, H4 D = some (.lst acc) ∧ acc.length = ((ds.take i).filter isCome).length)
      ⟨fun b o nb e => by rw [upd_ne nb]; exact e, [], upd_same, rfl⟩ (fun i H4 _ ⟨m4, _⟩ => SqL.of (m4 _ _ nAD sd2.al)) (fun i v H4 hi ⟨m4, acc, eD, hacc⟩ => ?_) (fun H4 ⟨m4, acc, eD, hacc⟩ => ?_)
    · obtain ⟨d, hd, hdv'⟩ := sd2.aw.get hi
      have hil := (List.getElem?_eq_some_iff.mp hd).1
      have hsn : ds.take (i + 1) = ds.take i ++ [d] := by rw [List.take_add_one, hd]; rfl
      cases d with
      | come p' =>
        obtain ⟨t2, rfl, et2⟩ := hdv'
        have et4 := m4 t2 _ (fun z => by rw [z, nD] at et2; cases et2) et2
        refine ⟨rfl, .ref t2, rfl, t2, _, 0, .str "come", rfl, rfl, SqT.of et4, atI_nat (j := 0) rfl, rfl, _, rfl, ite2 (fun _ => ?_) (fun y => absurd (decide_eq_true rfl) y)⟩
        refine ⟨.ref t2, rfl, acc, eD, ?_, fun b o nb e => by rw [upd_ne nb]; exact m4 b o nb e, _, upd_same, ?_⟩
        · have := List.length_filter_le isCome (ds.take i)
          rw [List.length_take] at this
          exact small1000 (by omega)
        · rw [hsn, List.filter_append, List.length_append, List.length_append, hacc]
          rfl
      | serve =>
        obtain ⟨t2, rfl, et2⟩ := hdv'
        have et4 := m4 t2 _ (fun z => by rw [z, nD] at et2; cases et2) et2
        refine ⟨rfl, .ref t2, rfl, t2, _, 0, .str "serve", rfl, rfl, SqT.of et4, atI_nat (j := 0) rfl, rfl, _, rfl, ite2 (fun y => absurd (of_decide_eq_true y) (fun z => word_ne (by injection z))) (fun _ => ?_)⟩
        refine ⟨m4, acc, eD, ?_⟩
        rw [hsn, List.filter_append, List.length_append, hacc]
        rfl
    rw [hwl, List.take_length, come_count] at hacc
    have s4 : Same G2 H4 := fun b o e => m4 b o (fun z => by rw [z, nD] at e; cases e) e
    have sd4 := sd2.same s4
    refine ⟨D, acc, rfl, .inl (SqL.of eD), ?_⟩
    rw [hacc]
    dsimp only [gName]
    show tSeq _ _ _ [some (.ref r.a), some (.ref L.o), some (.ref h), some (.ref A), y, some (.int ((stF ds).ps.length : Int)), none, none] H4
    -- the line as its deeds come to
    refine ⟨.ref L.o, rfl, .ref A, rfl, L, A, ws, ds, rfl, sd4.ln, sd4.al, sd4.aw, hv, hok, by omega, fun G5 s5 => ⟨true, rfl, iteF ?_⟩⟩
    have sd5 := sd4.same s5
    obtain ⟨dx, fs, hob, hf⟩ := sd5.ln.ob
    refine ⟨.ref L.o, rfl, L.o, dx, fs, rfl, hob, hf.come, L, stF ds, some 3, rfl, sd5.ln, by decide, by omega, fun G6 l6 m6 => ?_⟩
    have sd6 := sd5.mvL dis l6 m6
    refine ⟨.int ((stF ds).ps.length : Int), rfl, rfl, _, rfl, ite2 (fun q => absurd q (by simp)) (fun _ => ?_)⟩
    -- deeds + [("come", 3)]
    refine ⟨.ref L.o, rfl, .ref A, rfl, small_le (by show 2 ≤ 1000; decide), fun t1 nt1 => ⟨small_le (by show 1 ≤ 1000; decide), fun p1 np1 => ?_⟩⟩
    obtain ⟨es, hes⟩ : ∃ es, es = ds ++ [Deed.come (some 3)] := ⟨_, rfl⟩
    have hve : Vd es := by rw [hes]; exact hv.come _
    have hoe : ∀ d ∈ es, OkD d := by
      rw [hes]
      intro d hd
      rcases List.mem_append.mp hd with z | z
      · exact hok d z
      · rw [List.mem_singleton.mp z]
        intro p e
        cases e
        decide
    have lne : es.length ≤ 300 := by rw [hes, List.length_append]; show ds.length + 1 ≤ 300; omega
    have l6' : LineAt C G6 L (stF es) := by rw [hes, stF_snoc]; exact l6
    -- a list of these
    have lay : ∀ {X : Hp} {t p T1 : Addr}, Sd C n X r L A (stF es) ws ds → X t = none → (upd X t (.tup [.str "come", .int 3])) p = none → (upd (upd X t (.tup [.str "come", .int 3])) p (.lst [.ref t])) T1 = none → Same X (upd (upd (upd X t (.tup [.str "come", .int 3])) p (.lst [.ref t])) T1 (.lst (ws ++ [.ref t]))) ∧ All2 (DeedV (upd (upd (upd X t (.tup [.str "come", .int 3])) p (.lst [.ref t])) T1 (.lst (ws ++ [.ref t])))) (ws ++ [.ref t]) es := fun {X t p T1} w0 nt np nT => by
      have a1 := same_upd (o := .tup [.str "come", .int 3]) nt
      have a2 := same_upd (o := .lst [.ref t]) np
      have a3 := same_upd (o := .lst (ws ++ [.ref t])) nT
      refine ⟨(a1.trans a2).trans a3, ?_⟩
      rw [hes]
      refine All2.snoc (w0.aw.imp fun _ _ => DeedV.kx fun t ys e => a3 _ _ (a2 _ _ (a1 _ _ e))) ⟨t, rfl, ?_⟩
      exact a3 _ _ (a2 _ _ upd_same)
    have sd6' : Sd C n G6 r L A (stF es) ws ds := ⟨sd6.bag, l6', sd6.al, sd6.aw⟩
    refine ⟨A, p1, ws, [.ref t1], rfl, rfl, same_upd np1 _ _ (same_upd nt1 _ _ sd6.al), upd_same, small_le (by rw [hwl]; show ds.length + 1 ≤ 1000; omega), fun T1 nT1 => ?_⟩
    obtain ⟨s7, a7⟩ := lay sd6' nt1 np1 nT1
    refine ⟨L, T1, _, es, rfl, l6'.same s7, upd_same, a7, hve, hoe, lne, fun G8 s8 => ⟨true, rfl, iteF ?_⟩⟩
    have sd8 := (sd6'.same s7).same s8
    -- left
    refine ⟨.ref A, rfl, small_le (by show 2 ≤ 1000; decide), fun t2 nt2 => ⟨small_le (by show 1 ≤ 1000; decide), fun p2 np2 => ?_⟩⟩
    refine ⟨A, p2, ws, [.ref t2], rfl, rfl, same_upd np2 _ _ (same_upd nt2 _ _ sd8.al), upd_same, small_le (by rw [hwl]; show ds.length + 1 ≤ 1000; omega), fun T2 nT2 => ?_⟩
    obtain ⟨s9, a9⟩ := lay sd8 nt2 np2 nT2
    have sd9 := sd8.same s9
    have e9 : (upd (upd (upd G8 t2 (.tup [.str "come", .int 3])) p2 (.lst [.ref t2])) T2 (.lst (ws ++ [.ref t2]))) T2 = some (.lst (ws ++ [.ref t2])) := upd_same
    have tl : ¬ L.has T2 := fun z => by
      obtain ⟨vs, e⟩ := ((sd8.ln.same (same_upd nt2)).same (same_upd np2)).isl z
      rw [nT2] at e
      cases e
    have tr : T2 ≠ r.a := fun z => ((sd8.bag.same (same_upd nt2)).same (same_upd np2)).some (by rw [← z]; exact nT2)
    have wl2 : (ws ++ [V.ref t2]).length = es.length := a9.length
    dsimp only [gName]
    show tSeq _ _ _ [some (.ref r.a), some (.ref L.o), some (.ref h), some (.ref A), y, some (.int ((stF ds).ps.length : Int)), some (.ref T2), none] (upd (upd (upd G8 t2 (.tup [.str "come", .int 3])) p2 (.lst [.ref t2])) T2 (.lst (ws ++ [.ref t2])))
    generalize ws ++ [V.ref t2] = wl at e9 a9 wl2 nT2 s9 sd9
    generalize upd (upd (upd G8 t2 (.tup [.str "come", .int 3])) p2 (.lst [.ref t2])) T2 (.lst wl) = G9 at s9 e9 a9 sd9 ⊢
    have keepN : ∀ b o, H b = some o → (∀ z, o ≠ .lst z) → G9 b = some o := fun b o e no => by
      have e1 := s5 _ _ (s4 _ _ (k1' b o e no))
      have e2 := m6.keep b o (sd5.ln.nol e1 no) e1
      exact s9 _ _ (s8 _ _ (s7 _ _ e2))
    refine ⟨.ref T2, rfl, T2, _, rfl, .inl (SqL.of e9), 9, _, rfl, .ref T2, rfl, T2, _, rfl, .inl (SqL.of e9), small_le (by show 4 ≤ 1000; decide), fun LI nLI => ?_⟩
    have sLI := same_upd (o := .lst [.int 1, .int 2, .int (if (wl.length : Int) < 9 then (wl.length : Int) else 9), .int (wl.length : Int)]) nLI
    have eLI : (upd G9 LI (.lst [.int 1, .int 2, .int (if (wl.length : Int) < 9 then (wl.length : Int) else 9), .int (wl.length : Int)])) LI = some (.lst [.int 1, .int 2, .int (if (wl.length : Int) < 9 then (wl.length : Int) else 9), .int (wl.length : Int)]) := upd_same
    have rLI : LI ≠ r.a := fun z => sd9.bag.some (by rw [← z]; exact nLI)
    refine ⟨.ref r.a, rfl, r, 4, n, rfl, sd9.bag.same sLI, by omega, by decide, by decide, fun x K0 b0 v0 x00 x01 => ?_⟩
    obtain ⟨j, rfl⟩ : ∃ j : Nat, x = (j : Int) := ⟨x.toNat, by omega⟩
    have hj : j < 4 := by omega
    obtain ⟨val, hval, hv0, hv1⟩ : ∃ val : Int, [V.int 1, .int 2, .int (if (wl.length : Int) < 9 then (wl.length : Int) else 9), .int (wl.length : Int)][j]? = some (.int val) ∧ 0 ≤ val ∧ val ≤ 300 := by
      match j, hj with
      | 0, _ => exact ⟨1, rfl, by omega, by omega⟩
      | 1, _ => exact ⟨2, rfl, by omega, by omega⟩
      | 2, _ => exact ⟨_, rfl, by split <;> omega, by split <;> omega⟩
      | 3, _ => exact ⟨_, rfl, by omega, by omega⟩
    refine ⟨LI, _, j, .int val, rfl, rfl, SqL.of (v0.keep LI _ rLI eLI), atI_nat hval, val, rfl, by omega, by omega, ?_⟩
    have kK : ∀ b o, G9 b = some o → b ≠ r.a → K0 b = some o := fun b o e nb => v0.keep b o nb (sLI _ _ e)
    have ktK : ∀ t ys, G9 t = some (.tup ys) → K0 t = some (.tup ys) := fun t ys e => kK _ _ e fun z => by
      obtain ⟨vs, e2⟩ := sd9.bag.isl
      rw [z, e2] at e
      cases e
    have lnK : LineAt C K0 L (stF es) := (sd9.ln.same sLI).mv (sd9.bag.same sLI) dis.aa v0
    have keepK : ∀ b o, H b = some o → (∀ z, o ≠ .lst z) → K0 b = some o := fun b o e no => kK _ _ (keepN b o e no) fun z => by
      obtain ⟨vs, e2⟩ := sd.bag.isl
      rw [z, e2] at e
      exact no _ (Option.some.inj e).symm
    refine for_range (lo := 0) (n := val.toNat) (fun i σ G => ∃ T wt et y7, σ = [some (.ref r.a), some (.ref L.o), some (.ref h), some (.ref A), y, some (.int ((stF ds).ps.length : Int)), some (.ref T), y7] ∧ G T = some (.lst wt) ∧ All2 (DeedV G) wt et ∧ (∃ m, et = es.take m) ∧ LineAt C G L (stF et) ∧ BagAt (n + 1) G r ∧ ¬ L.has T ∧ G A = some (.lst ws) ∧ All2 (DeedV G) ws ds ∧ ∀ b o, H b = some o → (∀ z, o ≠ .lst z) → G b = some o)
      ⟨T2, wl, es, none, rfl, kK _ _ e9 tr, a9.imp fun _ _ => DeedV.kx ktK, ⟨es.length, (List.take_length).symm⟩, lnK, b0, tl, kK _ _ sd9.al dis.ar, sd9.aw.imp fun _ _ => DeedV.kx ktK, keepK⟩ (fun i σ G hi hP => ?_) (fun σ G hP => ?_)
    · obtain ⟨T, wt, et, y7, rfl, eT, aw, ⟨m, hm⟩, ln, bg, nlT, eAg, awA, kn⟩ := hP
      dsimp only [gName]
      show tIfS _ _ _ _ [some (.ref r.a), some (.ref L.o), some (.ref h), some (.ref A), y, some (.int ((stF ds).ps.length : Int)), some (.ref T), some (.int (0 + (i : Int)))] G
      have vt : Vd et := by rw [hm]; exact Vd.pre (es := es.drop m) (by rw [List.take_append_drop]; exact hve)
      have ot : ∀ d ∈ et, OkD d := fun d hd => hoe d (by rw [hm] at hd; exact List.mem_of_mem_take hd)
      have lt : et.length ≤ 300 := by rw [hm, List.length_take]; omega
      have lwt := aw.length
      refine ⟨.ref T, rfl, Nat.zero_le _, fun Z nZ => ⟨T, Z, wt, rfl, rfl, same_upd nZ _ _ eT, upd_same, _, rfl, ?_⟩⟩
      have sZ := same_upd (o := .lst []) nZ
      generalize upd G Z (.lst []) = G1 at sZ
      rcases List.eq_nil_or_concat et with z | ⟨e2, d, z⟩
      · have wn : wt = [] := List.eq_nil_of_length_eq_zero (by rw [lwt, z]; rfl)
        subst wn
        exact iteF ⟨T, [], et, _, rfl, sZ _ _ eT, aw.imp fun _ _ => DeedV.kx fun t ys e => sZ _ _ e, ⟨m, hm⟩, ln.same sZ, bg.same sZ, nlT, sZ _ _ eAg, awA.imp fun _ _ => DeedV.kx fun t ys e => sZ _ _ e, fun b o e no => sZ _ _ (kn b o e no)⟩
      · rw [List.concat_eq_append] at z
        have h1 : e2 = et.take e2.length := by rw [z, List.take_append_of_le_length (Nat.le_refl _), List.take_length]
        have hm2 : ∃ k, e2 = es.take k := ⟨min e2.length m, by rw [← List.take_take, ← hm]; exact h1⟩
        have lz : et.length = e2.length + 1 := by rw [z, List.length_append]; rfl
        have nn : (!wt.isEmpty) = true := by
          cases wt with
          | nil => rw [lz] at lwt; cases lwt
          | cons _ _ => rfl
        rw [nn]
        refine iteT ?_
        refine ⟨.ref T, rfl, 1, rfl, -1, rfl, T, _, rfl, SqL.of (sZ _ _ eT), fun T' nT' => ?_⟩
        rw [cut_last]
        have sT := same_upd (o := .lst (wt.take (wt.length - 1))) nT'
        have eT' : (upd G1 T' (.lst (wt.take (wt.length - 1)))) T' = some (.lst (wt.take (wt.length - 1))) := upd_same
        have lnZ := ln.same sZ
        have nlT' : ¬ L.has T' := fun q => by
          obtain ⟨vs, e⟩ := lnZ.isl q
          rw [nT'] at e
          cases e
        dsimp only [gName]
        show tIfS _ _ _ _ [some (.ref r.a), some (.ref L.o), some (.ref h), some (.ref A), y, some (.int ((stF ds).ps.length : Int)), some (.ref T'), some (.int (0 + (i : Int)))] (upd G1 T' (.lst (wt.take (wt.length - 1))))
        have s02 := sZ.trans sT
        generalize upd G1 T' (.lst (wt.take (wt.length - 1))) = G2' at sT eT' s02
        have ln2 := ln.same s02
        obtain ⟨dx2, fs2, hob2, hf2⟩ := ln2.ob
        have ve2 : Vd e2 := Vd.pre (es := [d]) (by rw [← z]; exact vt)
        have c2 := ds_count ve2 300 (by omega)
        rw [z, stF_snoc] at ln2
        refine ⟨.ref L.o, rfl, L.o, dx2, fs2, rfl, hob2, hf2.undo, L, stF e2, d, rfl, ln2, ve2.ok, (fun e => by rw [z, e] at vt; exact vt.last), by omega, fun G3 l3 m3 => ⟨_, rfl, ?_⟩⟩
        have kt3 : ∀ t ys, G t = some (.tup ys) → G3 t = some (.tup ys) := fun t ys e => m3.keep _ _ (ln2.nol (s02 _ _ e) fun _ => nofun) (s02 _ _ e)
        have hw2 : All2 (DeedV G3) (wt.take (wt.length - 1)) e2 := by
          rw [z] at aw
          obtain ⟨wt2, v2, hq, aq, _⟩ := aw.unsnoc
          have h1 : wt.take (wt.length - 1) = wt2 := by rw [hq, List.length_append, List.length_singleton, Nat.add_sub_cancel, List.take_append_of_le_length (Nat.le_refl _), List.take_length]
          rw [h1]
          exact aq.imp fun _ _ => DeedV.kx kt3
        have fin : ∀ G4, Same G3 G4 → ∃ T wt et y7, [some (V.ref r.a), some (V.ref L.o), some (V.ref h), some (V.ref A), y, some (V.int ((stF ds).ps.length : Int)), some (V.ref T'), some (V.int (0 + (i : Int)))] = [some (.ref r.a), some (.ref L.o), some (.ref h), some (.ref A), y, some (.int ((stF ds).ps.length : Int)), some (.ref T), y7] ∧ G4 T = some (.lst wt) ∧ All2 (DeedV G4) wt et ∧ (∃ m, et = es.take m) ∧ LineAt C G4 L (stF et) ∧ BagAt (n + 1) G4 r ∧ ¬ L.has T ∧ G4 A = some (.lst ws) ∧ All2 (DeedV G4) ws ds ∧ ∀ b o, H b = some o → (∀ z, o ≠ .lst z) → G4 b = some o := fun G4 s4' =>
          ⟨T', _, e2, _, rfl, s4' _ _ (m3.keep _ _ nlT' eT'), hw2.imp fun _ _ => DeedV.kx fun t ys e => s4' _ _ e, hm2, l3.same s4', ((bg.same s02).mvL dis.aa dis.ac m3).same s4', nlT', s4' _ _ (m3.keep _ _ dis.ag (s02 _ _ eAg)), awA.imp fun _ _ => DeedV.kx fun t ys e => s4' _ _ (kt3 _ _ e), fun b o e no => s4' _ _ (m3.keep _ _ (ln2.nol (s02 _ _ (kn b o e no)) no) (s02 _ _ (kn b o e no)))⟩
        refine iteF ⟨.ref T', rfl, T', _, rfl, .inl (SqL.of (m3.keep _ _ nlT' eT')), _, 40, rfl, rfl, _, rfl, ite2 (fun _ => ?_) (fun _ => iteF (fin G3 (Same.refl G3)))⟩
        have oe2 : ∀ d' ∈ e2, OkD d' := fun d' hd => ot d' (by rw [z]; exact List.mem_append_left _ hd)
        exact ⟨.ref L.o, rfl, .ref T', rfl, L, T', _, e2, rfl, l3, m3.keep _ _ nlT' eT', hw2, ve2, oe2, by omega, fun G4 s4' => ⟨true, rfl, iteF (fin G4 s4')⟩⟩
    · obtain ⟨T, wt, et, y7, rfl, eT, aw, ⟨m, hm⟩, ln, bg, nlT, eAg, awA, kn⟩ := hP
      have vt : Vd et := by rw [hm]; exact Vd.pre (es := es.drop m) (by rw [List.take_append_drop]; exact hve)
      have ot : ∀ d ∈ et, OkD d := fun d hd => hoe d (by rw [hm] at hd; exact List.mem_of_mem_take hd)
      have lt : et.length ≤ 300 := by rw [hm, List.length_take]; omega
      have lwt := aw.length
      refine ⟨.ref L.o, rfl, .ref T, rfl, L, T, wt, et, rfl, ln, eT, aw, vt, ot, lt, fun G2' s2' => ⟨true, rfl, iteT ?_⟩⟩
      have post : ∀ G4, Same G2' G4 → Q (.bl true) G4 := fun G4 s4' => by
        have s := s2'.trans s4'
        exact q G4 ((bg.same s).mono (by omega)) (s _ _ eAg) (awA.imp fun _ _ => DeedV.kx fun t ys e => s _ _ e) fun b o e no => s _ _ (kn b o e no)
      refine ⟨.ref T, rfl, Nat.zero_le _, fun Z nZ => ⟨T, Z, wt, rfl, rfl, same_upd nZ _ _ (s2' _ _ eT), upd_same, _, rfl, ?_⟩⟩
      have sZ := same_upd (o := .lst []) nZ
      generalize upd G2' Z (.lst []) = G3 at sZ
      cases wt with
      | cons _ _ => exact iteT (post G3 sZ)
      | nil =>
        refine iteF ⟨.ref L.o, rfl, L, stF et, rfl, (ln.same s2').same sZ, ?_, fun G4 s4' => ⟨rfl, ?_⟩⟩
        · have e0 : et = [] := List.eq_nil_of_length_eq_zero (by rw [← lwt]; rfl)
          rw [e0]
          rfl
        · have ed : decide (V.str "Nothing" = V.str "Nothing") = true := decide_eq_true rfl
          rw [ed]
          exact post G4 (sZ.trans s4')
  have k2a : ∀ b o, H b = some o → (L.has b ∨ b = r.a ∨ b = r.c ∨ b = A) → G b = some o := fun b o e hb => k2 b o e (hb.elim .inl fun z => .inr (z.elim .inl fun z => .inr (z.elim .inl fun z => .inr (.inl z))))
  rcases eh with eh' | eh'
  · have ehG := k2 _ _ eh' (.inr (.inr (.inr (.inr rfl))))
    refine ⟨.ref h, rfl, .ref h, .ty "list", _, _, true, rfl, .ty _, .base (.lst ehG), kit_list (.list []), true, rfl, iteT ?_⟩
    refine ⟨.ref h, rfl, .inl ⟨rfl, _, SqL.of ehG⟩, small_le (by show 2 ≤ 1000; decide), fun t nt => ⟨h, hs, .ref t, rfl, rfl, same_upd nt _ _ ehG, small1000 (by omega), REST _ (fun b o e no => ?_) (fun b o e hb => ?_)⟩⟩
    · rw [upd_ne (fun c => by rw [c, eh'] at e; exact no _ (Option.some.inj e).symm)]
      exact same_upd nt _ _ (k1 _ _ e no)
    · rw [upd_ne (fun c => by
        rcases hb with q | q | q | q
        · exact hfr.l (c ▸ q)
        · exact hfr.a (c ▸ q)
        · exact hfr.c (c ▸ q)
        · exact hfr.d (c ▸ q))]
      exact same_upd nt _ _ (k2a _ _ e hb)
  · have ehG := k1 _ _ eh' (fun _ => nofun)
    refine ⟨.ref h, rfl, .ref h, .ty "list", _, _, false, rfl, .ty _, .base (.tup ehG), kit_list (.tuple []), false, rfl, iteF ?_⟩
    exact REST G k1 k2a
end
end CL
set_option Elab.async false
set_option linter.all false
set_option pp.maxSteps 600
set_option maxRecDepth 100000
set_option maxHeartbeats 4000000
namespace CL
open PySem PySem.Spec PyProof.Rows L2 GE
/-! ### a deed's data, as a list or as a tuple -/
def partsD : Deed → List PyData
  | .come p => [.str "come", optD p]
  | .serve => [.str "serve"]
def deedX (l : Bool) (d : Deed) : PyData := if l then .list (partsD d) else .tuple (partsD d)
theorem deedX_rows (l : Bool) (d : Deed) : rowsD (deedX l d) = some (partsD d) := by cases l <;> rfl
theorem deedX_is {l : Bool} {d : Deed} (h : OkD d) : toDeed (deedX l d) = d ∧ (isComD (deedX l d) = true ↔ ∃ p, d = .come p) ∧ (d = .serve → isDeedD (deedX l d) "serve" 1 = true) := by
  cases d with
  | serve =>
    have h1 : isComD (deedX l .serve) = false := by cases l <;> decide +kernel
    exact ⟨by unfold toDeed; rw [h1]; rfl, ⟨(fun z => by rw [h1] at z; cases z), (fun ⟨p, z⟩ => by cases z)⟩, fun _ => by cases l <;> decide +kernel⟩
  | come p =>
    have hp := h p rfl
    have h0 : headIs "come" [.str "come", optD p] = true := by
      show decide (("come" : Str) = "come") = true
      exact decide_eq_true rfl
    have h1 : isComD (deedX l (.come p)) = true := by
      unfold isComD isDeedD sndP
      rw [deedX_rows]
      show ((decide (2 = 2) && headIs "come" [.str "come", optD p]) && isPatience (optD p)) = true
      rw [h0, hp]
      rfl
    have h2 : patOf (optD p) = p := by cases p <;> rfl
    refine ⟨?_, ⟨fun _ => ⟨p, rfl⟩, fun _ => h1⟩, fun z => by cases z⟩
    have h3 : sndP (deedX l (.come p)) = optD p := by unfold sndP; rw [deedX_rows]; rfl
    unfold toDeed
    rw [if_pos h1, h3, h2]
theorem stand_deedsX (l : Bool) : ∀ (es ds : List Deed), Vd (ds ++ es) → (∀ d ∈ es, OkD d) → (standF (es.map (deedX l)) (stF ds).xs.length).isSome = true
  | [], ds, _, _ => rfl
  | e :: es, ds, hv, ho => by
    have he := ho e List.mem_cons_self
    obtain ⟨h1, h2, h3⟩ := deedX_is he
    have hv1 : Vd ((ds ++ [e]) ++ es) := by
      have z : ds ++ e :: es = (ds ++ [e]) ++ es := by simp
      rw [← z]; exact hv
    have ih := stand_deedsX l es (ds ++ [e]) hv1 fun d hd => ho d (List.mem_cons_of_mem _ hd)
    have hds : Vd ds := hv.pre
    have ok := hds.ok
    rw [List.map_cons]
    unfold standF
    cases e with
    | come p =>
      rw [if_pos (h2.mpr ⟨p, rfl⟩)]
      have : (stF (ds ++ [.come p])).xs.length = (stF ds).xs.length + 1 := by
        rw [stF_snoc]
        obtain ⟨g1, _⟩ := goes_le (stF ds).rs.length (stF ds).rs
        have := ok.len
        show (_ ++ _ :: _).length = _
        rw [List.length_append, List.length_cons, List.length_take, List.length_drop]
        omega
      rw [← this]
      exact ih
    | serve =>
      rw [if_neg (fun z => by obtain ⟨p, q⟩ := h2.mp z; cases q), if_pos (h3 rfl)]
      have hx : (stF ds).xs ≠ [] := hv1.pre.last
      have hl : 0 < (stF ds).xs.length := List.length_pos_iff.mpr hx
      rw [if_pos hl]
      have : (stF (ds ++ [.serve])).xs.length = (stF ds).xs.length - 1 := by
        rw [stF_snoc]
        show (stF ds).xs.tail.length = _
        rw [List.length_tail]
      rw [← this]
      exact ih
theorem map_toDeedX (l : Bool) : ∀ ds : List Deed, (∀ d ∈ ds, OkD d) → (ds.map (deedX l)).map toDeed = ds
  | [], _ => rfl
  | d :: ds, h => by
    rw [List.map_cons, List.map_cons, (deedX_is (h d List.mem_cons_self)).1, map_toDeedX l ds fun e he => h e (List.mem_cons_of_mem _ he)]
theorem partsD_b {d : Deed} (h : OkD d) : ∀ y ∈ partsD d, B 0 200 y := by
  have bs : ∀ z : Str, (reprText z).length ≤ 200 → B 0 200 (.str z) := fun z hz => ⟨Nat.zero_le _, hz, rfl⟩
  have w1 : B 0 200 (.str "come") := bs _ (by decide +kernel)
  have w2 : B 0 200 (.str "serve") := bs _ (by decide +kernel)
  intro y hy
  cases d with
  | come p =>
    rcases List.mem_cons.mp hy with z | z
    · rw [z]; exact w1
    · rw [List.mem_singleton.mp z]; exact b_rng (h p rfl)
  | serve => rw [List.mem_singleton.mp hy]; exact w2
theorem deedX_b {l : Bool} {d : Deed} (h : OkD d) : B 1 500 (deedX l d) := by
  have ln : (partsD d).length ≤ 2 := by cases d <;> simp [partsD]
  cases l
  · exact (B.tuple (k := 0) (u := 200) (n := 2) (partsD_b h) ln).mono (by decide) (by decide)
  · exact (B.list (k := 0) (u := 200) (n := 2) (partsD_b h) ln).mono (by decide) (by decide)
theorem deedsX_b {l : Bool} {ds : List Deed} (h : ∀ d ∈ ds, OkD d) (n : ds.length ≤ 300) : B 100 10000000 (.list (ds.map (deedX l))) ∧ B 100 10000000 (.tuple (ds.map (deedX l))) := by
  have each : ∀ x ∈ ds.map (deedX l), B 1 500 x := fun x hx => by
    obtain ⟨d, hd, rfl⟩ := List.mem_map.mp hx
    exact deedX_b (h d hd)
  exact ⟨(B.list (k := 1) (u := 500) (n := 300) each (by rw [List.length_map]; exact n)).mono (by decide) (by decide), (B.tuple (k := 1) (u := 500) (n := 300) each (by rw [List.length_map]; exact n)).mono (by decide) (by decide)⟩
theorem deedsX_rp {X : Hp} {R : V → Deed → Prop} {l : Bool} (hR : ∀ y d, R y d → Rp X y (deedX l d)) : ∀ {ys : List V} {ds : List Deed}, All2 R ys ds → RpAll X ys (ds.map (deedX l))
  | _, _, .nil => .nil
  | _, _, .cons h t => .cons (hR _ _ h) (deedsX_rp hR t)
theorem deedV_rp {X : Hp} {y : V} {d : Deed} (h : DeedV X y d) : Rp X y (deedX false d) := by
  cases d with
  | come p =>
    obtain ⟨t, rfl, e⟩ := h
    exact .tup e (.cons (.str _) (.cons (rp_opt2 p) .nil))
  | serve =>
    obtain ⟨t, rfl, e⟩ := h
    exact .tup e (.cons (.str _) .nil)
theorem all2_mem {α : Type} {R : V → α → Prop} : ∀ {ys : List V} {ds : List α}, All2 R ys ds → ∀ y ∈ ys, ∃ d ∈ ds, R y d
  | _, _, .cons h t, y, hy => by
    rcases List.mem_cons.mp hy with z | z
    · rw [z]; exact ⟨_, List.mem_cons_self, h⟩
    · obtain ⟨d, hd, r⟩ := all2_mem t y z
      exact ⟨d, List.mem_cons_of_mem _ hd, r⟩
end CL
set_option Elab.async false
set_option linter.all false
set_option pp.maxSteps 600
set_option maxRecDepth 100000
set_option maxHeartbeats 4000000
namespace CL
open PySem PySem.Spec PyProof.Rows L2 GE
abbrev sLaw : Stmt := topS 49
abbrev nLaw : List Str := ["script", "bag", "turn", "deeds", "time", "handed", "kept", "line", "some", "bad", "found", "deed"]
theorem scLaw : FnScope nLaw ["script"] (defScope sLaw) := ⟨rfl, rfl, rfl, by decide +kernel, rfl, by decide +kernel, by decide +kernel⟩
def spLaw (K : PySem.W.Frag) : Sp := fun vs H Q _ => ∃ (a : Addr) (ns : List Int), vs = [.ref a] ∧ SqL K H a (ns.map V.int) ∧ ns.length ≤ 63 ∧ ∀ H', Q (.bl true) H'
theorem lst_blk {X : Cx} {s : Shared} {H : Hp} {scope : Scope} {cenv : Env} {fp : List Addr} : CallR (X.blk s H scope cenv fp) (.type "list") (fun xs H Q => ∃ p ys, xs = [.ref p] ∧ (SqL X.K H p ys ∨ SqT X.K H p ys) ∧ ∀ l, H l = none → Q (.ref l) (upd H l (.lst ys))) := call_list_of
/-- what isinstance asks of the class Line -/
structure LnI (K : PySem.W.Frag) (C : Addr) : Prop where
  ha : PySem.W.findIn K (.ref C) "__class__" = some (some (.builtin "object.__class__"))
  hn : PySem.W.specialIn K (.builtin "object.__class__") "__get__" = some (some (.builtin "getset_descriptor.__get__"))
  ht : PySem.W.takesIn K (.builtin "object.__class__") = some true
  hm : PySem.W.mroIn K C (.type "object") = some true
  hs : PySem.W.kitOne K (.ref C) (.type "str") = some false
section
variable {P : Program} {w : World} {K : PySem.W.Frag} {mg : Str → Option Value} {base : Heap} {C : Addr}
theorem ok_law {f : Addr} {fd : FuncData} (F : Fun K "law" "law" sLaw f fd) (hT : Nm mg) (T : LnT K mg C) (TI : LnI K C) (hstr : mg "str" = none) (htup : mg "tuple" = none) (hrepr : mg "repr" = none) (hsys : ∃ o, base.get? sysModules = some o)
    (CB : Cal P w K mg base 4 "_law_bag" ["script"] (spBag K)) (CD : Cal P w K mg base 4 "_law_draw" ["bag", "many"] (spE spDraw)) (CDe : Cal P w K mg base 4 "_law_deed" ["bag", "deeds", "most"] (spE spDeed))
    (CTo : Cal P w K mg base 6 "_law_told" ["thing"] (spTold C)) (CRi : CalG P w K mg base 6 "_law_right" ["line", "deeds"] (spRight C)) (CGo : CalG P w K mg base 8 "_law_goes_on" ["bag", "line", "handed", "deeds"] (spGoes C))
    (CBe : Cal P w K mg base 5 "_law_bent" ["bag", "deeds"] spBent) (CHi : Cal P w K mg base 3 "_law_is_history" ["thing"] (spOne isHistD)) (CPl : Cal P w K mg base 1 "_law_plain" ["thing"] spPlain) : FnG P w K mg base 10 f fd ["script"] (spLaw K) := by
  refine fng_of F scLaw (fun vs H Q E ⟨a, ns, e, _⟩ => by rw [e]; rfl) (fun cdv A outer s H vs Q E hgd hr h => ?_)
  obtain ⟨a, ns, rfl, hS, h63, q⟩ := h
  have nd := scLaw.nd
  refine ⟨_, (pss_cons (ps_set (i := 1) nd rfl (.inl rfl) (pe_cal CB (hr.mono (by decide)) (by rfl) (pa_cons (pv 0) pa_nil)))
      (pss_cons (ps_for PassesOwn.never rfl (pi_range1 (by rfl) hT.range (pa_cons (pe_op op_add pe_int (pe_callB (call_min2 rfl) (by rfl) hT.min (by decide +kernel) (pa_cons pe_int (pa_cons (pe_callB call_len_seq (by rfl) hT.len PySem.boot_len (pa_cons (pv 0) pa_nil)) pa_nil)))) pa_nil)) (pg_name (i := 2) nd rfl (.inl rfl)) (pss_cons (ps_set (i := 3) nd rfl (.inl rfl) (pe_lst pa_nil))
      (pss_cons (ps_for PassesOwn.never rfl (pi_range1 (by rfl) hT.range (pa_cons (pe_cal CD (hr.mono (by decide)) (by rfl) (pa_cons (pv 1) (pa_cons (pe_ix ix_list (pe_lst (pa_cons pe_int (pa_cons pe_int pa_nil))) (pe_callTy call_int1 (by rfl) hT.int PyProof.Rows.boot_int (pa_cons (pe_cmpR op_eq (pv 2) pe_int (nomark _)) pa_nil)) (fun _ _ => rfl)) pa_nil))) pa_nil)) (pg_name (i := 4) nd rfl (.inl rfl)) (pss_one (ps_expr (pe_bm PySem.F.plainAttrs_list PySem.F.slot_list_append PySem.F.type_list_append mt_append (pv 3) (pa_cons (pe_cal CDe (hr.mono (by decide)) (by rfl) (pa_cons (pv 1) (pa_cons (pv 3) (pa_cons pe_int pa_nil)))) pa_nil)))))
      (pss_cons (ps_set (i := 5) nd rfl (.inl rfl) (pe_ix ix_list (pe_lst (pa_cons (pe_lc (own := [("deed", 11)]) (g := gName 11) (tt := tYes) rfl nd (pi_list (pv 3)) (blkOk_by (own := [("deed", 11)]) (N := nLaw) (sc := defScope sLaw) (by decide +kernel)) (fun _ _ _ _ _ => pg_name (i := 11) nd rfl (Or.inl rfl)) (fun _ _ _ _ _ => pts_nil) (fun _ _ _ _ _ => pe_callTy lst_blk (by rfl) hT.list (by decide +kernel) (pa_cons (pv 11) pa_nil))) (pa_cons (pe_callTy call_list_of (by rfl) hT.list (by decide +kernel) (pa_cons (pv 3) pa_nil)) (pa_cons (pe_callTy call_tuple_of (by rfl) htup PyProof.Rows.boot_tuple (pa_cons (pv 3) pa_nil)) pa_nil)))) (pe_cal CD (hr.mono (by decide)) (by rfl) (pa_cons (pv 1) (pa_cons pe_int pa_nil))) (fun _ _ => rfl)))
      (pss_cons (ps_set (i := 6) nd rfl (.inl rfl) (pe_callB (call_reprD hgd hr hsys) (by rfl) hrepr (by decide +kernel) (pa_cons (pv 5) pa_nil)))
      (pss_cons (ps_set (i := 7) nd rfl (.inl rfl) (pe_cal CTo (hr.mono (by decide)) (by rfl) (pa_cons (pv 5) pa_nil)))
      (pss_cons (ps_if (PW.pt (pw_or (pt_val (pe_callB call_isi (by rfl) hT.isi (by decide +kernel) (pa_cons (pv 7) (pa_cons (pe_bltn (v := .ty "str") (by rfl) hstr PyProof.Rows.boot_str rfl) pa_nil)))) (pw_or (pt_not (pt_val (pe_calG CRi hgd (fun vs H Q E ⟨L, A, ws, ds, e, _⟩ => by rw [e]; rfl) (hr.mono (by decide)) (by rfl) (pa_cons (pv 7) (pa_cons (pv 3) pa_nil))))) (pw_or1 (pt_cmpR op_ne (pe_callB (call_reprD hgd hr hsys) (by rfl) hrepr (by decide +kernel) (pa_cons (pv 5) pa_nil)) (pv 6) (nomark _)))))) (pss_one (ps_ret pe_bl)) pss_nil)
      (pss_cons (ps_if (pt_not (pt_val (pe_calG CGo hgd (fun vs H Q E ⟨r, L, A, h, ws, ds, hs, n, e, _⟩ => by rw [e]; rfl) (hr.mono (by decide)) (by rfl) (pa_cons (pv 1) (pa_cons (pv 7) (pa_cons (pv 5) (pa_cons (pv 3) pa_nil))))))) (pss_one (ps_ret pe_bl)) pss_nil)
      (pss_cons (ps_set (i := 8) nd rfl (.inl rfl) (pe_lst (pa_cons (pe_cal CBe (hr.mono (by decide)) (by rfl) (pa_cons (pv 1) (pa_cons (pv 3) pa_nil))) (pa_cons (pe_cal CBe (hr.mono (by decide)) (by rfl) (pa_cons (pv 1) (pa_cons (pe_slice sl_list (pv 3) po_none (po_some pe_int)) pa_nil))) (pa_cons pe_non (pa_cons pe_int (pa_cons pe_bl (pa_cons pe_str (pa_cons pe_dnewK (pa_cons (pe_tup (pa_cons pe_str pa_nil)) (pa_cons (pe_lst (pa_cons (pe_lst pa_nil) pa_nil)) pa_nil)))))))))))
      (pss_one (ps_for PassesOwn.never rfl (pi_list (pv 8)) (pg_name (i := 9) nd rfl (.inl rfl)) (pss_cons (ps_set (i := 10) nd rfl (.inl rfl) (pe_cal CTo (hr.mono (by decide)) (by rfl) (pa_cons (pv 9) pa_nil)))
      (pss_one (ps_if (pt_not (pt_val (pe_cal CHi (hr.mono (by decide)) (by rfl) (pa_cons (pv 9) pa_nil)))) (pss_one (ps_if (pt_cmpR op_ne (pv 10) pe_str (nomark _)) (pss_one (ps_ret pe_bl)) pss_nil)) (pss_one (ps_if (PW.pt (pw_or (pt_val (pe_callB call_isi (by rfl) hT.isi (by decide +kernel) (pa_cons (pv 10) (pa_cons (pe_bltn (v := .ty "str") (by rfl) hstr PyProof.Rows.boot_str rfl) pa_nil)))) (pw_or1 (pt_not (pt_val (pe_calG CRi hgd (fun vs H Q E ⟨L, A, ws, ds, e, _⟩ => by rw [e]; rfl) (hr.mono (by decide)) (by rfl) (pa_cons (pv 10) (pa_cons (pe_cal CPl (hr.mono (by decide)) (by rfl) (pa_cons (pv 9) pa_nil)) pa_nil)))))))) (pss_one (ps_ret pe_bl)) pss_nil))))))))))))))))
      (pss_one (ps_ret pe_bl)))), ?_⟩
  have hM : M60 = 1000000000000000000 := rfl
  refine ⟨.ref a, rfl, a, ns, rfl, hS, fun r H1 s1 nr b1 => ?_⟩
  have lm : (ns.map V.int).length = ns.length := List.length_map ..
  refine ⟨.ref a, rfl, a, ns.map V.int, rfl, .inl (s1.seq hS), 5, (ns.map V.int).length, rfl, 3, _, rfl, rfl, _, rfl, by split <;> omega, by split <;> omega, ?_⟩
  refine for_range (lo := 0) (n := ((3 : Int) + (if ((ns.map V.int).length : Int) < 5 then ((ns.map V.int).length : Int) else 5)).toNat) (fun i σ H2 => ∃ y2 y3 y4 y5 y6 y7 y8 y9 y10, σ = [some (.ref a), some (.ref r.a), y2, y3, y4, y5, y6, y7, y8, y9, y10, none] ∧ BagAt (10000 * i) H2 r)
    ⟨none, none, none, none, none, none, none, none, none, rfl, b1.mono (Nat.zero_le _)⟩ (fun i0 σ H2 hi hP => ?_) (fun σ H2 _ => q H2)
  obtain ⟨y2, y3, y4, y5, y6, y7, y8, y9, y10, rfl, b2⟩ := hP
  have hi8 : i0 < 9 := by split at hi <;> omega
  clear hi
  -- deeds
  refine ⟨Nat.zero_le _, fun A nA => ?_⟩
  have sA := same_upd (o := .lst []) nA
  have eA : (upd H2 A (.lst [])) A = some (.lst []) := upd_same
  have rA : A ≠ r.a := fun z => b2.some (by rw [← z]; exact nA)
  have cA : A ≠ r.c := fun z => b2.someC (by rw [← z]; exact nA)
  have b3 := b2.same sA
  dsimp only [gName]
  show tSeq _ _ _ [some (.ref a), some (.ref r.a), some (.int (0 + (i0 : Int))), some (.ref A), y4, y5, y6, y7, y8, y9, y10, none] (upd H2 A (.lst []))
  generalize upd H2 A (.lst []) = H3 at sA eA b3
  obtain ⟨mm, hget, hm1, hm2⟩ : ∃ mm : Int, atI [V.int 9, .int 300] (if decide (V.int (0 + (i0 : Int)) = V.int 0) = true then 1 else 0) = some (.int mm) ∧ 1 ≤ mm ∧ mm ≤ 300 := by
    cases decide (V.int (0 + (i0 : Int)) = V.int 0)
    · exact ⟨9, rfl, by decide, by decide⟩
    · exact ⟨300, rfl, by decide, by decide⟩
  refine ⟨.ref r.a, rfl, small_le (by show 2 ≤ 1000; decide), fun p0 np0 => ?_⟩
  have sp0 := same_upd (o := .lst [.int 9, .int 300]) np0
  have ep0 : (upd H3 p0 (.lst [.int 9, .int 300])) p0 = some (.lst [.int 9, .int 300]) := upd_same
  refine ⟨.int (0 + (i0 : Int)), rfl, rfl, .inr ⟨_, rfl, p0, _, _, .int mm, rfl, rfl, SqL.of ep0, hget, r, mm, 10000 * i0, rfl, b3.same sp0, by omega, by omega, by omega, fun x H4 b4 v4 x0 x1 => ?_⟩⟩
  obtain ⟨many, rfl⟩ : ∃ j : Nat, x = (j : Int) := ⟨x.toNat, by omega⟩
  have eA4 := v4.keep A _ rA (sp0 _ _ eA)
  refine ⟨(many : Int), rfl, by omega, by omega, ?_⟩
  refine for_range (lo := 0) (n := (many : Int).toNat) (fun i σ G => ∃ ws ds z4, σ = [some (.ref a), some (.ref r.a), some (.int (0 + (i0 : Int))), some (.ref A), z4, y5, y6, y7, y8, y9, y10, none] ∧ BagAt (10000 * i0 + 1 + 5 * i) G r ∧ G A = some (.lst ws) ∧ All2 (DeedV G) ws ds ∧ Vd ds ∧ (∀ d ∈ ds, OkD d) ∧ ds.length = i)
    ⟨[], [], _, rfl, b4, eA4, .nil, vd_nil, (fun _ h => nomatch h), rfl⟩ (fun i σ G hi hP => ?_) (fun σ G hP => ?_)
  · obtain ⟨ws, ds, z4, rfl, bg, eG, aw, hv, hok, hl⟩ := hP
    have hi3 : i < 300 := by have : (many : Int).toNat = many := rfl; omega
    have lw := aw.length
    refine ⟨.ref A, rfl, .inl ⟨rfl, _, SqL.of eG⟩, .ref r.a, rfl, .ref A, rfl, r, A, ws, ds, 30, 10000 * i0 + 1 + 5 * i, rfl, bg, by omega, by decide, by decide, eG, aw, hv, by omega, fun t d G2 b2' v2 hdv hvd hokd => ⟨A, ws, .ref t, rfl, rfl, v2.keep A _ rA eG, small1000 (by omega), ?_⟩⟩
    have eG2 := v2.keep A _ rA eG
    have kt : ∀ z zs, G2 z = some (.tup zs) → (upd G2 A (.lst (ws ++ [.ref t]))) z = some (.tup zs) := fun z zs e => by
      rw [upd_ne (fun c => by rw [c, eG2] at e; cases e)]
      exact e
    refine ⟨ws ++ [.ref t], ds ++ [d], _, rfl, (b2'.store ⟨rA, cA⟩).mono (by omega), upd_same, All2.snoc (aw.imp fun _ _ => DeedV.kx fun t' ys e => kt _ _ (v2.keep _ _ (fun z => by
      obtain ⟨vs, e2⟩ := bg.isl
      rw [z, e2] at e
      cases e) e)) (DeedV.kx kt hdv), hvd, fun z hz => (List.mem_append.mp hz).elim (hok z) fun q => by rw [List.mem_singleton.mp q]; exact hokd, by rw [List.length_append, hl]; rfl⟩
  obtain ⟨ws, ds, z4, rfl, bg, eG, aw, hv, hok, hl⟩ := hP
  have hmt : (many : Int).toNat = many := rfl
  rw [hmt] at hl bg
  have l299 : ds.length ≤ 299 := by omega
  have lw := aw.length
  dsimp only []
  -- the deeds as lists
  refine ⟨.ref A, rfl, A, rfl, ⟨_, SqL.of eG⟩, fun D nD => ?_⟩
  have rD : D ≠ r.a := fun z => bg.some (by rw [← z]; exact nD)
  have cD : D ≠ r.c := fun z => bg.someC (by rw [← z]; exact nD)
  have aD : D ≠ A := fun z => by rw [z, eG] at nD; cases nD
  refine lc_list (xs := ws) (fun j G' => ∃ out, G' D = some (.lst out) ∧ Same G G' ∧ All2 (fun y d => ∃ l z, y = .ref l ∧ G' l = some (.lst z) ∧ (∀ X : Hp, RpAll X z (partsD d)) ∧ G l = none ∧ l ≠ D) out (ds.take j)) ⟨[], upd_same, same_upd nD, .nil⟩ (fun j G' _ ⟨out, _, s, _⟩ => SqL.of (s _ _ eG)) (fun j x G' hx hP => ?_) (fun G1 hP => ?_)
  · obtain ⟨out, eD, sG, al⟩ := hP
    obtain ⟨d, hd, hdv⟩ := aw.get hx
    have hj := (List.getElem?_eq_some_iff.mp hx).1
    have lo := al.length
    rw [List.length_take] at lo
    have hsn : ds.take (j + 1) = ds.take j ++ [d] := by rw [List.take_add_one, hd]; rfl
    obtain ⟨t, z, rfl, et, hz⟩ : ∃ t z, x = .ref t ∧ G t = some (.tup z) ∧ ∀ X : Hp, RpAll X z (partsD d) := by
      cases d with
      | come p =>
        obtain ⟨t, e1, e2⟩ := hdv
        exact ⟨t, _, e1, e2, fun X => .cons (.str _) (.cons (rp_opt2 p) .nil)⟩
      | serve =>
        obtain ⟨t, e1, e2⟩ := hdv
        exact ⟨t, _, e1, e2, fun X => .cons (.str _) .nil⟩
    refine ⟨rfl, yesT ⟨.ref t, rfl, t, z, rfl, .inr (SqT.of (sG _ _ et)), fun l nl => ⟨out, same_upd nl _ _ eD, small1000 (by omega), ?_⟩⟩⟩
    have sl := same_upd (o := .lst z) nl
    have lD : l ≠ D := fun c => by rw [c, eD] at nl; cases nl
    refine ⟨_, upd_same, fun b o e => ?_, ?_⟩
    · rw [upd_ne (fun c => by rw [c, nD] at e; cases e)]
      exact sl _ _ (sG _ _ e)
    · rw [hsn]
      refine All2.snoc (al.imp fun y d' ⟨l', z', a1, a2, a3, a4, a5⟩ => ⟨l', z', a1, by rw [upd_ne a5]; exact sl _ _ a2, a3, a4, a5⟩) ⟨l, z, rfl, by rw [upd_ne lD]; exact upd_same, hz, sG.free nl, lD⟩
  obtain ⟨out, eD, sG1, al⟩ := hP
  rw [lw, List.take_length] at al
  have eA1 := sG1 _ _ eG
  have bg1 := bg.same sG1
  -- list(deeds), tuple(deeds)
  refine ⟨.ref A, rfl, A, ws, rfl, .inl (SqL.of eA1), fun D2 nD2 => ?_⟩
  have sd2 := same_upd (o := .lst ws) nD2
  have eD2 : (upd G1 D2 (.lst ws)) D2 = some (.lst ws) := upd_same
  have rD2 : D2 ≠ r.a := fun z => bg1.some (by rw [← z]; exact nD2)
  have cD2 : D2 ≠ r.c := fun z => bg1.someC (by rw [← z]; exact nD2)
  have aD2 : D2 ≠ A := fun z => by rw [z, eA1] at nD2; cases nD2
  generalize upd G1 D2 (.lst ws) = G2 at sd2 eD2
  refine ⟨.ref A, rfl, A, ws, rfl, .inl ⟨SqL.of (sd2 _ _ eA1), fun D3 nD3 => ?_⟩⟩
  have sd3 := same_upd (o := .tup ws) nD3
  have eD3 : (upd G2 D3 (.tup ws)) D3 = some (.tup ws) := upd_same
  have bg2 := bg1.same sd2
  have rD3 : D3 ≠ r.a := fun z => bg2.some (by rw [← z]; exact nD3)
  have cD3 : D3 ≠ r.c := fun z => bg2.someC (by rw [← z]; exact nD3)
  have aD3 : D3 ≠ A := fun z => by rw [z, sd2 _ _ eA1] at nD3; cases nD3
  generalize upd G2 D3 (.tup ws) = G3 at sd3 eD3
  refine ⟨small_le (by show 3 ≤ 1000; decide), fun HL nHL => ?_⟩
  have sHL := same_upd (o := .lst [.ref D, .ref D2, .ref D3]) nHL
  have eHL : (upd G3 HL (.lst [.ref D, .ref D2, .ref D3])) HL = some (.lst [.ref D, .ref D2, .ref D3]) := upd_same
  have bg3 := bg2.same sd3
  have rHL : HL ≠ r.a := fun z => bg3.some (by rw [← z]; exact nHL)
  refine ⟨.ref r.a, rfl, r, 3, _, rfl, bg3.same sHL, by omega, by decide, by decide, fun xx K0 c0 v0 x00 x01 => ?_⟩
  obtain ⟨jj, rfl⟩ : ∃ j : Nat, xx = (j : Int) := ⟨xx.toNat, by omega⟩
  have hjj : jj < 3 := by omega
  have s13 := (sd2.trans sd3).trans sHL
  have s03 := sG1.trans s13
  have al0 : ∀ {X : Hp}, Same G1 X → All2 (fun y d => ∃ l z, y = .ref l ∧ X l = some (.lst z) ∧ (∀ X : Hp, RpAll X z (partsD d)) ∧ G l = none ∧ l ≠ D) out ds := fun {X} s => al.imp fun y d ⟨l, z, a1, a2, a3, a4, a5⟩ => ⟨l, z, a1, s _ _ a2, a3, a4, a5⟩
  have notr : ∀ {X : Hp} {b : Addr}, BagAt (10000 * i0 + 1 + 5 * many) X r → X b = none → b ≠ r.a := fun {X b} w e z => w.some (by rw [← z]; exact e)
  obtain ⟨h, d, l, hs, hget2, eh, rh, ch, ah, hrd, hrp, hB, hsl, hit⟩ : ∃ h d l hs, [V.ref D, .ref D2, .ref D3][jj]? = some (.ref h) ∧ (K0 h = some (.lst hs) ∨ K0 h = some (.tup hs)) ∧ h ≠ r.a ∧ h ≠ r.c ∧ h ≠ A ∧ rowsD d = some (ds.map (deedX l)) ∧ Rp (Hid r K0) (.ref h) d ∧ B 100 10000000 d ∧ hs.length = ds.length ∧
      ∀ y ∈ hs, (∃ l' z, y = .ref l' ∧ K0 l' = some (.lst z) ∧ 1 ≤ z.length ∧ z.length ≤ 2 ∧ l' ≠ r.a ∧ l' ≠ r.c ∧ l' ≠ A ∧ l' ≠ h) ∨ ∃ t z, y = .ref t ∧ K0 t = some (.tup z) := by
    have tups : All2 (DeedV K0) ws ds := aw.imp fun _ _ => DeedV.kx fun t ys e => v0.keep _ _ (fun z => by
      obtain ⟨vs, e2⟩ := bg.isl
      rw [z, e2] at e
      cases e) (s03 _ _ e)
    have itT : ∀ h, ∀ y ∈ ws, (∃ l' z, y = .ref l' ∧ K0 l' = some (.lst z) ∧ 1 ≤ z.length ∧ z.length ≤ 2 ∧ l' ≠ r.a ∧ l' ≠ r.c ∧ l' ≠ A ∧ l' ≠ h) ∨ ∃ t z, y = .ref t ∧ K0 t = some (.tup z) := fun h y hy => by
      obtain ⟨d, _, hd⟩ := all2_mem tups y hy
      cases d with
      | come p => obtain ⟨t, e1, e2⟩ := hd; exact .inr ⟨t, _, e1, e2⟩
      | serve => obtain ⟨t, e1, e2⟩ := hd; exact .inr ⟨t, _, e1, e2⟩
    have tupsH : All2 (DeedV (Hid r K0)) ws ds := tups.imp fun _ _ => DeedV.kx fun t ys e => Hid.at (fun z => by
      obtain ⟨vs, e2⟩ := c0.isl
      rw [z, e2] at e
      cases e) e
    match jj, hjj with
    | 0, _ =>
      refine ⟨D, .list (ds.map (deedX true)), true, out, rfl, .inl (v0.keep D _ rD (s13 _ _ eD)), rD, cD, aD, rfl, .lst (Hid.at rD (v0.keep D _ rD (s13 _ _ eD))) (deedsX_rp (fun y d hq => by
        obtain ⟨l, z, a1, a2, a3, a4, a5⟩ := hq
        subst a1
        have rl : l ≠ r.a := notr bg a4
        exact .lst (Hid.at rl (v0.keep l _ rl a2)) (a3 _)) (al0 s13)), (deedsX_b hok (by omega)).1, al.length, fun y hy => ?_⟩
      · obtain ⟨d, hd, l, z, a1, a2, a3, a4, a5⟩ := all2_mem (al0 s13) y hy
        have rl : l ≠ r.a := notr bg a4
        have zl : z.length = (partsD d).length := (a3 K0).length
        have pl : 1 ≤ (partsD d).length ∧ (partsD d).length ≤ 2 := by cases d <;> simp [partsD]
        exact .inl ⟨l, z, a1, v0.keep l _ rl a2, by omega, by omega, rl, fun q => bg.someC (by rw [← q]; exact a4), fun q => (by rw [q, eG] at a4; cases a4), a5⟩
    | 1, _ => exact ⟨D2, .list (ds.map (deedX false)), false, ws, rfl, .inl (v0.keep D2 _ rD2 (sHL _ _ (sd3 _ _ eD2))), rD2, cD2, aD2, rfl, .lst (Hid.at rD2 (v0.keep D2 _ rD2 (sHL _ _ (sd3 _ _ eD2)))) (deedsX_rp (fun _ _ => deedV_rp) tupsH), (deedsX_b hok (by omega)).1, lw, itT D2⟩
    | 2, _ => exact ⟨D3, .tuple (ds.map (deedX false)), false, ws, rfl, .inr (v0.keep D3 _ rD3 (sHL _ _ eD3)), rD3, cD3, aD3, rfl, .tup (Hid.at rD3 (v0.keep D3 _ rD3 (sHL _ _ eD3))) (deedsX_rp (fun _ _ => deedV_rp) tupsH), (deedsX_b hok (by omega)).2, lw, itT D3⟩
  refine ⟨HL, _, jj, .ref h, rfl, rfl, SqL.of (v0.keep HL _ rHL eHL), atI_nat hget2, ?_⟩
  have eA0 := v0.keep A _ rA (s03 _ _ eG)
  have aw0 : All2 (DeedV K0) ws ds := aw.imp fun _ _ => DeedV.kx fun t ys e => v0.keep _ _ (fun z => by
    obtain ⟨vs, e2⟩ := bg.isl
    rw [z, e2] at e
    cases e) (s03 _ _ e)
  clear al0 notr al eD eD2 eD3 eHL sd2 sd3 sHL s13 s03 sG1 v0 nD nD2 nD3 nHL
  dsimp only [gName]
  show tSeq _ _ _ [some (.ref a), some (.ref r.a), some (.int (0 + (i0 : Int))), some (.ref A), z4, some (.ref h), y6, y7, y8, y9, y10, none] K0
  have hrp0 : Rp K0 (.ref h) d := Rp.sm (Hid.sub r K0) hrp
  -- kept
  refine ⟨.ref h, rfl, .ref h, d, h, rfl, rfl, hrp0, hB, ?_⟩
  have hst : (standF (ds.map (deedX l)) 0).isSome = true := stand_deedsX l ds [] hv hok
  have hmap : (ds.map (deedX l)).map toDeed = ds := map_toDeedX l ds hok
  -- line
  refine ⟨.ref h, rfl, .ref h, d, rfl, hrp0, .inr ⟨ds.map (deedX l), hrd, hst, by rw [List.length_map]; omega, fun L K1 t1 nL lnL _ => ?_⟩⟩
  rw [hmap] at lnL
  obtain ⟨dx, fs, hob, hf⟩ := lnL.ob
  dsimp only [gName]
  show tSeq _ _ _ [some (.ref a), some (.ref r.a), some (.int (0 + (i0 : Int))), some (.ref A), z4, some (.ref h), some (.str d.shown), some (.ref L.o), y8, y9, y10, none] K1
  refine ⟨.ref L.o, rfl, .ref L.o, .ty "str", _, _, false, rfl, .ty _, .base (.ins hob T.cl TI.ha TI.hn TI.ht TI.hm), TI.hs, false, rfl, iteF ?_⟩
  have eA1' := t1 _ _ eA0
  have aw1 : All2 (DeedV K1) ws ds := aw0.imp fun _ _ => DeedV.kx fun t ys e => t1 _ _ e
  refine ⟨.ref L.o, rfl, .ref A, rfl, L, A, ws, ds, rfl, lnL, eA1', aw1, hv, hok, by omega, fun K2 t2 => ⟨true, rfl, iteF ?_⟩⟩
  have t02 := t1.trans t2
  refine ⟨.ref h, rfl, .ref h, d, h, rfl, rfl, Rp.sm t02 hrp0, hB, .str d.shown, rfl, rfl, _, rfl, ite2 (fun y => absurd y (by simp)) (fun _ => ?_)⟩
  -- it goes on
  have nLs : ∀ {b : Addr} {o : HO}, K0 b = some o → ¬ L.has b := fun {b o} e z => by rw [nL b z] at e; cases e
  have bg2' := c0.same t02
  have sdK : Sd C _ K2 r L A (stF ds) ws ds := ⟨bg2', lnL.same t2, t02 _ _ eA0, aw0.imp fun _ _ => DeedV.kx fun t ys e => t02 _ _ e⟩
  obtain ⟨vsb, eb⟩ := c0.isl
  have dis : Dis2 r L A := ⟨nLs eb, (fun z => c0.someC (nL _ z)), nLs eA0, rA⟩
  have oh : Out r L A h := ⟨eh.elim (fun e => nLs e) (fun e => nLs e), rh, ch, ah⟩
  refine ⟨.ref r.a, rfl, .ref L.o, rfl, .ref h, rfl, .ref A, rfl, r, L, A, h, ws, ds, hs, _, rfl, sdK, dis, by omega, hv, hok, l299, eh.imp (fun e => t02 _ _ e) (fun e => t02 _ _ e), oh, by omega, fun y hy => ?_, fun K3 b3' eA3 aw3 kn3 => ⟨true, rfl, iteF ?_⟩⟩
  · rcases hit y hy with ⟨l', z, a1, a2, a3, a4, a5, a6, a7, a8⟩ | ⟨t, z, a1, a2⟩
    · exact .inl ⟨l', z, a1, t02 _ _ a2, a3, a4, ⟨nLs a2, a5, a6, a7⟩, a8⟩
    · exact .inr ⟨t, z, a1, t02 _ _ a2⟩
  clear hit hrp hrp0 hrd hB hget2 eh sdK
  have awH : ∀ {X : Hp}, (∀ b o, K3 b = some o → b ≠ r.a → X b = some o) → RpAll (Hid r X) ws (ds.map (deedX false)) := fun {X} k => deedsX_rp (fun _ _ => deedV_rp) (aw3.imp fun _ _ => DeedV.kx fun t ys e => by
    have nt : t ≠ r.a := fun z => by
      obtain ⟨vs, e2⟩ := b3'.isl
      rw [z, e2] at e
      cases e
    exact Hid.at nt (k _ _ e nt))
  have lx : (ds.map (deedX false)).length = ds.length := List.length_map ..
  -- bent
  refine ⟨.ref r.a, rfl, .ref A, rfl, r, A, ws, _, _, rfl, b3', by omega, eA3, rA, awH (fun _ _ e _ => e), by omega, fun q1 d1 K4 b4' v4' rq1 lq1 => ?_⟩
  have eA4' := v4'.keep A _ rA eA3
  refine ⟨.ref r.a, rfl, .ref A, rfl, 9, rfl, A, ws, rfl, SqL.of eA4', fun c9 nc9 => ?_⟩
  rw [show cutV ws none (some 9) = ws.take 9 from cut_to ws 9]
  have sc9 := same_upd (o := .lst (ws.take 9)) nc9
  have ec9 : (upd K4 c9 (.lst (ws.take 9))) c9 = some (.lst (ws.take 9)) := upd_same
  have rc9 : c9 ≠ r.a := fun z => b4'.some (by rw [← z]; exact nc9)
  have b4s := b4'.same sc9
  generalize upd K4 c9 (.lst (ws.take 9)) = K5 at sc9 ec9 b4s
  refine ⟨r, c9, ws.take 9, _, _, rfl, b4s, by omega, ec9, rc9, (awH (fun b o e nb => sc9 _ _ (v4'.keep b o nb e))).take 9, by rw [List.length_take]; omega, fun q2 d2 K6 b6 v6 rq2 lq2 => ?_⟩
  have rq1' : Rp (Hid r K6) (.ref q1) (.list d1) := Rp.sm (Hid.mv v6) (Rp.sm (Hid.of sc9) rq1)
  refine fun e0 ne0 => ?_
  have se0 := same_upd (o := .dK []) ne0
  have ee0 : (upd K6 e0 (.dK [])) e0 = some (.dK []) := upd_same
  generalize upd K6 e0 (.dK []) = K7 at se0 ee0
  refine ⟨small_le (by show 1 ≤ 1000; decide), fun e1 ne1 => ?_⟩
  have se1 := same_upd (o := .tup [.str "serve"]) ne1
  have ee1 : (upd K7 e1 (.tup [.str "serve"])) e1 = some (.tup [.str "serve"]) := upd_same
  generalize upd K7 e1 (.tup [.str "serve"]) = K8 at se1 ee1
  refine ⟨Nat.zero_le _, fun e2 ne2 => ?_⟩
  have se2 := same_upd (o := .lst []) ne2
  have ee2 : (upd K8 e2 (.lst [])) e2 = some (.lst []) := upd_same
  generalize upd K8 e2 (.lst []) = K9 at se2 ee2
  refine ⟨small_le (by show 1 ≤ 1000; decide), fun e3 ne3 => ?_⟩
  have se3 := same_upd (o := .lst [.ref e2]) ne3
  have ee3 : (upd K9 e3 (.lst [.ref e2])) e3 = some (.lst [.ref e2]) := upd_same
  generalize upd K9 e3 (.lst [.ref e2]) = Ka at se3 ee3
  refine ⟨small_le (by show 9 ≤ 1000; decide), fun SM nSM => ?_⟩
  have sSM := same_upd (o := .lst [.ref q1, .ref q2, .non, .int 0, .bl true, .str "serve", .ref e0, .ref e1, .ref e3]) nSM
  have eSM : (upd Ka SM (.lst [.ref q1, .ref q2, .non, .int 0, .bl true, .str "serve", .ref e0, .ref e1, .ref e3])) SM = some (.lst [.ref q1, .ref q2, .non, .int 0, .bl true, .str "serve", .ref e0, .ref e1, .ref e3]) := upd_same
  have s6b := (((se0.trans se1).trans se2).trans se3).trans sSM
  have hbad : ∀ y ∈ ([.ref q1, .ref q2, .non, .int 0, .bl true, .str "serve", .ref e0, .ref e1, .ref e3] : List V), ∃ dy, Rp (upd Ka SM (.lst [.ref q1, .ref q2, .non, .int 0, .bl true, .str "serve", .ref e0, .ref e1, .ref e3])) y dy ∧ ∀ es, rowsD dy = some es → es.length ≤ 300 := by
    intro y hy
    simp only [List.mem_cons, List.not_mem_nil, or_false] at hy
    rcases hy with z | z | z | z | z | z | z | z | z
    · subst z; exact ⟨_, Rp.sm s6b (Rp.sm (Hid.sub r K6) rq1'), fun es e => by cases e; exact lq1⟩
    · subst z; exact ⟨_, Rp.sm s6b (Rp.sm (Hid.sub r K6) rq2), fun es e => by cases e; exact lq2⟩
    · subst z; exact ⟨.none, .non, fun es e => nomatch e⟩
    · subst z; exact ⟨.int 0, .int _, fun es e => nomatch e⟩
    · subst z; exact ⟨.bool true, .bl _, fun es e => nomatch e⟩
    · subst z; exact ⟨.str "serve", .str _, fun es e => nomatch e⟩
    · subst z; exact ⟨.dict [], .dct (sSM _ _ (se3 _ _ (se2 _ _ (se1 _ _ ee0)))), fun es e => nomatch e⟩
    · subst z; exact ⟨.tuple [.str "serve"], .tup (sSM _ _ (se3 _ _ (se2 _ _ ee1))) (.cons (.str _) .nil), fun es e => by cases e; show 1 ≤ 300; decide⟩
    · subst z; exact ⟨.list [.list []], .lst (sSM _ _ ee3) (.cons (.lst (sSM _ _ (se3 _ _ ee2)) .nil) .nil), fun es e => by cases e; show 1 ≤ 300; decide⟩
  have bSM := b6.same s6b
  dsimp only [gName]
  show tFor _ _ _ _ [some (.ref a), some (.ref r.a), some (.int (0 + (i0 : Int))), some (.ref A), z4, some (.ref h), some (.str d.shown), some (.ref L.o), some (.ref SM), y9, y10, none] (upd Ka SM (.lst [.ref q1, .ref q2, .non, .int 0, .bl true, .str "serve", .ref e0, .ref e1, .ref e3]))
  generalize upd Ka SM (.lst [.ref q1, .ref q2, .non, .int 0, .bl true, .str "serve", .ref e0, .ref e1, .ref e3]) = Kb at eSM hbad bSM
  refine ⟨.ref SM, rfl, SM, rfl, ⟨_, SqL.of eSM⟩, for_list (xs := [.ref q1, .ref q2, .non, .int 0, .bl true, .str "serve", .ref e0, .ref e1, .ref e3]) (fun i σ X => (∃ u v', σ = [some (.ref a), some (.ref r.a), some (.int (0 + (i0 : Int))), some (.ref A), z4, some (.ref h), some (.str d.shown), some (.ref L.o), some (.ref SM), u, v', none]) ∧ Same Kb X) ⟨⟨_, _, rfl⟩, Same.refl Kb⟩ (fun i σ X _ ⟨_, s⟩ => SqL.of (s _ _ eSM)) (fun i x σ X hx hP => ?_) (fun σ X hP => ?_)⟩
  · obtain ⟨⟨u, v', rfl⟩, sX⟩ := hP
    obtain ⟨dy, ry, ly⟩ := hbad x (List.mem_of_getElem? hx)
    have ryX := Rp.sm sX ry
    cases hdy : isHistD dy with
    | false =>
      refine ⟨x, rfl, x, dy, rfl, ryX, .inl ⟨hdy, fun X1 t1 => ?_⟩⟩
      refine ⟨x, rfl, x, dy, rfl, Rp.sm t1 ryX, fun X2 t2 => ⟨isHistD dy, rfl, ?_⟩⟩
      rw [hdy]
      refine iteT ⟨.str "NoHistory", rfl, rfl, _, rfl, ite2 (fun y => absurd y (by simp)) (fun _ => ?_)⟩
      exact ⟨⟨_, _, rfl⟩, (sX.trans t1).trans t2⟩
    | true =>
      obtain ⟨es, hes, hst2⟩ : ∃ es, rowsD dy = some es ∧ (standF es 0).isSome = true := by
        unfold isHistD at hdy
        cases z : rowsD dy with
        | none => rw [z] at hdy; cases hdy
        | some es => rw [z] at hdy; exact ⟨es, rfl, hdy⟩
      have les := ly es hes
      have okE : ∀ d ∈ es.map toDeed, OkD d := fun d' hd' => by
        obtain ⟨d0, h0, rfl⟩ := List.mem_map.mp hd'
        intro p e
        rcases standF_each es 0 hst2 d0 h0 with h1 | ⟨h1, h2⟩
        · obtain ⟨p', e1, e2, _⟩ := comD_toDeed h1
          rw [e1] at e
          cases e
          exact e2
        · have : toDeed d0 = .serve := by unfold toDeed; rw [h1, if_neg Bool.false_ne_true]
          rw [this] at e
          cases e
      refine ⟨x, rfl, x, dy, rfl, ryX, .inr ⟨es, hes, hst2, by omega, fun L2 X1 t1 nL2 ln2 vd2 => ?_⟩⟩
      refine ⟨x, rfl, x, dy, rfl, Rp.sm t1 ryX, fun X2 t2 => ⟨isHistD dy, rfl, ?_⟩⟩
      rw [hdy]
      obtain ⟨dx2, fs2, hob2, _⟩ := (ln2.same t2).ob
      refine iteF ⟨.ref L2.o, rfl, .ref L2.o, .ty "str", _, _, false, rfl, .ty _, .base (.ins hob2 T.cl TI.ha TI.hn TI.ht TI.hm), TI.hs, false, rfl, iteF ?_⟩
      refine ⟨.ref L2.o, rfl, x, rfl, x, dy, es, rfl, Rp.sm (t1.trans t2) ryX, hes, hst2, by omega, fun p wp X3 t3 np ep ap => ?_⟩
      refine ⟨L2, p, wp, es.map toDeed, rfl, (ln2.same t2).same t3, ep, ap, vd2, okE, by rw [List.length_map]; exact les, fun X4 t4 => ⟨true, rfl, iteF ?_⟩⟩
      exact ⟨⟨_, _, rfl⟩, (((sX.trans t1).trans t2).trans t3).trans t4⟩
  · obtain ⟨⟨u, v', rfl⟩, sX⟩ := hP
    exact ⟨_, _, _, _, _, _, _, _, _, rfl, (bSM.same sX).mono (by omega)⟩
end
end CL
set_option Elab.async false
set_option linter.all false
set_option maxRecDepth 100000
set_option maxHeartbeats 4000000
namespace CL
open PySem PySem.Spec PyProof.Rows L2 GE
/-! ### the end: what is tracked when the law is called, and that the run leaves the heap as it was but for the tables -/
def H0 (ts : List Addr) (K : PySem.W.Frag) (a : Addr) (vs : List Value) (ns : List Int) : Hp := fun b =>
  if b ∈ ts then some (.tbl #[]) else if b = a ∧ (K.lookup a).isNone = true then some (.frz { cls := .type "list", data := .seq vs.toArray } (.lst (ns.map V.int))) else none
section
variable {ts : List Addr} {K : PySem.W.Frag} {a : Addr} {vs : List Value} {ns : List Int} {h : Heap}
theorem H0.tab {b : Addr} (m : b ∈ ts) : H0 ts K a vs ns b = some (.tbl #[]) := if_pos m
theorem H0.cases {b : Addr} {u : HO} (e : H0 ts K a vs ns b = some u) : (b ∈ ts ∧ u = .tbl #[]) ∨ (b = a ∧ K.lookup a = none ∧ u = .frz { cls := .type "list", data := .seq vs.toArray } (.lst (ns.map V.int))) := by
  unfold H0 at e
  split at e
  · rename_i m
    exact .inl ⟨m, (Option.some.inj e).symm⟩
  · split at e
    · rename_i z
      exact .inr ⟨z.1, Option.isNone_iff_eq_none.mp z.2, (Option.some.inj e).symm⟩
    · cases e
/-- an object that is no list and no empty table is not tracked -/
theorem H0.other (hT : ∀ b ∈ ts, h.get? b = some { cls := .none, data := .fields #[] }) (ha : h.get? a = some { cls := .type "list", data := .seq vs.toArray }) {b : Addr} {o : Obj} (e : h.get? b = some o) (h1 : o.data ≠ .seq vs.toArray) (h2 : o.data ≠ .fields #[]) :
    H0 ts K a vs ns b = none := by
  cases q : H0 ts K a vs ns b with
  | none => rfl
  | some u =>
    rcases H0.cases q with ⟨m, _⟩ | ⟨rfl, _, _⟩
    · rw [hT b m] at e
      cases e
      exact absurd rfl h2
    · rw [ha] at e
      cases e
      exact absurd rfl h1
end
theorem end_own {P : Program} {w : World} {K : PySem.W.Frag} {mg mb : Str → Option Value} {q : Program} {loose : List Str} {mean : ExcName → Option Value} {k : Nat} {fa a : Addr} {fd : FuncData} {x : Str} {sp : Sp} {s₁ : Shared} {vs : List Value} {ns : List Int} (ts : List Addr)
    (KX : K.In s₁.heap) (T : Top q loose mean mg mb s₁.heap) (hi0 : importsNone q = true) (hg : s₁.gens = #[])
    (hT : ∀ b ∈ ts, s₁.heap.get? b = some { cls := .none, data := .fields #[] }) (hC : ∀ b ∈ ts, ∃ c, PySem.W.codeHdIn K c b = true) (nT : ∀ b ∈ ts, K.lookup b = none)
    (ha : s₁.heap.get? a = some { cls := .type "list", data := .seq vs.toArray }) (hi : IntsAre vs ns) (hl : ns.length ≤ sizeLine) (hr : Room k callerA)
    (F : ∀ base : Heap, K.In base → base.Ns mainGlobals mg → (∃ o, base.get? sysModules = some o) → (∀ b ∈ ts, base.BuiltinsAt mg b ∧ mainGlobals ≠ b) → FnG P w K mg base k fa fd [x] sp)
    (hbind : ∀ (s : Shared) (u : Value), BindsTo s fd ⟨[u], []⟩ [(x, u)])
    (hsp : ∀ H : Hp, (∀ b ∈ ts, H b = some (.tbl #[])) → SqL K H a (ns.map V.int) → sp [.ref a] H (fun v _ => v = .bl true) fun _ _ _ => False) :
    codeAny (model P w) callerA (.call (.ref fa) ⟨[.ref a], []⟩) (fun r s' => r = .ok (.ret (.bool true)) ∧ OldK s₁.heap s'.heap ∧ s'.os = s₁.os ∧ AllBare s'.gens) s₁ := by
  have rv := vals_ints hi
  have aT : a ∉ ts := fun m => by
    have z := hT a m
    rw [ha] at z
    cases z
  generalize hH : H0 ts K a vs ns = H
  have tabs : ∀ b ∈ ts, H b = some (.tbl #[]) := fun b m => by rw [← hH]; exact H0.tab m
  have cs : ∀ {b : Addr} {u : HO}, H b = some u → (b ∈ ts ∧ u = .tbl #[]) ∨ (b = a ∧ K.lookup a = none ∧ u = .frz { cls := .type "list", data := .seq vs.toArray } (.lst (ns.map V.int))) := fun e => by
    rw [← hH] at e
    exact H0.cases e
  have oth : ∀ {b : Addr} {o : Obj}, s₁.heap.get? b = some o → o.data ≠ .seq vs.toArray → o.data ≠ .fields #[] → H b = none := fun e h1 h2 => by
    rw [← hH]
    exact H0.other hT ha e h1 h2
  have inB : ∀ {b : Addr} {o : Obj}, s₁.heap.get? b = some o → H b = none → (hidT s₁.heap H).get? b = some o := fun e n => hidT_get e n
  have nsB : ∀ {b : Addr} {m : Str → Option Value}, s₁.heap.Ns b m → (hidT s₁.heap H).Ns b m := fun ⟨o, es, ep, e, d, r⟩ => ⟨o, es, ep, inB e (oth e (by rw [d]; exact nofun) (by rw [d]; exact nofun)), d, r⟩
  have hok : HOk P w H s₁.heap := fun b u e => by
    rcases cs e with ⟨m, rfl⟩ | ⟨rfl, _, rfl⟩
    · exact hT b m
    · exact ⟨ha, by rw [List.length_map]; exact hl, vs, _, rv, ha⟩
  have hS : SqL K H a (ns.map V.int) := by
    cases hk : K.lookup a with
    | some o =>
      have e := KX a o hk
      rw [ha] at e
      cases e
      exact .inr ⟨_, vs.toArray, _, hk, rfl, rfl, rfl, by rw [List.size_toArray, hi.length]; exact hl, by simpa using rv⟩
    | none =>
      have e : H a = some (.frz { cls := .type "list", data := .seq vs.toArray } (.lst (ns.map V.int))) := by
        rw [← hH]
        unfold H0
        rw [if_neg aT, if_pos ⟨rfl, by rw [hk]; rfl⟩]
      exact .inl (.inr ⟨_, e⟩)
  have KB : K.In (hidT s₁.heap H) := fun b o e => inB (KX b o e) (by
    cases z : H b with
    | none => rfl
    | some u =>
      rcases cs z with ⟨m, _⟩ | ⟨rfl, n, _⟩
      · rw [nT b m] at e; cases e
      · rw [n] at e; cases e)
  have hM : L2.Mod K mg (hidT s₁.heap H) := ⟨KB, nsB T.g, ⟨mb, nsB T.b, T.builtins⟩, let ⟨mc, h1, h2⟩ := T.nolimit; ⟨mc, nsB h1, h2⟩⟩
  have sysB : ∃ o, (hidT s₁.heap H).get? sysModules = some o := by
    obtain ⟨mm, ⟨o, es, ep, e, d, _⟩, _⟩ := (T.seer hi0).mods
    exact ⟨o, inB e (oth e (by rw [d]; exact nofun) (by rw [d]; exact nofun))⟩
  have gB : ∀ b ∈ ts, mainGlobals ≠ b := fun b m z => by
    obtain ⟨o, es, ep, e, d, _⟩ := T.g
    rw [z, hT b m] at e
    cases e
    cases d
  have bB : ∀ b ∈ ts, (hidT s₁.heap H).BuiltinsAt mg b := fun b m => by
    obtain ⟨bm, ob, b1, b2, b3, b4, b5, b6⟩ := T.bmain
    refine ⟨bm, ob, b1, b2, fun z => ?_, fun z => ?_, inB b3 (oth b3 (by rw [b6]; exact nofun) (by rw [b6]; exact nofun)), b4, b5, b6⟩
    · obtain ⟨o, es, ep, e, d, _⟩ := T.g
      rw [z, e] at b3
      cases b3
      rw [d] at b6
      cases b6
    · rw [z, hT b m] at b3
      cases b3
      cases b6
  have e0 : Env0 P w K mg (hidT s₁.heap H) callerA [] s₁ H := ⟨rfl, hM, fun b o e => of_hidT e, Nat.le_of_eq (hidT_size _ _), trivial, fun b hb => absurd (show b ∈ ([] : List Addr) from hb) (by simp), hok, .of_eq hg⟩
  have G := F _ KB (nsB T.g) sysB fun b m => ⟨bB b m, gB b m⟩
  refine codeAny_mono (G.run callerA [] s₁ H ⟨[.ref a], []⟩ [.ref a] [.ref a] _ _ rfl hr e0 (hbind s₁ (.ref a)) (.cons rfl .nil) (hsp H tabs hS)) fun r s' z => ?_
  cases r with
  | error e => exact False.elim z
  | ok fl =>
    cases fl with
    | next => exact False.elim z
    | brk => exact False.elim z
    | cont => exact False.elim z
    | ret u =>
      obtain ⟨v, H', os, bare, un, hok', r', e'⟩ := z
      obtain rfl : v = .bl true := e'
      obtain rfl : u = Value.bool true := r'
      have stays : ∀ b o, b ∉ ts → s₁.heap.get? b = some o → s'.heap.get? b = some o := fun b o nb e => by
        cases z : H b with
        | none => exact un.keep b o e z (fun y => absurd (show b ∈ ([] : List Addr) from y) (by simp)) (by simp)
        | some u =>
          rcases cs z with ⟨m, _⟩ | ⟨rfl, _, rfl⟩
          · exact absurd m nb
          · rw [ha] at e
            cases e
            exact (hok' _ _ (un.frzs _ _ _ z)).1
      have grow : ∀ b ∈ ts, ∃ more : Array Value, s'.heap.get? b = some { cls := .none, data := .fields more } := fun b m => by
        obtain ⟨more, e⟩ := un.tbls b #[] (tabs b m)
        exact ⟨_, hok' b _ e⟩
      refine ⟨rfl, ⟨fun b o e => ?_, fun b o e => ?_⟩, os, bare⟩
      · by_cases m : b ∈ ts
        · obtain ⟨c, hc⟩ := hC b m
          obtain ⟨more, hm⟩ := grow b m
          rw [hT b m] at e
          cases e
          exact .inr (.inl ⟨((PySem.W.codeHd_of_K KX hc).tab (hT b m)).isCodeTable, rfl, #[], more, rfl, by rw [Array.empty_append]; exact hm⟩)
        · exact .inl (stays b o m e)
      · by_cases m : b ∈ ts
        · obtain ⟨more, hm⟩ := grow b m
          exact ⟨_, hm⟩
        · exact ⟨o, stays b o m e⟩
end CL
set_option Elab.async false
set_option pp.maxSteps 300
set_option linter.all false
set_option maxRecDepth 100000
set_option maxHeartbeats 4000000
namespace CL
open PySem PySem.Spec PyProof.Rows L2 GE
theorem fnE {P : Program} {w : World} {K : PySem.W.Frag} {mg : Str → Option Value} {base : Heap} {k : Nat} {f : Addr} {fd : FuncData} {ps : List Str} {sp : Bg → Sp} (F : ∀ r, FnOk P w K mg base CX0 k f fd ps (sp r)) : FnOk P w K mg base CX0 k f fd ps (spE sp) :=
  ⟨fun vs H Q E ⟨r, h⟩ => (F r).len vs H Q E h, fun A outer s H args us vs Q E hr e0 hb rv ⟨r, h⟩ => (F r).run A outer s H args us vs Q E hr e0 hb rv h⟩
/-- the table of a def of the program is empty when the law is called -/
theorem tab_of {q : Program} {loose : List Str} {mean : ExcName → Option Value} {mg mb : Str → Option Value} {h : Heap} {K : PySem.W.Frag} {n : Str} {f c P : Addr} {o : Obj} {fd : FuncData} (T : Top q loose mean mg mb h) (KX : K.In h) (hr : ((recsOf q).any fun e => e.name == n) = true)
    (hm : mg n = some (.ref f)) (k1 : K.lookup f = some o) (k2 : o.data = .func fd) (k3 : fd.code = .ref c) (hh : PySem.W.codeHdIn K c P = true) : h.get? P = some { cls := .none, data := .fields #[] } := by
  obtain ⟨d, hd, e⟩ := List.any_eq_true.mp hr
  have e' : d.name = n := beq_iff_eq.mp e
  obtain ⟨a', o', fd', c', P', t1, t2, t3, t4, t5, t6⟩ := T.tab d hd
  rw [e', hm] at t1
  cases t1
  rw [KX _ _ k1] at t2
  cases t2
  rw [k2] at t3
  cases t3
  rw [k3] at t4
  cases t4
  obtain ⟨⟨oc, vc, g1, _, g3, g4⟩, g5⟩ := t6
  obtain ⟨oh, uh, _, _, _, _, _, _, _, i1, _, i2, i3, _⟩ := PySem.W.codeHd_of_K KX hh
  rw [g1] at i1
  cases i1
  rw [g3] at i2
  cases i2
  rw [g4] at i3
  cases i3
  exact g5
/-- what the head must know of the law's def -/
def AtLaw (l : PySem.W.OpenLaw) (w : World) (K : PySem.W.Frag) (mg : Str → Option Value) (fa : Addr) (h : Heap) : Prop :=
  ∃ (fd : FuncData), (∀ b ∈ ([] : List Addr), h.get? b = some { cls := .none, data := .fields #[] }) ∧ (∀ b ∈ ([] : List Addr), ∃ c, PySem.W.codeHdIn K c b = true) ∧ (∀ b ∈ ([] : List Addr), K.lookup b = none) ∧ (∀ (s : Shared) (u : Value), BindsTo s fd ⟨[u], []⟩ [("script", u)]) ∧
    ∀ base : Heap, K.In base → base.Ns mainGlobals mg → (∃ o, base.get? sysModules = some o) → (∀ b ∈ ([] : List Addr), base.BuiltinsAt mg b ∧ mainGlobals ≠ b) → FnG l.prog w K mg base 10 fa fd ["script"] (spLaw K )
theorem walk {l : PySem.W.OpenLaw} {q : Program} {loose : List Str} {XP : (Str → Option Value) → Heap → Prop} {YP : World → Heap → Prop} {d : DefRec} {K : Params → PySem.W.Frag} (hn : l.most = some 63) (hdf : d.params.defaults = []) (hi0 : importsNone q = true)
    (hY : ∀ (w : World) (h : Heap), YP w h → (K w.params).In h)
    (F : ∀ (w : World) (mg mb : Str → Option Value) (mean : ExcName → Option Value) (lo : List Str) (fa : Addr) (h : Heap), (K w.params).In h → Top q lo mean mg mb h → mg d.name = some (.ref fa) → AtLaw l w (K w.params) mg fa h) :
    PySem.W.WalkO q loose XP YP l.row.toRowW d [] (fun f vs => PySem.call f vs) := by
  refine Att.attach_callB hn hdf fun w s₀ s₁ mg mb fa o pm cd doc a vs ns G Y ho hd hcd hmg hobj hints hlen _ hg => ?_
  obtain ⟨fd, h1, h2, h3, h4, h5⟩ := F w mg mb _ _ fa s₁.heap (hY w _ Y) G.T hmg
  exact end_own [] (hY w _ Y) G.T hi0 hg h1 h2 h3 hobj hints (Nat.le_trans hlen (by decide)) ⟨rfl, by decide, by decide⟩ h5 h4 fun H t hS => ⟨a, ns, rfl, hS, hlen, fun _ => rfl⟩
theorem all_mk {l : PySem.W.OpenLaw} {w : World} {K : PySem.W.Frag} {q : Program} {lo : List Str} {mean : ExcName → Option Value} {h : Heap} {mg mb : Str → Option Value} {fa fMI fMC fMS fMU fMT fMQ fML fMW fMH fMN fW fRW fP fLP fID fIC fIH fLO fBG fSR fDR fCA fPA fDN fDD fRI fCL fLH fBE fTO fPL fGO fUN fZ   cLN X0 X1 XE Y_NoPlan Y_NoPerson Y_NoMoment Y_TooMany Y_NoOther Y_NoPlace Y_NoEnd Y_NoOrder Y_NoNumber Y_NoPatience Y_Nobody Y_NoText Y_NoForm Y_NoneYet : Addr} (X : K.In h) (G : Top q lo mean mg mb h) (hfa : mg "law" = some (.ref fa))
    {odMI anMI : Option Addr} {slMI : Array (Option Value)} {ocMI kVMI dcMI pmMI cdMI ctMI : Value}
    {odMC anMC : Option Addr} {slMC : Array (Option Value)} {ocMC kVMC dcMC pmMC cdMC ctMC : Value}
    {odMS anMS : Option Addr} {slMS : Array (Option Value)} {ocMS kVMS dcMS pmMS cdMS ctMS : Value}
    {odMU anMU : Option Addr} {slMU : Array (Option Value)} {ocMU kVMU dcMU pmMU cdMU ctMU : Value}
    {odMT anMT : Option Addr} {slMT : Array (Option Value)} {ocMT kVMT dcMT pmMT cdMT ctMT : Value}
    {odMQ anMQ : Option Addr} {slMQ : Array (Option Value)} {ocMQ kVMQ dcMQ pmMQ cdMQ ctMQ : Value}
    {odML anML : Option Addr} {slML : Array (Option Value)} {ocML kVML dcML pmML cdML ctML : Value}
    {odMW anMW : Option Addr} {slMW : Array (Option Value)} {ocMW kVMW dcMW pmMW cdMW ctMW : Value}
    {odMH anMH : Option Addr} {slMH : Array (Option Value)} {ocMH kVMH dcMH pmMH cdMH ctMH : Value}
    {odMN anMN : Option Addr} {slMN : Array (Option Value)} {ocMN kVMN dcMN pmMN cdMN ctMN : Value}
    {odW anW : Option Addr} {slW : Array (Option Value)} {ocW kVW dcW pmW cdW ctW : Value}
    {odRW anRW : Option Addr} {slRW : Array (Option Value)} {ocRW kVRW dcRW pmRW cdRW ctRW : Value}
    {odP anP : Option Addr} {slP : Array (Option Value)} {ocP kVP dcP pmP cdP ctP : Value}
    {odLP anLP : Option Addr} {slLP : Array (Option Value)} {ocLP kVLP dcLP pmLP cdLP ctLP : Value}
    {odID anID : Option Addr} {slID : Array (Option Value)} {ocID kVID dcID pmID cdID ctID : Value}
    {odIC anIC : Option Addr} {slIC : Array (Option Value)} {ocIC kVIC dcIC pmIC cdIC ctIC : Value}
    {odIH anIH : Option Addr} {slIH : Array (Option Value)} {ocIH kVIH dcIH pmIH cdIH ctIH : Value}
    {odLO anLO : Option Addr} {slLO : Array (Option Value)} {ocLO kVLO dcLO pmLO cdLO ctLO : Value}
    {odBG anBG : Option Addr} {slBG : Array (Option Value)} {ocBG kVBG dcBG pmBG cdBG ctBG : Value}
    {odSR anSR : Option Addr} {slSR : Array (Option Value)} {ocSR kVSR dcSR pmSR cdSR ctSR : Value}
    {odDR anDR : Option Addr} {slDR : Array (Option Value)} {ocDR kVDR dcDR pmDR cdDR ctDR : Value}
    {odCA anCA : Option Addr} {slCA : Array (Option Value)} {ocCA kVCA dcCA pmCA cdCA ctCA : Value}
    {odPA anPA : Option Addr} {slPA : Array (Option Value)} {ocPA kVPA dcPA pmPA cdPA ctPA : Value}
    {odDN anDN : Option Addr} {slDN : Array (Option Value)} {ocDN kVDN dcDN pmDN cdDN ctDN : Value}
    {odDD anDD : Option Addr} {slDD : Array (Option Value)} {ocDD kVDD dcDD pmDD cdDD ctDD : Value}
    {odRI anRI : Option Addr} {slRI : Array (Option Value)} {ocRI kVRI dcRI pmRI cdRI ctRI : Value}
    {odCL anCL : Option Addr} {slCL : Array (Option Value)} {ocCL kVCL dcCL pmCL cdCL ctCL : Value}
    {odLH anLH : Option Addr} {slLH : Array (Option Value)} {ocLH kVLH dcLH pmLH cdLH ctLH : Value}
    {odBE anBE : Option Addr} {slBE : Array (Option Value)} {ocBE kVBE dcBE pmBE cdBE ctBE : Value}
    {odTO anTO : Option Addr} {slTO : Array (Option Value)} {ocTO kVTO dcTO pmTO cdTO ctTO : Value}
    {odPL anPL : Option Addr} {slPL : Array (Option Value)} {ocPL kVPL dcPL pmPL cdPL ctPL : Value}
    {odGO anGO : Option Addr} {slGO : Array (Option Value)} {ocGO kVGO dcGO pmGO cdGO ctGO : Value}
    {odUN anUN : Option Addr} {slUN : Array (Option Value)} {ocUN kVUN dcUN pmUN cdUN ctUN : Value}
    {odZ anZ : Option Addr} {slZ : Array (Option Value)} {ocZ kVZ dcZ pmZ cdZ ctZ : Value} {tgM : Tok}
    (aMI : PySem.W.findIn K (.ref cLN) "__init__" = some (some (.ref fMI))) (lMI : K.lookup fMI = some ⟨ocMI, odMI, .func (PySem.W.fnOf "__init__" "Line.__init__" (defArgs sInit) (defBody sInit) (defScope sInit) .none kVMI dcMI pmMI anMI cdMI ctMI), slMI⟩) (MIc : PySem.W.codeIn K cdMI "Line.__init__" = true) (kMI : PySem.W.keepIn K (.ref fMI) = true) (iMI : PySem.W.isFn K (.ref fMI) = true)
    (aMC : PySem.W.findIn K (.ref cLN) "come" = some (some (.ref fMC))) (lMC : K.lookup fMC = some ⟨ocMC, odMC, .func (PySem.W.fnOf "come" "Line.come" (defArgs sComeM) (defBody sComeM) (defScope sComeM) .none kVMC dcMC pmMC anMC cdMC ctMC), slMC⟩) (MCc : PySem.W.codeIn K cdMC "Line.come" = true) (kMC : PySem.W.keepIn K (.ref fMC) = true) (iMC : PySem.W.isFn K (.ref fMC) = true)
    (aMS : PySem.W.findIn K (.ref cLN) "serve" = some (some (.ref fMS))) (lMS : K.lookup fMS = some ⟨ocMS, odMS, .func (PySem.W.fnOf "serve" "Line.serve" (defArgs sServeM) (defBody sServeM) (defScope sServeM) .none kVMS dcMS pmMS anMS cdMS ctMS), slMS⟩) (MSc : PySem.W.codeIn K cdMS "Line.serve" = true) (kMS : PySem.W.keepIn K (.ref fMS) = true) (iMS : PySem.W.isFn K (.ref fMS) = true)
    (aMU : PySem.W.findIn K (.ref cLN) "undo" = some (some (.ref fMU))) (lMU : K.lookup fMU = some ⟨ocMU, odMU, .func (PySem.W.fnOf "undo" "Line.undo" (defArgs sUndoM) (defBody sUndoM) (defScope sUndoM) .none kVMU dcMU pmMU anMU cdMU ctMU), slMU⟩) (MUc : PySem.W.codeIn K cdMU "Line.undo" = true) (kMU : PySem.W.keepIn K (.ref fMU) = true) (iMU : PySem.W.isFn K (.ref fMU) = true)
    (aMT : PySem.W.findIn K (.ref cLN) "take_newcomer" = some (some (.ref fMT))) (lMT : K.lookup fMT = some ⟨ocMT, odMT, .func (PySem.W.fnOf "take_newcomer" "Line.take_newcomer" (defArgs sTakeM) (defBody sTakeM) (defScope sTakeM) .none kVMT dcMT pmMT anMT cdMT ctMT), slMT⟩) (MTc : PySem.W.codeIn K cdMT "Line.take_newcomer" = true) (kMT : PySem.W.keepIn K (.ref fMT) = true) (iMT : PySem.W.isFn K (.ref fMT) = true)
    (aMQ : PySem.W.findIn K (.ref cLN) "queue" = some (some (.ref fMQ))) (lMQ : K.lookup fMQ = some ⟨ocMQ, odMQ, .func (PySem.W.fnOf "queue" "Line.queue" (defArgs sQueM) (defBody sQueM) (defScope sQueM) .none kVMQ dcMQ pmMQ anMQ cdMQ ctMQ), slMQ⟩) (MQc : PySem.W.codeIn K cdMQ "Line.queue" = true) (kMQ : PySem.W.keepIn K (.ref fMQ) = true) (iMQ : PySem.W.isFn K (.ref fMQ) = true)
    (aML : PySem.W.findIn K (.ref cLN) "left" = some (some (.ref fML))) (lML : K.lookup fML = some ⟨ocML, odML, .func (PySem.W.fnOf "left" "Line.left" (defArgs sLeftM) (defBody sLeftM) (defScope sLeftM) .none kVML dcML pmML anML cdML ctML), slML⟩) (MLc : PySem.W.codeIn K cdML "Line.left" = true) (kML : PySem.W.keepIn K (.ref fML) = true) (iML : PySem.W.isFn K (.ref fML) = true)
    (aMW : PySem.W.findIn K (.ref cLN) "went_past" = some (some (.ref fMW))) (lMW : K.lookup fMW = some ⟨ocMW, odMW, .func (PySem.W.fnOf "went_past" "Line.went_past" (defArgs sWentM) (defBody sWentM) (defScope sWentM) .none kVMW dcMW pmMW anMW cdMW ctMW), slMW⟩) (MWc : PySem.W.codeIn K cdMW "Line.went_past" = true) (kMW : PySem.W.keepIn K (.ref fMW) = true) (iMW : PySem.W.isFn K (.ref fMW) = true)
    (aMH : PySem.W.findIn K (.ref cLN) "history" = some (some (.ref fMH))) (lMH : K.lookup fMH = some ⟨ocMH, odMH, .func (PySem.W.fnOf "history" "Line.history" (defArgs sHistM) (defBody sHistM) (defScope sHistM) .none kVMH dcMH pmMH anMH cdMH ctMH), slMH⟩) (MHc : PySem.W.codeIn K cdMH "Line.history" = true) (kMH : PySem.W.keepIn K (.ref fMH) = true) (iMH : PySem.W.isFn K (.ref fMH) = true)
    (aMN : PySem.W.findIn K (.ref cLN) "__len__" = some (some (.ref fMN))) (lMN : K.lookup fMN = some ⟨ocMN, odMN, .func (PySem.W.fnOf "__len__" "Line.__len__" (defArgs sLenM) (defBody sLenM) (defScope sLenM) .none kVMN dcMN pmMN anMN cdMN ctMN), slMN⟩) (MNc : PySem.W.codeIn K cdMN "Line.__len__" = true) (kMN : PySem.W.keepIn K (.ref fMN) = true) (iMN : PySem.W.isFn K (.ref fMN) = true)
    (aW : PySem.W.nsIn K mainGlobals "is_whole" = some (some (.ref fW))) (lW : K.lookup fW = some ⟨ocW, odW, .func (PySem.W.fnOf "is_whole" "is_whole" (defArgs sWhole) (defBody sWhole) (defScope sWhole) .none kVW dcW pmW anW cdW ctW), slW⟩) (Wc : PySem.W.codeIn K cdW "is_whole" = true) (kW : PySem.W.keepIn K (.ref fW) = true)
    (aRW : PySem.W.nsIn K mainGlobals "is_row" = some (some (.ref fRW))) (lRW : K.lookup fRW = some ⟨ocRW, odRW, .func (PySem.W.fnOf "is_row" "is_row" (defArgs sRow) (defBody sRow) (defScope sRow) .none kVRW dcRW pmRW anRW cdRW ctRW), slRW⟩) (RWc : PySem.W.codeIn K cdRW "is_row" = true) (kRW : PySem.W.keepIn K (.ref fRW) = true)
    (aP : PySem.W.nsIn K mainGlobals "is_patience" = some (some (.ref fP))) (lP : K.lookup fP = some ⟨ocP, odP, .func (PySem.W.fnOf "is_patience" "is_patience" (defArgs sPat) (defBody sPat) (defScope sPat) .none kVP dcP pmP anP cdP ctP), slP⟩) (Pc : PySem.W.codeIn K cdP "is_patience" = true) (kP : PySem.W.keepIn K (.ref fP) = true)
    (aLP : PySem.W.nsIn K mainGlobals "let_past" = some (some (.ref fLP))) (lLP : K.lookup fLP = some ⟨ocLP, odLP, .func (PySem.W.fnOf "let_past" "let_past" (defArgs sLet) (defBody sLet) (defScope sLet) .none kVLP dcLP pmLP anLP cdLP ctLP), slLP⟩) (LPc : PySem.W.codeIn K cdLP "let_past" = true) (kLP : PySem.W.keepIn K (.ref fLP) = true)
    (aID : PySem.W.nsIn K mainGlobals "is_deed" = some (some (.ref fID))) (lID : K.lookup fID = some ⟨ocID, odID, .func (PySem.W.fnOf "is_deed" "is_deed" (defArgs sIsDeed) (defBody sIsDeed) (defScope sIsDeed) .none kVID dcID pmID anID cdID ctID), slID⟩) (IDc : PySem.W.codeIn K cdID "is_deed" = true) (kID : PySem.W.keepIn K (.ref fID) = true)
    (aIC : PySem.W.nsIn K mainGlobals "is_coming" = some (some (.ref fIC))) (lIC : K.lookup fIC = some ⟨ocIC, odIC, .func (PySem.W.fnOf "is_coming" "is_coming" (defArgs sIsCom) (defBody sIsCom) (defScope sIsCom) .none kVIC dcIC pmIC anIC cdIC ctIC), slIC⟩) (ICc : PySem.W.codeIn K cdIC "is_coming" = true) (kIC : PySem.W.keepIn K (.ref fIC) = true)
    (aIH : PySem.W.nsIn K mainGlobals "is_history" = some (some (.ref fIH))) (lIH : K.lookup fIH = some ⟨ocIH, odIH, .func (PySem.W.fnOf "is_history" "is_history" (defArgs sIsHist) (defBody sIsHist) (defScope sIsHist) .none kVIH dcIH pmIH anIH cdIH ctIH), slIH⟩) (IHc : PySem.W.codeIn K cdIH "is_history" = true) (kIH : PySem.W.keepIn K (.ref fIH) = true)
    (aLO : PySem.W.nsIn K mainGlobals "line_of" = some (some (.ref fLO))) (lLO : K.lookup fLO = some ⟨ocLO, odLO, .func (PySem.W.fnOf "line_of" "line_of" (defArgs sLineOf) (defBody sLineOf) (defScope sLineOf) .none kVLO dcLO pmLO anLO cdLO ctLO), slLO⟩) (LOc : PySem.W.codeIn K cdLO "line_of" = true) (kLO : PySem.W.keepIn K (.ref fLO) = true)
    (aBG : PySem.W.nsIn K mainGlobals "_law_bag" = some (some (.ref fBG))) (lBG : K.lookup fBG = some ⟨ocBG, odBG, .func (PySem.W.fnOf "_law_bag" "_law_bag" (defArgs sBag) (defBody sBag) (defScope sBag) .none kVBG dcBG pmBG anBG cdBG ctBG), slBG⟩) (BGc : PySem.W.codeIn K cdBG "_law_bag" = true) (kBG : PySem.W.keepIn K (.ref fBG) = true)
    (aSR : PySem.W.nsIn K mainGlobals "_law_stir" = some (some (.ref fSR))) (lSR : K.lookup fSR = some ⟨ocSR, odSR, .func (PySem.W.fnOf "_law_stir" "_law_stir" (defArgs sStir) (defBody sStir) (defScope sStir) .none kVSR dcSR pmSR anSR cdSR ctSR), slSR⟩) (SRc : PySem.W.codeIn K cdSR "_law_stir" = true) (kSR : PySem.W.keepIn K (.ref fSR) = true)
    (aDR : PySem.W.nsIn K mainGlobals "_law_draw" = some (some (.ref fDR))) (lDR : K.lookup fDR = some ⟨ocDR, odDR, .func (PySem.W.fnOf "_law_draw" "_law_draw" (defArgs sDraw) (defBody sDraw) (defScope sDraw) .none kVDR dcDR pmDR anDR cdDR ctDR), slDR⟩) (DRc : PySem.W.codeIn K cdDR "_law_draw" = true) (kDR : PySem.W.keepIn K (.ref fDR) = true)
    (aCA : PySem.W.nsIn K mainGlobals "_law_came" = some (some (.ref fCA))) (lCA : K.lookup fCA = some ⟨ocCA, odCA, .func (PySem.W.fnOf "_law_came" "_law_came" (defArgs sCame) (defBody sCame) (defScope sCame) .none kVCA dcCA pmCA anCA cdCA ctCA), slCA⟩) (CAc : PySem.W.codeIn K cdCA "_law_came" = true) (kCA : PySem.W.keepIn K (.ref fCA) = true)
    (aPA : PySem.W.nsIn K mainGlobals "_law_patience" = some (some (.ref fPA))) (lPA : K.lookup fPA = some ⟨ocPA, odPA, .func (PySem.W.fnOf "_law_patience" "_law_patience" (defArgs sPatL) (defBody sPatL) (defScope sPatL) .none kVPA dcPA pmPA anPA cdPA ctPA), slPA⟩) (PAc : PySem.W.codeIn K cdPA "_law_patience" = true) (kPA : PySem.W.keepIn K (.ref fPA) = true)
    (aDN : PySem.W.nsIn K mainGlobals "_law_done" = some (some (.ref fDN))) (lDN : K.lookup fDN = some ⟨ocDN, odDN, .func (PySem.W.fnOf "_law_done" "_law_done" (defArgs sDone) (defBody sDone) (defScope sDone) .none kVDN dcDN pmDN anDN cdDN ctDN), slDN⟩) (DNc : PySem.W.codeIn K cdDN "_law_done" = true) (kDN : PySem.W.keepIn K (.ref fDN) = true)
    (aDD : PySem.W.nsIn K mainGlobals "_law_deed" = some (some (.ref fDD))) (lDD : K.lookup fDD = some ⟨ocDD, odDD, .func (PySem.W.fnOf "_law_deed" "_law_deed" (defArgs sDeed) (defBody sDeed) (defScope sDeed) .none kVDD dcDD pmDD anDD cdDD ctDD), slDD⟩) (DDc : PySem.W.codeIn K cdDD "_law_deed" = true) (kDD : PySem.W.keepIn K (.ref fDD) = true)
    (aRI : PySem.W.nsIn K mainGlobals "_law_right" = some (some (.ref fRI))) (lRI : K.lookup fRI = some ⟨ocRI, odRI, .func (PySem.W.fnOf "_law_right" "_law_right" (defArgs sLRight) (defBody sLRight) (defScope sLRight) .none kVRI dcRI pmRI anRI cdRI ctRI), slRI⟩) (RIc : PySem.W.codeIn K cdRI "_law_right" = true) (kRI : PySem.W.keepIn K (.ref fRI) = true)
    (aCL : PySem.W.nsIn K mainGlobals "_law_class" = some (some (.ref fCL))) (lCL : K.lookup fCL = some ⟨ocCL, odCL, .func (PySem.W.fnOf "_law_class" "_law_class" (defArgs sClass) (defBody sClass) (defScope sClass) .none kVCL dcCL pmCL anCL cdCL ctCL), slCL⟩) (CLc : PySem.W.codeIn K cdCL "_law_class" = true) (kCL : PySem.W.keepIn K (.ref fCL) = true)
    (aLH : PySem.W.nsIn K mainGlobals "_law_is_history" = some (some (.ref fLH))) (lLH : K.lookup fLH = some ⟨ocLH, odLH, .func (PySem.W.fnOf "_law_is_history" "_law_is_history" (defArgs sLHist) (defBody sLHist) (defScope sLHist) .none kVLH dcLH pmLH anLH cdLH ctLH), slLH⟩) (LHc : PySem.W.codeIn K cdLH "_law_is_history" = true) (kLH : PySem.W.keepIn K (.ref fLH) = true)
    (aBE : PySem.W.nsIn K mainGlobals "_law_bent" = some (some (.ref fBE))) (lBE : K.lookup fBE = some ⟨ocBE, odBE, .func (PySem.W.fnOf "_law_bent" "_law_bent" (defArgs sBent) (defBody sBent) (defScope sBent) .none kVBE dcBE pmBE anBE cdBE ctBE), slBE⟩) (BEc : PySem.W.codeIn K cdBE "_law_bent" = true) (kBE : PySem.W.keepIn K (.ref fBE) = true)
    (aTO : PySem.W.nsIn K mainGlobals "_law_told" = some (some (.ref fTO))) (lTO : K.lookup fTO = some ⟨ocTO, odTO, .func (PySem.W.fnOf "_law_told" "_law_told" (defArgs sTold) (defBody sTold) (defScope sTold) .none kVTO dcTO pmTO anTO cdTO ctTO), slTO⟩) (TOc : PySem.W.codeIn K cdTO "_law_told" = true) (kTO : PySem.W.keepIn K (.ref fTO) = true)
    (aPL : PySem.W.nsIn K mainGlobals "_law_plain" = some (some (.ref fPL))) (lPL : K.lookup fPL = some ⟨ocPL, odPL, .func (PySem.W.fnOf "_law_plain" "_law_plain" (defArgs sPlain) (defBody sPlain) (defScope sPlain) .none kVPL dcPL pmPL anPL cdPL ctPL), slPL⟩) (PLc : PySem.W.codeIn K cdPL "_law_plain" = true) (kPL : PySem.W.keepIn K (.ref fPL) = true)
    (aGO : PySem.W.nsIn K mainGlobals "_law_goes_on" = some (some (.ref fGO))) (lGO : K.lookup fGO = some ⟨ocGO, odGO, .func (PySem.W.fnOf "_law_goes_on" "_law_goes_on" (defArgs sGoes) (defBody sGoes) (defScope sGoes) .none kVGO dcGO pmGO anGO cdGO ctGO), slGO⟩) (GOc : PySem.W.codeIn K cdGO "_law_goes_on" = true) (kGO : PySem.W.keepIn K (.ref fGO) = true)
    (aUN : PySem.W.nsIn K mainGlobals "_law_undone" = some (some (.ref fUN))) (lUN : K.lookup fUN = some ⟨ocUN, odUN, .func (PySem.W.fnOf "_law_undone" "_law_undone" (defArgs sUndone) (defBody sUndone) (defScope sUndone) .none kVUN dcUN pmUN anUN cdUN ctUN), slUN⟩) (UNc : PySem.W.codeIn K cdUN "_law_undone" = true) (kUN : PySem.W.keepIn K (.ref fUN) = true)
    (aZ : PySem.W.nsIn K mainGlobals "law" = some (some (.ref fZ))) (lZ : K.lookup fZ = some ⟨ocZ, odZ, .func (PySem.W.fnOf "law" "law" (defArgs sLaw) (defBody sLaw) (defScope sLaw) .none kVZ dcZ pmZ anZ cdZ ctZ), slZ⟩) (Zc : PySem.W.codeIn K cdZ "law" = true) (kZ : PySem.W.keepIn K (.ref fZ) = true)
    (z_isinstance : PySem.W.nsIn K mainGlobals "isinstance" = some none) (z_len : PySem.W.nsIn K mainGlobals "len" = some none) (z_int : PySem.W.nsIn K mainGlobals "int" = some none) (z_bool : PySem.W.nsIn K mainGlobals "bool" = some none) (z_list : PySem.W.nsIn K mainGlobals "list" = some none) (z_range : PySem.W.nsIn K mainGlobals "range" = some none) (z_min : PySem.W.nsIn K mainGlobals "min" = some none) (z_repr : PySem.W.nsIn K mainGlobals "repr" = some none) (z_sum : PySem.W.nsIn K mainGlobals "sum" = some none) (z_ValueError : PySem.W.nsIn K mainGlobals "ValueError" = some none) (z_tuple : PySem.W.nsIn K mainGlobals "tuple" = some none) (z_str : PySem.W.nsIn K mainGlobals "str" = some none)
    
    (aCLS : PySem.W.nsIn K mainGlobals "Line" = some (some (.ref cLN))) (pgC : PySem.W.plainGet K cLN Str.empty = true) (hdC : PySem.W.hasDictIn K cLN = true) (poC : PySem.W.plainOver K cLN = true) (saC : PySem.W.findIn K (.ref cLN) "__setattr__" = some (some (.builtin "object.__setattr__"))) (mkC : PySem.W.makesIn K cLN = true) (kcC : PySem.W.keepIn K (.ref cLN) = true)
    (nF0 : PySem.W.findIn K (.ref cLN) "people" = some none) (nF1 : PySem.W.findIn K (.ref cLN) "rest" = some none) (nF2 : PySem.W.findIn K (.ref cLN) "past" = some none) (nF3 : PySem.W.findIn K (.ref cLN) "served" = some none) (nF4 : PySem.W.findIn K (.ref cLN) "deeds" = some none)
    (xg0 : PySem.W.nsIn K mainGlobals "NoHistory" = some (some (.ref X0)))
    (xx0 : PySem.W.excIn K X0 [.type "ValueError", .type "Exception", .type "BaseException", .type "object"] "ValueError.__new__" = true)
    (xk0 : PySem.W.keepIn K (.ref X0) = true)
    (xb0 : PySem.W.subIn K (.ref X0) (.type "BaseException") = some true)
    (xt0 : PySem.W.typeIn K (.ref X0) = some (.type "type"))
    (ea0 : PySem.W.findIn K (.ref X0) "__getattribute__" = some (some (.builtin "BaseException.__getattribute__")))
    (eb0 : PySem.W.findIn K (.ref X0) "__getattr__" = some none)
    (ed0 : PySem.W.hasDictIn K X0 = true)
    (ec0 : PySem.W.findIn K (.ref X0) "__class__" = some (some (.builtin "object.__class__")))
    (em0 : PySem.W.mroIn K X0 (.type "object") = some true)
    (t0_0 : PySem.W.kitOne K (.ref X0) (.ref X0) = some true)
    (t1_0 : PySem.W.kitOne K (.ref X0) (.ref X1) = some false)
    (u0_0 : PySem.W.kitAny K (.ref X0) [.ref Y_NoPlan, .ref Y_NoPerson, .ref Y_NoMoment, .ref Y_TooMany, .ref Y_NoOther, .ref Y_NoPlace] = some false)
    (u1_0 : PySem.W.kitAny K (.ref X0) [.ref Y_NoEnd, .ref Y_NoOrder, .ref Y_NoNumber, .ref Y_NoPatience, .ref Y_Nobody, .ref Y_NoText] = some false)
    (u2_0 : PySem.W.kitAny K (.ref X0) [.ref Y_NoForm, .ref Y_NoneYet] = some false)
    (v70 : PySem.W.kitOne K (.ref X0) (.type "ValueError") = some true)
    (v80 : PySem.W.exmOne K (.ref X0) (.ref XE) = some true)
    (xg1 : PySem.W.nsIn K mainGlobals "Nothing" = some (some (.ref X1)))
    (xx1 : PySem.W.excIn K X1 [.type "ValueError", .type "Exception", .type "BaseException", .type "object"] "ValueError.__new__" = true)
    (xk1 : PySem.W.keepIn K (.ref X1) = true)
    (xb1 : PySem.W.subIn K (.ref X1) (.type "BaseException") = some true)
    (xt1 : PySem.W.typeIn K (.ref X1) = some (.type "type"))
    (ea1 : PySem.W.findIn K (.ref X1) "__getattribute__" = some (some (.builtin "BaseException.__getattribute__")))
    (eb1 : PySem.W.findIn K (.ref X1) "__getattr__" = some none)
    (ed1 : PySem.W.hasDictIn K X1 = true)
    (ec1 : PySem.W.findIn K (.ref X1) "__class__" = some (some (.builtin "object.__class__")))
    (em1 : PySem.W.mroIn K X1 (.type "object") = some true)
    (t0_1 : PySem.W.kitOne K (.ref X1) (.ref X0) = some false)
    (t1_1 : PySem.W.kitOne K (.ref X1) (.ref X1) = some true)
    (u0_1 : PySem.W.kitAny K (.ref X1) [.ref Y_NoPlan, .ref Y_NoPerson, .ref Y_NoMoment, .ref Y_TooMany, .ref Y_NoOther, .ref Y_NoPlace] = some false)
    (u1_1 : PySem.W.kitAny K (.ref X1) [.ref Y_NoEnd, .ref Y_NoOrder, .ref Y_NoNumber, .ref Y_NoPatience, .ref Y_Nobody, .ref Y_NoText] = some false)
    (u2_1 : PySem.W.kitAny K (.ref X1) [.ref Y_NoForm, .ref Y_NoneYet] = some false)
    (v71 : PySem.W.kitOne K (.ref X1) (.type "ValueError") = some true)
    (v81 : PySem.W.exmOne K (.ref X1) (.ref XE) = some true)
    (ogNoPlan : PySem.W.nsIn K mainGlobals "NoPlan" = some (some (.ref Y_NoPlan)))
    (ogNoPerson : PySem.W.nsIn K mainGlobals "NoPerson" = some (some (.ref Y_NoPerson)))
    (ogNoMoment : PySem.W.nsIn K mainGlobals "NoMoment" = some (some (.ref Y_NoMoment)))
    (ogTooMany : PySem.W.nsIn K mainGlobals "TooMany" = some (some (.ref Y_TooMany)))
    (ogNoOther : PySem.W.nsIn K mainGlobals "NoOther" = some (some (.ref Y_NoOther)))
    (ogNoPlace : PySem.W.nsIn K mainGlobals "NoPlace" = some (some (.ref Y_NoPlace)))
    (ogNoEnd : PySem.W.nsIn K mainGlobals "NoEnd" = some (some (.ref Y_NoEnd)))
    (ogNoOrder : PySem.W.nsIn K mainGlobals "NoOrder" = some (some (.ref Y_NoOrder)))
    (ogNoNumber : PySem.W.nsIn K mainGlobals "NoNumber" = some (some (.ref Y_NoNumber)))
    (ogNoPatience : PySem.W.nsIn K mainGlobals "NoPatience" = some (some (.ref Y_NoPatience)))
    (ogNobody : PySem.W.nsIn K mainGlobals "Nobody" = some (some (.ref Y_Nobody)))
    (ogNoText : PySem.W.nsIn K mainGlobals "NoText" = some (some (.ref Y_NoText)))
    (ogNoForm : PySem.W.nsIn K mainGlobals "NoForm" = some (some (.ref Y_NoForm)))
    (ogNoneYet : PySem.W.nsIn K mainGlobals "NoneYet" = some (some (.ref Y_NoneYet)))
    (gE : PySem.W.nsIn K mainGlobals "LineError" = some (some (.ref XE)))
    (hn : PySem.W.specialIn K (.builtin "object.__class__") "__get__" = some (some (.builtin "getset_descriptor.__get__"))) (ht : PySem.W.takesIn K (.builtin "object.__class__") = some true)
    (iC1 : PySem.W.findIn K (.ref cLN) "__class__" = some (some (.builtin "object.__class__"))) (iC2 : PySem.W.mroIn K cLN (.type "object") = some true) (iC3 : PySem.W.kitOne K (.ref cLN) (.type "str") = some false)
    
    (gM : PySem.W.nsIn K mainGlobals "GREATEST" = some (some (.int 1000000000000000000000000000000 tgM))) : AtLaw l w K mg fa h := by
  have e := hfa.symm.trans (PySem.W.mg_of X G.g aZ)
  cases e
  have FMI := fun_mk (st := sInit) lMI MIc kMI
  have FMC := fun_mk (st := sComeM) lMC MCc kMC
  have FMS := fun_mk (st := sServeM) lMS MSc kMS
  have FMU := fun_mk (st := sUndoM) lMU MUc kMU
  have FMT := fun_mk (st := sTakeM) lMT MTc kMT
  have FMQ := fun_mk (st := sQueM) lMQ MQc kMQ
  have FML := fun_mk (st := sLeftM) lML MLc kML
  have FMW := fun_mk (st := sWentM) lMW MWc kMW
  have FMH := fun_mk (st := sHistM) lMH MHc kMH
  have FMN := fun_mk (st := sLenM) lMN MNc kMN
  have FW := fun_mk (st := sWhole) lW Wc kW
  have FRW := fun_mk (st := sRow) lRW RWc kRW
  have FP := fun_mk (st := sPat) lP Pc kP
  have FLP := fun_mk (st := sLet) lLP LPc kLP
  have FID := fun_mk (st := sIsDeed) lID IDc kID
  have FIC := fun_mk (st := sIsCom) lIC ICc kIC
  have FIH := fun_mk (st := sIsHist) lIH IHc kIH
  have FLO := fun_mk (st := sLineOf) lLO LOc kLO
  have FBG := fun_mk (st := sBag) lBG BGc kBG
  have FSR := fun_mk (st := sStir) lSR SRc kSR
  have FDR := fun_mk (st := sDraw) lDR DRc kDR
  have FCA := fun_mk (st := sCame) lCA CAc kCA
  have FPA := fun_mk (st := sPatL) lPA PAc kPA
  have FDN := fun_mk (st := sDone) lDN DNc kDN
  have FDD := fun_mk (st := sDeed) lDD DDc kDD
  have FRI := fun_mk (st := sLRight) lRI RIc kRI
  have FCL := fun_mk (st := sClass) lCL CLc kCL
  have FLH := fun_mk (st := sLHist) lLH LHc kLH
  have FBE := fun_mk (st := sBent) lBE BEc kBE
  have FTO := fun_mk (st := sTold) lTO TOc kTO
  have FPL := fun_mk (st := sPlain) lPL PLc kPL
  have FGO := fun_mk (st := sGoes) lGO GOc kGO
  have FUN := fun_mk (st := sUndone) lUN UNc kUN
  have FZ := fun_mk (st := sLaw) lZ Zc kZ
  have bMI := FMI.binds (ps := ["self"]) fun _ _ _ _ _ _ us hl => match us, hl with | [_], _ => rfl
  have bMC := FMC.binds (ps := ["self", "patience"]) fun _ _ _ _ _ _ us hl => match us, hl with | [_, _], _ => rfl
  have bMS := FMS.binds (ps := ["self"]) fun _ _ _ _ _ _ us hl => match us, hl with | [_], _ => rfl
  have bMU := FMU.binds (ps := ["self"]) fun _ _ _ _ _ _ us hl => match us, hl with | [_], _ => rfl
  have bMT := FMT.binds (ps := ["self"]) fun _ _ _ _ _ _ us hl => match us, hl with | [_], _ => rfl
  have bMQ := FMQ.binds (ps := ["self"]) fun _ _ _ _ _ _ us hl => match us, hl with | [_], _ => rfl
  have bML := FML.binds (ps := ["self"]) fun _ _ _ _ _ _ us hl => match us, hl with | [_], _ => rfl
  have bMW := FMW.binds (ps := ["self", "person"]) fun _ _ _ _ _ _ us hl => match us, hl with | [_, _], _ => rfl
  have bMH := FMH.binds (ps := ["self"]) fun _ _ _ _ _ _ us hl => match us, hl with | [_], _ => rfl
  have bMN := FMN.binds (ps := ["self"]) fun _ _ _ _ _ _ us hl => match us, hl with | [_], _ => rfl
  have bW := FW.binds (ps := ["thing"]) fun _ _ _ _ _ _ us hl => match us, hl with | [_], _ => rfl
  have bRW := FRW.binds (ps := ["thing"]) fun _ _ _ _ _ _ us hl => match us, hl with | [_], _ => rfl
  have bP := FP.binds (ps := ["thing"]) fun _ _ _ _ _ _ us hl => match us, hl with | [_], _ => rfl
  have bLP := FLP.binds (ps := ["left"]) fun _ _ _ _ _ _ us hl => match us, hl with | [_], _ => rfl
  have bID := FID.binds (ps := ["thing", "word", "many"]) fun _ _ _ _ _ _ us hl => match us, hl with | [_, _, _], _ => rfl
  have bIC := FIC.binds (ps := ["thing"]) fun _ _ _ _ _ _ us hl => match us, hl with | [_], _ => rfl
  have bIH := FIH.binds (ps := ["thing"]) fun _ _ _ _ _ _ us hl => match us, hl with | [_], _ => rfl
  have bLO := FLO.binds (ps := ["history"]) fun _ _ _ _ _ _ us hl => match us, hl with | [_], _ => rfl
  have bBG := FBG.binds (ps := ["script"]) fun _ _ _ _ _ _ us hl => match us, hl with | [_], _ => rfl
  have bSR := FSR.binds (ps := ["number", "place"]) fun _ _ _ _ _ _ us hl => match us, hl with | [_, _], _ => rfl
  have bDR := FDR.binds (ps := ["bag", "many"]) fun _ _ _ _ _ _ us hl => match us, hl with | [_, _], _ => rfl
  have bCA := FCA.binds (ps := ["stand", "rest", "number", "patience"]) fun _ _ _ _ _ _ us hl => match us, hl with | [_, _, _, _], _ => rfl
  have bPA := FPA.binds (ps := ["bag", "most"]) fun _ _ _ _ _ _ us hl => match us, hl with | [_, _], _ => rfl
  have bDN := FDN.binds (ps := ["deeds"]) fun _ _ _ _ _ _ us hl => match us, hl with | [_], _ => rfl
  have bDD := FDD.binds (ps := ["bag", "deeds", "most"]) fun _ _ _ _ _ _ us hl => match us, hl with | [_, _, _], _ => rfl
  have bRI := FRI.binds (ps := ["line", "deeds"]) fun _ _ _ _ _ _ us hl => match us, hl with | [_, _], _ => rfl
  have bCL := FCL.binds (ps := ["caught"]) fun _ _ _ _ _ _ us hl => match us, hl with | [_], _ => rfl
  have bLH := FLH.binds (ps := ["thing"]) fun _ _ _ _ _ _ us hl => match us, hl with | [_], _ => rfl
  have bBE := FBE.binds (ps := ["bag", "deeds"]) fun _ _ _ _ _ _ us hl => match us, hl with | [_, _], _ => rfl
  have bTO := FTO.binds (ps := ["thing"]) fun _ _ _ _ _ _ us hl => match us, hl with | [_], _ => rfl
  have bPL := FPL.binds (ps := ["thing"]) fun _ _ _ _ _ _ us hl => match us, hl with | [_], _ => rfl
  have bGO := FGO.binds (ps := ["bag", "line", "handed", "deeds"]) fun _ _ _ _ _ _ us hl => match us, hl with | [_, _, _, _], _ => rfl
  have bUN := FUN.binds (ps := ["line"]) fun _ _ _ _ _ _ us hl => match us, hl with | [_], _ => rfl
  have bZ := FZ.binds (ps := ["script"]) fun _ _ _ _ _ _ us hl => match us, hl with | [_], _ => rfl
  have m := fun {n : Str} (e : PySem.W.nsIn K mainGlobals n = some none) => PySem.W.mg_none_of X G.g e
  have g := fun {n : Str} {v : Value} (e : PySem.W.nsIn K mainGlobals n = some (some v)) => PySem.W.mg_of X G.g e
  have T : Nm mg := ⟨m z_isinstance, m z_len, m z_int, m z_bool, m z_list, m z_range, m z_min, ⟨_, g gM⟩⟩
  have TL : LnT K mg cLN := ⟨⟨pgC, hdC, poC, saC⟩, nF0, nF1, nF2, nF3, nF4, g aCLS⟩
  let GCl : ClsG K mg := ⟨X0, g xg0, X1, g xg1, Y_NoPlan, g ogNoPlan, Y_NoPerson, g ogNoPerson, Y_NoMoment, g ogNoMoment, Y_TooMany, g ogTooMany, Y_NoOther, g ogNoOther, Y_NoPlace, g ogNoPlace, Y_NoEnd, g ogNoEnd, Y_NoOrder, g ogNoOrder, Y_NoNumber, g ogNoNumber, Y_NoPatience, g ogNoPatience, Y_Nobody, g ogNobody, Y_NoText, g ogNoText, Y_NoForm, g ogNoForm, Y_NoneYet, g ogNoneYet, m z_ValueError⟩
  have XMNoHistory : ExcM K mg "NoHistory" GCl.aNoHistory := ⟨g xg0, xx0, xk0, xb0, xt0⟩
  have XWNoHistory : ClsW K mg GCl GCl.aNoHistory "NoHistory" := ⟨true, false, ⟨⟨ea0, eb0, xb0, ed0, ec0, hn, ht, em0⟩, v70, u0_0, u1_0, u2_0, t0_0, t1_0⟩, by decide +kernel⟩
  have XMNothing : ExcM K mg "Nothing" GCl.aNothing := ⟨g xg1, xx1, xk1, xb1, xt1⟩
  have XWNothing : ClsW K mg GCl GCl.aNothing "Nothing" := ⟨false, true, ⟨⟨ea1, eb1, xb1, ed1, ec1, hn, ht, em1⟩, v71, u0_1, u1_1, u2_1, t0_1, t1_1⟩, by decide +kernel⟩
  have RF : Refs K mg GCl XE := ⟨g gE, XMNoHistory, v80, XWNoHistory, XMNothing, v81, XWNothing⟩
  have TI : LnI K cLN := ⟨iC1, hn, ht, iC2, iC3⟩
  refine ⟨PySem.W.fnOf "law" "law" (defArgs sLaw) (defBody sLaw) (defScope sLaw) .none kVZ dcZ pmZ anZ cdZ ctZ, fun b hb => ?_, fun b hb => ?_, fun b hb => ?_, fun s v => .of_eq rfl, fun base _ _ hsys hB => ?_⟩
  · exact absurd hb (by simp)
  · exact absurd hb (by simp)
  · exact absurd hb (by simp)
  · have XB : K.In base := ‹K.In base›
    have KW : Cal l.prog w K mg base 1 "is_whole" ["thing"] (spOne isWhole) := ⟨fW, _, g aW, kW, bW, ok_whole FW T⟩
    have KRW : Cal l.prog w K mg base 1 "is_row" ["thing"] (spOne isRow) := ⟨fRW, _, g aRW, kRW, bRW, ok_row FRW T (m z_tuple)⟩
    have KP : Cal l.prog w K mg base 2 "is_patience" ["thing"] (spOne isPatience) := ⟨fP, _, g aP, kP, bP, ok_pat FP T KW⟩
    have KLP : Cal l.prog w K mg base 1 "let_past" ["left"] (spLet) := ⟨fLP, _, g aLP, kLP, bLP, ok_let FLP T⟩
    have KID : Cal l.prog w K mg base 2 "is_deed" ["thing", "word", "many"] (spIsDeed) := ⟨fID, _, g aID, kID, bID, ok_isDeed FID T (m z_str) KRW⟩
    have KIC : Cal l.prog w K mg base 3 "is_coming" ["thing"] (spOne isComD) := ⟨fIC, _, g aIC, kIC, bIC, ok_isCom FIC KID KP⟩
    have KIH : Cal l.prog w K mg base 4 "is_history" ["thing"] (spOne isHistD) := ⟨fIH, _, g aIH, kIH, bIH, ok_isHist FIH KRW KID KIC⟩
    have KBG : Cal l.prog w K mg base 1 "_law_bag" ["script"] (spBag K) := ⟨fBG, _, g aBG, kBG, bBG, ok_bag FBG T.list⟩
    have KSR : Cal l.prog w K mg base 1 "_law_stir" ["number", "place"] (spStir) := ⟨fSR, _, g aSR, kSR, bSR, ok_stir FSR⟩
    have KDR : ∀ r, Cal l.prog w K mg base 2 "_law_draw" ["bag", "many"] (spDraw r) := fun r => ⟨fDR, _, g aDR, kDR, bDR, ok_draw FDR T.len KSR⟩
    have KDE : Cal l.prog w K mg base 2 "_law_draw" ["bag", "many"] (spE spDraw) := ⟨fDR, _, g aDR, kDR, bDR, fnE fun r => ok_draw FDR T.len KSR⟩
    have KPA : ∀ r, Cal l.prog w K mg base 3 "_law_patience" ["bag", "most"] (spPatL r) := fun r => ⟨fPA, _, g aPA, kPA, bPA, ok_patL FPA (KDR r)⟩
    have KCA : Cal l.prog w K mg base 1 "_law_came" ["stand", "rest", "number", "patience"] (spCame) := ⟨fCA, _, g aCA, kCA, bCA, ok_came FCA T.len⟩
    have KDN : Cal l.prog w K mg base 2 "_law_done" ["deeds"] (spDone) := ⟨fDN, _, g aDN, kDN, bDN, ok_done FDN T KCA⟩
    have KDD : Cal l.prog w K mg base 4 "_law_deed" ["bag", "deeds", "most"] (spE spDeed) := ⟨fDD, _, g aDD, kDD, bDD, fnE fun r => ok_deed FDD (m z_sum) (KDR r) (KPA r)⟩
    have GMI := ok_init (P := l.prog) (w := w) (mg := mg) (base := base) FMI TL
    have GMC := ok_comeM (P := l.prog) (w := w) (base := base) FMC T TL KP KLP
    have GMS := ok_serveM (P := l.prog) (w := w) (mg := mg) (base := base) FMS TL
    have GMT := ok_takeM (P := l.prog) (w := w) (base := base) FMT T TL
    have GMU := ok_undoM (P := l.prog) (w := w) (base := base) FMU T TL ⟨aMT, iMT, kMT⟩ GMT bMT
    have GMQ := ok_queM (P := l.prog) (w := w) (base := base) FMQ T TL
    have GML := ok_leftM (P := l.prog) (w := w) (base := base) FML T TL
    have GMW := ok_wentM (P := l.prog) (w := w) (base := base) FMW T TL KW
    have GMH := ok_histM (P := l.prog) (w := w) (base := base) FMH T TL
    have GMN := ok_lenM (P := l.prog) (w := w) (base := base) FMN T TL
    have GLO := ok_lineOf (P := l.prog) (w := w) (base := base) FLO TL ⟨mkC, aMI, iMI, kcC⟩ GMI bMI ⟨aMC, iMC, kMC⟩ GMC bMC ⟨aMS, iMS, kMS⟩ GMS bMS KIH KIC
    have BLO := FnOk.both GLO (bad_lineOf (P := l.prog) (w := w) (base := base) FLO XMNoHistory KIH)
    have BMU := bad_undo (P := l.prog) (w := w) (base := base) FMU TL XMNothing
    have KCL : CalP l.prog w K mg base 1 "_law_class" ["caught"] (spClass K mg GCl) := ⟨fCL, _, g aCL, kCL, bCL, ok_class FCL T GCl⟩
    have KTO : Cal l.prog w K mg base 6 "_law_told" ["thing"] (spTold cLN) := ⟨fTO, _, g aTO, kTO, bTO, ok_told FTO GCl RF KCL (g aLO) kLO BLO bLO⟩
    have KUN : Cal l.prog w K mg base 3 "_law_undone" ["line"] (spUndone cLN) := ⟨fUN, _, g aUN, kUN, bUN, ok_undone FUN TL GCl RF KCL ⟨aMU, iMU, kMU⟩ BMU bMU⟩
    have KRI : CalG l.prog w K mg base 6 "_law_right" ["line", "deeds"] (spRight cLN) := ⟨fRI, _, g aRI, kRI, bRI, ok_right FRI T TL (m z_repr) hsys ⟨aMQ, iMQ, kMQ⟩ GMQ bMQ ⟨aML, iML, kML⟩ GML bML ⟨aMH, iMH, kMH⟩ GMH bMH ⟨aMW, iMW, kMW⟩ GMW bMW aMN iMN GMN bMN (KDN.mono (by decide))⟩
    have KGO : CalG l.prog w K mg base 8 "_law_goes_on" ["bag", "line", "handed", "deeds"] (spGoes cLN) := ⟨fGO, _, g aGO, kGO, bGO, ok_goes FGO T TL ⟨aMU, iMU, kMU⟩ GMU bMU ⟨aMC, iMC, kMC⟩ GMC bMC (KDE.mono (by decide)) KRI (KUN.mono (by decide))⟩
    have KLH : Cal l.prog w K mg base 3 "_law_is_history" ["thing"] (spOne isHistD) := ⟨fLH, _, g aLH, kLH, bLH, ok_lhist FLH T (m z_tuple) (m z_str)⟩
    have KBE : Cal l.prog w K mg base 5 "_law_bent" ["bag", "deeds"] (spBent) := ⟨fBE, _, g aBE, kBE, bBE, ok_bent FBE T (KDE.mono (by decide))⟩
    have KPL : Cal l.prog w K mg base 1 "_law_plain" ["thing"] (spPlain) := ⟨fPL, _, g aPL, kPL, bPL, ok_plain FPL (m z_tuple)⟩
    exact ok_law FZ T TL TI (m z_str) (m z_tuple) (m z_repr) hsys (KBG.mono (by decide)) (KDE.mono (by decide)) KDD KTO KRI KGO KBE KLH KPL
end CL
open PySem PySem.W PyProof.Rows
set_option maxRecDepth 100000 in
set_option maxHeartbeats 0 in
theorem PySem.Challenge.cw_comersline_k41_lines_told_anew_holds : PySem.Challenge.rw_comersline_k41_lines_told_anew.Holds := by
  w_on; o_law; k_head; (case hw => w_witness2)
  k_fill
  refine CL.walk (l := PySem.Challenge.rw_comersline_k41_lines_told_anew) rfl rfl (by decide +kernel) (fun w h Y => PySem.W.kIn_of Y) ?F
  case F =>
    intro w mg mb mean lo fa h KX G hmg
    refine' CL.all_mk KX G hmg ?aMI ?lMI ?MIc ?kMI ?iMI ?aMC ?lMC ?MCc ?kMC ?iMC ?aMS ?lMS ?MSc ?kMS ?iMS ?aMU ?lMU ?MUc ?kMU ?iMU ?aMT ?lMT ?MTc ?kMT ?iMT ?aMQ ?lMQ ?MQc ?kMQ ?iMQ ?aML ?lML ?MLc ?kML ?iML ?aMW ?lMW ?MWc ?kMW ?iMW ?aMH ?lMH ?MHc ?kMH ?iMH ?aMN ?lMN ?MNc ?kMN ?iMN ?aW ?lW ?Wc ?kW ?aRW ?lRW ?RWc ?kRW ?aP ?lP ?Pc ?kP ?aLP ?lLP ?LPc ?kLP ?aID ?lID ?IDc ?kID ?aIC ?lIC ?ICc ?kIC ?aIH ?lIH ?IHc ?kIH ?aLO ?lLO ?LOc ?kLO ?aBG ?lBG ?BGc ?kBG ?aSR ?lSR ?SRc ?kSR ?aDR ?lDR ?DRc ?kDR ?aCA ?lCA ?CAc ?kCA ?aPA ?lPA ?PAc ?kPA ?aDN ?lDN ?DNc ?kDN ?aDD ?lDD ?DDc ?kDD ?aRI ?lRI ?RIc ?kRI ?aCL ?lCL ?CLc ?kCL ?aLH ?lLH ?LHc ?kLH ?aBE ?lBE ?BEc ?kBE ?aTO ?lTO ?TOc ?kTO ?aPL ?lPL ?PLc ?kPL ?aGO ?lGO ?GOc ?kGO ?aUN ?lUN ?UNc ?kUN ?aZ ?lZ ?Zc ?kZ ?z_isinstance ?z_len ?z_int ?z_bool ?z_list ?z_range ?z_min ?z_repr ?z_sum ?z_ValueError ?z_tuple ?z_str ?aCLS ?pgC ?hdC ?poC ?saC ?mkC ?kcC ?nF0 ?nF1 ?nF2 ?nF3 ?nF4 ?xg0 ?xx0 ?xk0 ?xb0 ?xt0 ?ea0 ?eb0 ?ed0 ?ec0 ?em0 ?t0_0 ?t1_0 ?u0_0 ?u1_0 ?u2_0 ?v70 ?v80 ?xg1 ?xx1 ?xk1 ?xb1 ?xt1 ?ea1 ?eb1 ?ed1 ?ec1 ?em1 ?t0_1 ?t1_1 ?u0_1 ?u1_1 ?u2_1 ?v71 ?v81 ?ogNoPlan ?ogNoPerson ?ogNoMoment ?ogTooMany ?ogNoOther ?ogNoPlace ?ogNoEnd ?ogNoOrder ?ogNoNumber ?ogNoPatience ?ogNobody ?ogNoText ?ogNoForm ?ogNoneYet ?gE ?hn ?ht ?iC1 ?iC2 ?iC3 ?gM
    (case aCLS => k_is)
    (case xg0 => k_is)
    (case xg1 => k_is)
    (case ogNoPlan => k_is)
    (case ogNoPerson => k_is)
    (case ogNoMoment => k_is)
    (case ogTooMany => k_is)
    (case ogNoOther => k_is)
    (case ogNoPlace => k_is)
    (case ogNoEnd => k_is)
    (case ogNoOrder => k_is)
    (case ogNoNumber => k_is)
    (case ogNoPatience => k_is)
    (case ogNobody => k_is)
    (case ogNoText => k_is)
    (case ogNoForm => k_is)
    (case ogNoneYet => k_is)
    (case gE => k_is)
    (case aMI => k_is)
    (case lMI => k_is)
    (case MIc => k_is)
    (case kMI => k_is)
    (case iMI => k_is)
    (case aMC => k_is)
    (case lMC => k_is)
    (case MCc => k_is)
    (case kMC => k_is)
    (case iMC => k_is)
    (case aMS => k_is)
    (case lMS => k_is)
    (case MSc => k_is)
    (case kMS => k_is)
    (case iMS => k_is)
    (case aMU => k_is)
    (case lMU => k_is)
    (case MUc => k_is)
    (case kMU => k_is)
    (case iMU => k_is)
    (case aMT => k_is)
    (case lMT => k_is)
    (case MTc => k_is)
    (case kMT => k_is)
    (case iMT => k_is)
    (case aMQ => k_is)
    (case lMQ => k_is)
    (case MQc => k_is)
    (case kMQ => k_is)
    (case iMQ => k_is)
    (case aML => k_is)
    (case lML => k_is)
    (case MLc => k_is)
    (case kML => k_is)
    (case iML => k_is)
    (case aMW => k_is)
    (case lMW => k_is)
    (case MWc => k_is)
    (case kMW => k_is)
    (case iMW => k_is)
    (case aMH => k_is)
    (case lMH => k_is)
    (case MHc => k_is)
    (case kMH => k_is)
    (case iMH => k_is)
    (case aMN => k_is)
    (case lMN => k_is)
    (case MNc => k_is)
    (case kMN => k_is)
    (case iMN => k_is)
    (case aW => k_is)
    (case lW => k_is)
    (case Wc => k_is)
    (case kW => k_is)
    (case aRW => k_is)
    (case lRW => k_is)
    (case RWc => k_is)
    (case kRW => k_is)
    (case aP => k_is)
    (case lP => k_is)
    (case Pc => k_is)
    (case kP => k_is)
    (case aLP => k_is)
    (case lLP => k_is)
    (case LPc => k_is)
    (case kLP => k_is)
    (case aID => k_is)
    (case lID => k_is)
    (case IDc => k_is)
    (case kID => k_is)
    (case aIC => k_is)
    (case lIC => k_is)
    (case ICc => k_is)
    (case kIC => k_is)
    (case aIH => k_is)
    (case lIH => k_is)
    (case IHc => k_is)
    (case kIH => k_is)
    (case aLO => k_is)
    (case lLO => k_is)
    (case LOc => k_is)
    (case kLO => k_is)
    (case aBG => k_is)
    (case lBG => k_is)
    (case BGc => k_is)
    (case kBG => k_is)
    (case aSR => k_is)
    (case lSR => k_is)
    (case SRc => k_is)
    (case kSR => k_is)
    (case aDR => k_is)
    (case lDR => k_is)
    (case DRc => k_is)
    (case kDR => k_is)
    (case aCA => k_is)
    (case lCA => k_is)
    (case CAc => k_is)
    (case kCA => k_is)
    (case aPA => k_is)
    (case lPA => k_is)
    (case PAc => k_is)
    (case kPA => k_is)
    (case aDN => k_is)
    (case lDN => k_is)
    (case DNc => k_is)
    (case kDN => k_is)
    (case aDD => k_is)
    (case lDD => k_is)
    (case DDc => k_is)
    (case kDD => k_is)
    (case aRI => k_is)
    (case lRI => k_is)
    (case RIc => k_is)
    (case kRI => k_is)
    (case aCL => k_is)
    (case lCL => k_is)
    (case CLc => k_is)
    (case kCL => k_is)
    (case aLH => k_is)
    (case lLH => k_is)
    (case LHc => k_is)
    (case kLH => k_is)
    (case aBE => k_is)
    (case lBE => k_is)
    (case BEc => k_is)
    (case kBE => k_is)
    (case aTO => k_is)
    (case lTO => k_is)
    (case TOc => k_is)
    (case kTO => k_is)
    (case aPL => k_is)
    (case lPL => k_is)
    (case PLc => k_is)
    (case kPL => k_is)
    (case aGO => k_is)
    (case lGO => k_is)
    (case GOc => k_is)
    (case kGO => k_is)
    (case aUN => k_is)
    (case lUN => k_is)
    (case UNc => k_is)
    (case kUN => k_is)
    (case aZ => k_is)
    (case lZ => k_is)
    (case Zc => k_is)
    (case kZ => k_is)
    (case z_isinstance => k_is)
    (case z_len => k_is)
    (case z_int => k_is)
    (case z_bool => k_is)
    (case z_list => k_is)
    (case z_range => k_is)
    (case z_min => k_is)
    (case z_repr => k_is)
    (case z_sum => k_is)
    (case z_ValueError => k_is)
    (case z_tuple => k_is)
    (case z_str => k_is)
    (case pgC => k_is)
    (case hdC => k_is)
    (case poC => k_is)
    (case saC => k_is)
    (case mkC => k_is)
    (case kcC => k_is)
    (case nF0 => k_is)
    (case nF1 => k_is)
    (case nF2 => k_is)
    (case nF3 => k_is)
    (case nF4 => k_is)
    (case xx0 => k_exc)
    (case xk0 => k_is)
    (case xb0 => k_is)
    (case xt0 => k_is)
    (case ea0 => k_is)
    (case eb0 => k_is)
    (case ed0 => k_is)
    (case ec0 => k_is)
    (case em0 => k_is)
    (case t0_0 => first | rfl | kernel_rfl)
    (case t1_0 => first | rfl | kernel_rfl)
    (case u0_0 => kernel_rfl)
    (case u1_0 => kernel_rfl)
    (case u2_0 => kernel_rfl)
    (case v70 => kernel_rfl)
    (case v80 => kernel_rfl)
    (case xx1 => k_exc)
    (case xk1 => k_is)
    (case xb1 => k_is)
    (case xt1 => k_is)
    (case ea1 => k_is)
    (case eb1 => k_is)
    (case ed1 => k_is)
    (case ec1 => k_is)
    (case em1 => k_is)
    (case t0_1 => first | rfl | kernel_rfl)
    (case t1_1 => first | rfl | kernel_rfl)
    (case u0_1 => kernel_rfl)
    (case u1_1 => kernel_rfl)
    (case u2_1 => kernel_rfl)
    (case v71 => kernel_rfl)
    (case v81 => kernel_rfl)
    (case hn => k_is)
    (case ht => k_is)
    (case iC1 => k_is)
    (case iC2 => k_is)
    (case iC3 => first | rfl | kernel_rfl)
    (case gM => k_is)
