import PyProof.Rows.All
import Wide.All
import OpenK.AllK
import Wide.FinOn
import HandS.ForMost
import HandS.ForExc
import HandS.AnyAll
import HandS.GenBody
import HandS.IsInst
import HandS.TupAny
import HandS.Wide
import HandS.Codes
import HandS.Conv
import HandS.Text
import HandS.More
import HandS.Flow
import HandS.Walk
import KE.DataEq
import HandS.EndTab
import HandS.NestedK
import PySem.Challenge.RW_comersline_k44_whole_goings_past_counted
namespace GE
end GE
set_option Elab.async false
set_option linter.all false
set_option maxRecDepth 100000
set_option maxHeartbeats 1000000
namespace CL
open PySem PySem.Spec PyProof.Rows L2 GE
/-! ### what a value is worth, as data -/
mutual
inductive Rp (H : Hp) : V → PyData → Prop
  | non : Rp H .non .none
  | bl (b : Bool) : Rp H (.bl b) (.bool b)
  | int (i : Int) : Rp H (.int i) (.int i)
  | str (x : Str) : Rp H (.str x) (.str x)
  | lst {a : Addr} {xs : List V} {ds : List PyData} : H a = some (.lst xs) → RpAll H xs ds → Rp H (.ref a) (.list ds)
  | tup {a : Addr} {xs : List V} {ds : List PyData} : H a = some (.tup xs) → RpAll H xs ds → Rp H (.ref a) (.tuple ds)
  | dct {a : Addr} : H a = some (.dK []) → Rp H (.ref a) (.dict [])
inductive RpAll (H : Hp) : List V → List PyData → Prop
  | nil : RpAll H [] []
  | cons {v : V} {vs : List V} {d : PyData} {ds : List PyData} : Rp H v d → RpAll H vs ds → RpAll H (v :: vs) (d :: ds)
end
/-- all stays but tables, which may grow -/
def Ex (H H' : Hp) : Prop := ∀ b o, H b = some o → H' b = some o ∨ ∃ ps qs, o = .tbl ps ∧ H' b = some (.tbl qs) ∧ TriplesOk qs.toList
theorem Ex.refl (H : Hp) : Ex H H := fun _ _ h => .inl h
theorem Ex.of {H H' : Hp} (s : Same H H') : Ex H H' := fun b o h => .inl (s b o h)
theorem Ex.trans {H H1 H2 : Hp} (a : Ex H H1) (b : Ex H1 H2) : Ex H H2 := fun c o h => by
  rcases a c o h with q | ⟨ps, qs, e, q⟩
  · exact b c o q
  · rcases b c _ q.1 with r | ⟨ps', qs', _, r⟩
    · exact .inr ⟨ps, qs, e, r, q.2⟩
    · exact .inr ⟨ps, qs', e, r⟩
theorem Ex.keep {H H' : Hp} (e : Ex H H') {b : Addr} {o : HO} (h : H b = some o) (n : ∀ ps, o ≠ .tbl ps) : H' b = some o := by
  rcases e b o h with q | ⟨ps, _, z, _⟩
  · exact q
  · exact absurd z (n ps)
theorem Ex.lst {H H' : Hp} (e : Ex H H') {b : Addr} {xs : List V} (h : H b = some (.lst xs)) : H' b = some (.lst xs) := e.keep h fun _ => nofun
theorem Ex.tup {H H' : Hp} (e : Ex H H') {b : Addr} {xs : List V} (h : H b = some (.tup xs)) : H' b = some (.tup xs) := e.keep h fun _ => nofun
theorem Ex.free {H H' : Hp} (e : Ex H H') {l : Addr} (h : H' l = none) : H l = none := by
  cases q : H l with
  | none => rfl
  | some o =>
    rcases e l o q with r | ⟨_, _, _, r, _⟩
    · rw [h] at r; cases r
    · rw [h] at r; cases r
theorem Ex.new {H : Hp} {p : Addr} {o : HO} (h : H p = none) : Ex H (upd H p o) := fun b x e => .inl (by rw [upd_ne (ne_of_none e h)]; exact e)
theorem same_upd {H : Hp} {p : Addr} {o : HO} (h : H p = none) : Same H (upd H p o) := fun b x e => by
  rw [upd_ne (ne_of_none e h)]
  exact e
mutual
theorem Rp.ex {H H' : Hp} (e : Ex H H') : ∀ (d : PyData) (v : V), Rp H v d → Rp H' v d
  | .none, _, h => by cases h; exact .non
  | .bool b, _, h => by cases h; exact .bl b
  | .int i, _, h => by cases h; exact .int i
  | .str x, _, h => by cases h; exact .str x
  | .list ds, _, h => by
    cases h with
    | lst h1 h2 => exact .lst (e.lst h1) (RpAll.ex e ds _ h2)
  | .tuple ds, _, h => by
    cases h with
    | tup h1 h2 => exact .tup (e.tup h1) (RpAll.ex e ds _ h2)
  | .dict _, _, h => by
    cases h with
    | dct h1 => exact .dct (e.keep h1 fun _ => nofun)
theorem RpAll.ex {H H' : Hp} (e : Ex H H') : ∀ (ds : List PyData) (vs : List V), RpAll H vs ds → RpAll H' vs ds
  | [], _, h => by cases h; exact .nil
  | d :: ds, _, h => by
    cases h with
    | cons h1 h2 => exact .cons (Rp.ex e d _ h1) (RpAll.ex e ds _ h2)
end
theorem RpAll.length {H : Hp} : ∀ {vs : List V} {ds : List PyData}, RpAll H vs ds → vs.length = ds.length
  | _, _, .nil => rfl
  | _, _, .cons _ t => congrArg (· + 1) (RpAll.length t)
theorem RpAll.get {H : Hp} : ∀ {vs : List V} {ds : List PyData} {i : Nat} {v : V}, RpAll H vs ds → vs[i]? = some v → ∃ d, ds[i]? = some d ∧ Rp H v d
  | _, _, _, _, .nil, e => by simp at e
  | _, _, 0, _, .cons r _, e => by simp at e; subst e; exact ⟨_, rfl, r⟩
  | _, _, i + 1, _, .cons _ t, e => by
    obtain ⟨d, h1, h2⟩ := RpAll.get (i := i) t (by simpa using e)
    exact ⟨d, by simpa using h1, h2⟩
theorem RpAll.take {H : Hp} : ∀ {vs : List V} {ds : List PyData} (n : Nat), RpAll H vs ds → RpAll H (vs.take n) (ds.take n)
  | _, _, 0, _ => .nil
  | _, _, _ + 1, .nil => .nil
  | _, _, n + 1, .cons r t => .cons r (RpAll.take n t)
theorem RpAll.append {H : Hp} : ∀ {vs ws : List V} {ds es : List PyData}, RpAll H vs ds → RpAll H ws es → RpAll H (vs ++ ws) (ds ++ es)
  | _, _, _, _, .nil, s => s
  | _, _, _, _, .cons r t, s => .cons r (RpAll.append t s)
/-! ### plans, as the document tells -/
def tyName : PyData → String
  | .none => "NoneType" | .bool _ => "bool" | .int _ => "int" | .str _ => "str" | .list _ => "list" | .tuple _ => "tuple" | .dict _ => "dict"
def rowsD : PyData → Option (List PyData)
  | .list xs => some xs
  | .tuple xs => some xs
  | _ => none
def isRow (d : PyData) : Bool := (rowsD d).isSome
def isWhole : PyData → Bool
  | .int _ => true
  | _ => false
def isIntB : PyData → Bool
  | .int _ => true
  | .bool _ => true
  | _ => false
def isBoolB : PyData → Bool
  | .bool _ => true
  | _ => false
def isNone : PyData → Bool
  | .none => true
  | _ => false
abbrev GREAT : Int := 1000000000000000000000000000000
def isPatience : PyData → Bool
  | .none => true
  | .int i => decide (0 ≤ i) && decide (i ≤ GREAT)
  | _ => false
def isTurns (d : PyData) : Bool := match rowsD d with
  | some ds => decide (1 ≤ ds.length) && decide (ds.length ≤ 8) && ds.all isPatience
  | none => false
def isMany : PyData → Bool
  | .none => true
  | .int i => decide (0 ≤ i)
  | _ => false
def isPiece (d : PyData) : Bool := match rowsD d with
  | some [t, m] => isTurns t && isMany m
  | _ => false
def sndD (d : PyData) : PyData := match rowsD d with
  | some [_, m] => m
  | _ => .none
def worth : PyData → Int
  | .int i => i
  | _ => 0
def sumSnd (ds : List PyData) : Int := (ds.map fun d => worth (sndD d)).sum
def isPlanL (ds : List PyData) : Bool := decide (1 ≤ ds.length) && decide (ds.length ≤ 8) && ds.all isPiece && !((ds.take (ds.length - 1)).any fun d => isNone (sndD d)) && decide (sumSnd ds ≤ GREAT)
def isPlan (d : PyData) : Bool := match rowsD d with
  | some ds => isPlanL ds
  | none => false
theorem Rp.ty {K : PySem.W.Frag} {H : Hp} {v : V} {d : PyData} (h : Rp H v d) : TyX K H v (.type (tyName d)) := by
  cases h with
  | non => exact .base .non
  | bl b => exact .base (.bl b)
  | int i => exact .base (.int i)
  | str x => exact .base (.str x)
  | lst h _ => exact .base (.lst h)
  | tup h _ => exact .base (.tup h)
  | dct h => exact .base (.dK h)
theorem kit_int {K : PySem.W.Frag} (d : PyData) : PySem.W.kitOne K (.type (tyName d)) (.type "int") = some (isIntB d) := by cases d <;> (refine kit_ty ?_; dsimp only [tyName, isIntB]; decide +kernel)
theorem kit_bool {K : PySem.W.Frag} (d : PyData) : PySem.W.kitOne K (.type (tyName d)) (.type "bool") = some (isBoolB d) := by cases d <;> (refine kit_ty ?_; dsimp only [tyName, isBoolB]; decide +kernel)
theorem kit_list {K : PySem.W.Frag} (d : PyData) : PySem.W.kitOne K (.type (tyName d)) (.type "list") = some (match d with | .list _ => true | _ => false) := by cases d <;> (refine kit_ty ?_; dsimp only [tyName]; decide +kernel)
theorem kit_tuple {K : PySem.W.Frag} (d : PyData) : PySem.W.kitOne K (.type (tyName d)) (.type "tuple") = some (match d with | .tuple _ => true | _ => false) := by cases d <;> (refine kit_ty ?_; dsimp only [tyName]; decide +kernel)
theorem kit_rows {K : PySem.W.Frag} (d : PyData) : PySem.W.kitAny K (.type (tyName d)) [.type "list", .type "tuple"] = some (isRow d) := by
  refine kitAny_cons (kit_list d) (fun h => kitAny_cons (kit_tuple d) (fun h2 => ?_) fun h2 => ?_) fun h => ?_
  · cases d <;> first | exact kitAny_nil | (simp at h; done) | (simp at h2; done)
  · cases d <;> first | rfl | (simp at h; done) | (simp at h2; done)
  · cases d <;> first | rfl | (simp at h; done)
/-- a row's things -/
theorem Rp.rows {H : Hp} {v : V} {d : PyData} {ds : List PyData} (h : Rp H v d) (e : rowsD d = some ds) : ∃ a xs, v = .ref a ∧ RpAll H xs ds ∧ (H a = some (.lst xs) ∨ H a = some (.tup xs)) := by
  cases h with
  | lst h1 h2 => cases e; exact ⟨_, _, rfl, h2, .inl h1⟩
  | tup h1 h2 => cases e; exact ⟨_, _, rfl, h2, .inr h1⟩
  | _ => cases e
/-! ### for x in a list or a tuple -/
structure StSeq (H : Hp) (a : Addr) (xs : List V) : Prop where
  or : H a = some (.lst xs) ∨ H a = some (.tup xs)
theorem StSeq.ex {H H' : Hp} {a : Addr} {xs : List V} (s : StSeq H a xs) (e : Ex H H') : StSeq H' a xs := ⟨s.or.elim (fun h => .inl (e.lst h)) fun h => .inr (e.tup h)⟩
theorem StSeq.sq {K : PySem.W.Frag} {H : Hp} {a : Addr} {xs : List V} (s : StSeq H a xs) : SqL K H a xs ∨ SqT K H a xs := s.or.elim (fun h => .inl (SqL.of h)) fun h => .inr (SqT.of h)
/-- the thing that is walked stands -/
def StandsAs (K : PySem.W.Frag) (a : Addr) (xs : List V) (J : It) (H : Hp) : Prop := (J = Itl K a ∧ SqL K H a xs) ∨ (J = Itt K a ∧ SqT K H a xs)
section
variable {X : Cx} {tg : Expr}
def iSeq (K : PySem.W.Frag) (tl : TE) : TI := fun σ H R => tl σ H fun x H1 => ∃ a xs, x = .ref a ∧ StSeq H1 a xs ∧ ∀ J, (∀ H2, Ex H1 H2 → StandsAs K a xs J H2) → R J H1
theorem pi_seq {l : Expr} {tl : TE} (hl : PE X l tl) : PI X tg l (iSeq X.K tl) := by
  refine ⟨fun pins s σ H R I h => ?_⟩
  refine thn (hl.run pins s σ H _ I h) fun v s1 ⟨x, H1, I1, r1, q1⟩ => ?_
  obtain ⟨a, xs, e, st, q⟩ := q1
  subst e
  cases r1
  have new : ∀ b ∈ [s1.heap.objs.size], FpOk X pins H1 b := fun b hb => by
    rw [List.mem_singleton.mp hb]
    exact I1.fpOk (Nat.le_refl _) (I1.hok.fresh (Nat.le_refl _))
  rcases st.or with hq | hq
  · obtain ⟨its, rv, p, hz⟩ := I1.list (SqL.of hq)
    exact wpAny_pyIter_list p.isList ⟨s1.heap.objs.size, [s1.heap.objs.size], _, _, H1, rfl, I1.kept (t' := s1.toks) fun b o e => Heap.get?_push_of_some _ e, turn_list a _, ⟨_, Heap.get?_push_size _ rfl, rfl, rfl⟩, new, q _ fun H2 e => .inl ⟨rfl, SqL.of (e.lst hq)⟩⟩
  · obtain ⟨its, rv, p, hz⟩ := I1.tuple (SqT.of hq)
    exact wpAny_pyIter_tuple (show s1.heap.IsTuple a its.toArray from p) ⟨s1.heap.objs.size, [s1.heap.objs.size], _, _, H1, rfl, I1.kept (t' := s1.toks) fun b o e => Heap.get?_push_of_some _ e, turn_tuple a _, ⟨_, Heap.get?_push_size _ rfl, rfl, rfl⟩, new, q _ fun H2 e => .inr ⟨rfl, SqT.of (e.tup hq)⟩⟩
end
theorem StandsAs.go {K : PySem.W.Frag} {a : Addr} {xs : List V} {J : It} {H : Hp} {i : Nat} {x : V} (s : StandsAs K a xs J H) (h : xs[i]? = some x) : J.go i H := by
  rcases s with ⟨rfl, q⟩ | ⟨rfl, q⟩ <;> exact ⟨xs, x, q, h⟩
theorem StandsAs.stop {K : PySem.W.Frag} {a : Addr} {xs : List V} {J : It} {H : Hp} {i : Nat} (s : StandsAs K a xs J H) (h : xs.length ≤ i) : J.stop i H := by
  rcases s with ⟨rfl, q⟩ | ⟨rfl, q⟩ <;> exact ⟨xs, q, h⟩
theorem StandsAs.yld {K : PySem.W.Frag} {a : Addr} {xs : List V} {J : It} {H H' : Hp} {i : Nat} {x : V} (s : StandsAs K a xs J H) (h : J.yld i H x H') : H' = H ∧ xs[i]? = some x := by
  rcases s with ⟨rfl, q⟩ | ⟨rfl, q⟩ <;> exact ⟨h.1, h.2 xs q⟩
end CL
set_option Elab.async false
set_option linter.all false
set_option maxRecDepth 100000
set_option maxHeartbeats 4000000
namespace CL
open PySem PySem.Spec PyProof.Rows L2 GE
def topS (i : Nat) : Stmt := PySem.Challenge.pw_comersline_k44_whole_goings_past_counted.main.body.getD i (.Pass ⟨0, 0, 0, 0⟩)
abbrev sWhole : Stmt := topS 8
abbrev sPat : Stmt := topS 12
theorem scWhole : FnScope ["thing"] ["thing"] (defScope sWhole) := ⟨rfl, rfl, rfl, by decide +kernel, rfl, by decide +kernel, by decide +kernel⟩
theorem scPat : FnScope ["thing"] ["thing"] (defScope sPat) := ⟨rfl, rfl, rfl, by decide +kernel, rfl, by decide +kernel, by decide +kernel⟩
/-- a def that may be called by its name -/
structure Cal (P : Program) (w : World) (K : PySem.W.Frag) (mg : Str → Option Value) (base : Heap) (k : Nat) (x : Str) (ps : List Str) (sp : Sp) : Prop where
  ex : ∃ f fd, mg x = some (.ref f) ∧ PySem.W.keepIn K (.ref f) = true ∧ Binds K fd ps [] ∧ FnOk P w K mg base CX0 k f fd ps sp
theorem pe_cal {X : Cx} {k : Nat} {x : Str} {ps : List Str} {sp : Sp} {p pos : Pos} {e : Expr} {es : List Expr} {t : TA} (C : Cal X.prog X.w X.K X.mg X.base k x ps sp) (hr : Room k X.A) (hg : Gl X x) (ha : PA X (e :: es) t) (hdb : (x == ("__debug__" : Str)) = false := by decide)
    (he : starEach (e :: es) X.env = (false, eval e X.env) :: starEach es X.env := by rfl) (hpl : (backTo pos (starEach es X.env)).any (·.1) = false := by rfl) : PE X (.Call (.Name x p) (e :: es) [] pos) (tCall sp [] E0 t) := by
  obtain ⟨f, fd, h1, h2, h3, h4⟩ := C.ex
  exact pe_call h4 hr hg h1 h2 h3 .nil pass0 ha hdb he hpl
theorem Cal.mono {P : Program} {w : World} {K : PySem.W.Frag} {mg : Str → Option Value} {base : Heap} {j k : Nat} {x : Str} {ps : List Str} {sp : Sp} (C : Cal P w K mg base j x ps sp) (h : j ≤ k) : Cal P w K mg base k x ps sp := by
  obtain ⟨f, fd, h1, h2, h3, h4⟩ := C.ex
  exact ⟨f, fd, h1, h2, h3, h4.mono h⟩
/-- names that are still the built-in ones, and constants -/
structure Nm (mg : Str → Option Value) : Prop where
  isi : mg "isinstance" = none
  len : mg "len" = none
  int : mg "int" = none
  bool : mg "bool" = none
  list : mg "list" = none
  range : mg "range" = none
  min : mg "min" = none
  great : ∃ t, mg "GREATEST" = some (.int GREAT t)
def spOne (g : PyData → Bool) : Sp := fun vs H Q _ => ∃ v d, vs = [v] ∧ Rp H v d ∧ ∀ H', Same H H' → Q (.bl (g d)) H'
theorem spOne_len {g : PyData → Bool} : ∀ vs H Q E, spOne g vs H Q E → vs.length = 1 := fun vs H Q E ⟨v, d, e, _⟩ => by rw [e]; rfl
section
variable {P : Program} {w : World} {K : PySem.W.Frag} {mg : Str → Option Value} {base : Heap}
theorem ok_whole {f : Addr} {fd : FuncData} (F : Fun K "is_whole" "is_whole" sWhole f fd) (T : Nm mg) : FnOk P w K mg base CX0 1 f fd ["thing"] (spOne isWhole) := by
  refine F.ok scWhole spOne_len (fun cdv A outer s H vs Q E hr h => ?_)
  obtain ⟨v, d, rfl, hR, q⟩ := h
  refine ⟨_, pss_one (ps_ret (pe_and (pe_callB call_isi (by rfl) T.isi (by decide +kernel) (pa_cons (pv 0) (pa_cons (pe_bltn (v := .ty "int") (by rfl) T.int PyProof.Rows.boot_int rfl) pa_nil)))
    (pe_one (pe_not (pe_callB call_isi (by rfl) T.isi (by decide +kernel) (pa_cons (pv 0) (pa_cons (pe_bltn (v := .ty "bool") (by rfl) T.bool PyProof.Rows.boot_bool rfl) pa_nil))))))), ?_⟩
  refine ⟨v, rfl, v, .ty "int", _, _, isIntB d, rfl, .ty _, hR.ty, kit_int d, isIntB d, rfl, ite2 (fun e => ?_) (fun e => ?_)⟩
  · refine ⟨v, rfl, v, .ty "bool", _, _, isBoolB d, rfl, .ty _, hR.ty, kit_bool d, isBoolB d, rfl, ?_⟩
    have z : (!isBoolB d) = isWhole d := by cases d <;> first | rfl | (exact absurd e Bool.false_ne_true)
    rw [z]
    exact q H (Same.refl H)
  · have z : isWhole d = false := by cases d <;> first | rfl | (exact absurd rfl e)
    have q' := q H (Same.refl H)
    rw [z] at q'
    exact q'
theorem ok_pat {f : Addr} {fd : FuncData} (F : Fun K "is_patience" "is_patience" sPat f fd) (T : Nm mg) (CW : Cal P w K mg base 1 "is_whole" ["thing"] (spOne isWhole)) : FnOk P w K mg base CX0 2 f fd ["thing"] (spOne isPatience) := by
  refine F.ok scPat spOne_len (fun cdv A outer s H vs Q E hr h => ?_)
  obtain ⟨v, d, rfl, hR, q⟩ := h
  obtain ⟨tg, hgr⟩ := T.great
  refine ⟨_, pss_one (ps_ret (pe_or (pe_cmp (pc_isN (pv 0)) rfl) (pe_one (pe_and (pe_cal CW hr (by rfl) (pa_cons (pv 0) pa_nil))
    (pe_one (pe_chain op_le op_le pe_int (pv 0) (pe_glob (v := .int GREAT) (by rfl) hgr ⟨_, rfl⟩))))))), ?_⟩
  refine ⟨v, rfl, decide (v = .non), rfl, ite2 (fun e => ?_) (fun e => ?_)⟩
  · have ev : v = .non := of_decide_eq_true e
    subst ev
    cases hR
    exact q H (Same.refl H)
  · have nv : v ≠ .non := fun z => e (decide_eq_true z)
    refine ⟨v, rfl, v, d, rfl, hR, fun H1 s1 => ⟨isWhole d, rfl, ite2 (fun e2 => ?_) (fun e2 => ?_)⟩⟩
    · cases hR with
      | int i =>
        refine ⟨.int i, rfl, 0, i, rfl, rfl, decide (0 ≤ i), rfl, ite2 (fun e3 => ?_) (fun e3 => ?_)⟩
        · refine ⟨i, GREAT, rfl, rfl, ?_⟩
          have q' := q H1 s1
          have z : isPatience (.int i) = decide (i ≤ GREAT) := by
            show (decide (0 ≤ i) && decide (i ≤ GREAT)) = _
            rw [e3, Bool.true_and]
          rw [z] at q'
          exact q'
        · have q' := q H1 s1
          have z : isPatience (.int i) = false := by
            show (decide (0 ≤ i) && decide (i ≤ GREAT)) = _
            rw [Bool.eq_false_iff.mpr e3, Bool.false_and]
          rw [z] at q'
          exact q'
      | _ => exact absurd e2 Bool.false_ne_true
    · have q' := q H1 s1
      have z : isPatience d = false := by
        cases hR with
        | non => exact absurd rfl nv
        | int i => exact absurd rfl e2
        | _ => rfl
      rw [z] at q'
      exact q'
end
theorem all_take {p : PyData → Bool} {ds : List PyData} {i : Nat} {d : PyData} (h : ds[i]? = some d) : (ds.take (i + 1)).all p = ((ds.take i).all p && p d) := by
  rw [List.take_add_one, h, List.all_append]
  simp
theorem any_take {p : PyData → Bool} {ds : List PyData} {i : Nat} {d : PyData} (h : ds[i]? = some d) : (ds.take (i + 1)).any p = ((ds.take i).any p || p d) := by
  rw [List.take_add_one, h, List.any_append]
  simp
theorem all_false {p : PyData → Bool} {ds : List PyData} {i : Nat} {d : PyData} (h : ds[i]? = some d) (e : p d = false) : ds.all p = false := by
  rw [List.all_eq_false]
  exact ⟨d, List.mem_of_getElem? h, by rw [e]; exact Bool.false_ne_true⟩
theorem any_true {p : PyData → Bool} {ds : List PyData} {i : Nat} {d : PyData} (h : ds[i]? = some d) (e : p d = true) : ds.any p = true := by
  rw [List.any_eq_true]
  exact ⟨d, List.mem_of_getElem? h, e⟩
theorem name_yes {i : Nat} {x : V} {σ : L2.St} {H : Hp} {A B : L2.St → Hp → Prop} (h : A (σ.set i (some x)) H) : gName i x σ H (fun σ2 H2 => tYes σ2 H2 fun b H3 => if b = true then A σ2 H3 else B σ2 H3) := by
  show if true = true then A (σ.set i (some x)) H else B (σ.set i (some x)) H
  exact iteT h
theorem nd1 {x : Str} : [x].Nodup := by simp
theorem p18 : (10 : Int) ^ (18 : Int).toNat = 1000000000000000000 := by decide +kernel
theorem p30 : (10 : Int) ^ (30 : Int).toNat = GREAT := by decide +kernel
theorem same_ne {H H' : Hp} (s : Same H H') {p b : Addr} (np : H' p = none) (hb : H b ≠ none) : b ≠ p := fun z => by
  rw [z] at hb
  cases q : H p with
  | none => exact hb q
  | some o =>
    rw [s p o q] at np
    cases np
theorem ints_dp {K : PySem.W.Frag} {H : Hp} : ∀ gs : List Int, DpAll K H (gs.map V.int) (gs.map PyData.int)
  | [] => .nil
  | x :: gs => .cons (.int x) (ints_dp gs)
theorem ints_lay : ∀ gs : List Int, PyData.canLayAll0 (gs.map PyData.int) = true
  | [] => by simp [PyData.canLayAll0]
  | x :: gs => by
    have := ints_lay gs
    simp [PyData.canLayAll0, PyData.canLay0, this]
theorem ints_depth : ∀ gs : List Int, PyData.depthAll (gs.map PyData.int) = 0
  | [] => rfl
  | x :: gs => by
    have := ints_depth gs
    show max 0 (PyData.depthAll (gs.map PyData.int)) = 0
    rw [this]
    rfl
theorem ints_shaped (gs : List Int) : SeqAt.shaped (.list (gs.map PyData.int)) = true := by
  unfold SeqAt.shaped
  have h1 : PyData.canLay0 (.list (gs.map PyData.int)) = true := by
    have := ints_lay gs
    simp [PyData.canLay0, this]
  have h2 : PyData.depth (.list (gs.map PyData.int)) = 1 := by
    show PyData.depthAll (gs.map PyData.int) + 1 = 1
    rw [ints_depth]
  rw [h1, h2]
  rfl
theorem ints_take (gs : List Int) (k : Nat) : (gs.map V.int).take k = (gs.take k).map V.int := List.map_take.symm
theorem cut_to (xs : List V) (k : Nat) : cutV xs none (some (k : Int)) = xs.take k := by
  unfold cutV
  have e0 : HT.sIx xs.length 0 none = 0 := rfl
  have e1 : HT.sIx xs.length xs.length (some (k : Int)) = min k xs.length := HT.sIx_nat _ _ _
  rw [e0, e1, List.drop_zero, Nat.sub_zero]
  rcases Nat.le_total k xs.length with h | h
  · rw [Nat.min_eq_left h]
  · rw [Nat.min_eq_right h, List.take_of_length_le h, List.take_of_length_le (Nat.le_refl _)]
theorem cut_from (xs : List V) (k : Nat) : cutV xs (some (k : Int)) none = xs.drop k := by
  unfold cutV
  have e0 : HT.sIx xs.length 0 (some (k : Int)) = min k xs.length := HT.sIx_nat _ _ _
  have e1 : HT.sIx xs.length xs.length none = xs.length := rfl
  rw [e0, e1]
  rcases Nat.le_total k xs.length with h | h
  · rw [Nat.min_eq_left h]
    exact List.take_of_length_le (by rw [List.length_drop]; exact Nat.le_refl _)
  · rw [Nat.min_eq_right h, List.drop_of_length_le (Nat.le_refl _), List.drop_of_length_le h]
    simp
theorem small_add {a b : Nat} (ha : a ≤ 1000) (hb : b ≤ 1000) : a + b ≤ sizeLine := by
  have : 2000 ≤ sizeLine := by decide
  omega
theorem small_le {a : Nat} (ha : a ≤ 1000) : a ≤ sizeLine := by
  have : 1000 ≤ sizeLine := by decide
  omega
theorem yesT {σ : L2.St} {H : Hp} {A B : Hp → Prop} (h : A H) : tYes σ H (fun b H3 => if b = true then A H3 else B H3) := by
  show if true = true then A H else B H
  exact iteT h
open Classical in
noncomputable def Hw (W : Addr → Prop) (H : Hp) : Hp := fun b => if W b then none else H b
theorem Hw.at {W : Addr → Prop} {H : Hp} {b : Addr} (n : ¬ W b) : Hw W H b = H b := by
  unfold Hw
  rw [if_neg n]
theorem Hw.ne {W : Addr → Prop} {H : Hp} {b : Addr} {o : HO} (e : Hw W H b = some o) : ¬ W b := fun z => by
  unfold Hw at e
  rw [if_pos z] at e
  cases e
theorem Hw.sub (W : Addr → Prop) (H : Hp) : Same (Hw W H) H := fun b o e => by rw [Hw.at (Hw.ne e)] at e; exact e
theorem Hw.less {W W' : Addr → Prop} {H : Hp} (h : ∀ b, W b → W' b) : Same (Hw W' H) (Hw W H) := fun b o e => by
  rw [Hw.at fun z => Hw.ne e (h b z)]
  exact Hw.sub W' H b o e
theorem Hw.more {W W' : Addr → Prop} {H : Hp} (h : ∀ b, W' b → W b ∨ H b = none) : Same (Hw W H) (Hw W' H) := fun b o e => by
  have e1 := Hw.sub W H b o e
  rw [Hw.at fun z => (h b z).elim (Hw.ne e) fun q => by rw [q] at e1; cases e1]
  exact e1
theorem hw_upd {W : Addr → Prop} {a : Addr} {H : Hp} {o : HO} (h : W a) : Hw W (upd H a o) = Hw W H := by
  funext b
  by_cases hb : W b
  · unfold Hw
    rw [if_pos hb, if_pos hb]
  · rw [Hw.at hb, Hw.at hb, upd_ne fun z => hb (by rw [z]; exact h)]
theorem Same.hw {W : Addr → Prop} {H H' : Hp} (m : Same H H') : Same (Hw W H) (Hw W H') := fun b o e => by
  rw [Hw.at (Hw.ne e)]
  exact m b o (Hw.sub W H b o e)
theorem Rp.sm {H H' : Hp} (s : Same H H') {v : V} {d : PyData} (h : Rp H v d) : Rp H' v d := Rp.ex (Ex.of s) d v h
theorem RpAll.sm {H H' : Hp} (s : Same H H') {vs : List V} {ds : List PyData} (h : RpAll H vs ds) : RpAll H' vs ds := RpAll.ex (Ex.of s) ds vs h
theorem RpAll.snoc {H : Hp} : ∀ {vs : List V} {ds : List PyData} {v : V} {d : PyData}, RpAll H vs ds → Rp H v d → RpAll H (vs ++ [v]) (ds ++ [d])
  | _, _, _, _, .nil, h => .cons h .nil
  | _, _, _, _, .cons a b, h => .cons a (RpAll.snoc b h)
theorem cut_last (xs : List V) : cutV xs none (some (-1)) = xs.take (xs.length - 1) := by
  unfold cutV
  have e0 : HT.sIx xs.length 0 none = 0 := rfl
  have e1 : HT.sIx xs.length xs.length (some (-1)) = xs.length - 1 := by
    show (if (-1 : Int) < 0 then ((-1 : Int) + (xs.length : Int)).toNat else min (-1 : Int).toNat xs.length) = _
    rw [if_pos (by decide)]
    omega
  rw [e0, e1, List.drop_zero, Nat.sub_zero]
end CL
set_option Elab.async false
set_option linter.all false
set_option maxRecDepth 100000
set_option maxHeartbeats 4000000
namespace CL
open PySem PySem.Spec PyProof.Rows L2 GE
abbrev sBag : Stmt := topS 21
abbrev sStir : Stmt := topS 22
abbrev sDraw : Stmt := topS 23
theorem scBag : FnScope ["script", "total", "cell"] ["script"] (defScope sBag) := ⟨rfl, rfl, rfl, by decide +kernel, rfl, by decide +kernel, by decide +kernel⟩
theorem scStir : FnScope ["number", "place", "one", "two"] ["number", "place"] (defScope sStir) := ⟨rfl, rfl, rfl, by decide +kernel, rfl, by decide +kernel, by decide +kernel⟩
theorem scDraw : FnScope ["bag", "many", "cell", "found"] ["bag", "many"] (defScope sDraw) := ⟨rfl, rfl, rfl, by decide +kernel, rfl, by decide +kernel, by decide +kernel⟩
abbrev MSP : Int := 2305843009213693951
theorem t64 : (2 : Int) ^ 64 = 18446744073709551616 := by decide +kernel
abbrev M60 : Nat := 1000000000000000000
/-- a bag's place, and its cells' -/
structure Bg where
  a : Addr
  c : Addr
/-- the bag: the cells, which is next, what is left of one, how many draws (n at most), a number mixed -/
structure BagAt (n : Nat) (H : Hp) (r : Bg) : Prop where
  ex : ∃ (ns : List Int) (i : Nat) (b k t : Int), H r.a = some (.lst [.ref r.c, .int i, .int b, .int k, .int t]) ∧ H r.c = some (.lst (ns.map V.int)) ∧ i ≤ ns.length ∧ 0 ≤ b ∧ 0 ≤ k ∧ k ≤ n ∧ 0 ≤ t ∧ t < MSP
/-- all but the bag stays -/
structure Mv (r : Bg) (H H' : Hp) : Prop where
  keep : ∀ b o, b ≠ r.a → H b = some o → H' b = some o
theorem Mv.refl (r : Bg) (H : Hp) : Mv r H H := ⟨fun _ _ _ h => h⟩
theorem Mv.of {r : Bg} {H H' : Hp} (s : Same H H') : Mv r H H' := ⟨fun b o _ h => s b o h⟩
theorem Mv.trans {r : Bg} {H H1 H2 : Hp} (a : Mv r H H1) (b : Mv r H1 H2) : Mv r H H2 := ⟨fun c o n h => b.keep c o n (a.keep c o n h)⟩
theorem Mv.upd {r : Bg} {p : Addr} {H H' : Hp} {o : HO} (m : Mv r H H') (hn : H p = none) : Mv r H (upd H' p o) := ⟨fun b x nb e => by
  rw [upd_ne (ne_of_none e hn)]
  exact m.keep b x nb e⟩
theorem BagAt.mono {n m : Nat} {H : Hp} {r : Bg} (h : BagAt n H r) (l : n ≤ m) : BagAt m H r := by
  obtain ⟨ns, i, b, k, t, er, ec, hi, hb, hk, hn, ht⟩ := h
  exact ⟨ns, i, b, k, t, er, ec, hi, hb, hk, by omega, ht⟩
theorem BagAt.same {n : Nat} {r : Bg} {H H' : Hp} (s : Same H H') (hr : BagAt n H r) : BagAt n H' r := by
  obtain ⟨ns, i, b, k, t, er, ec, h⟩ := hr
  exact ⟨ns, i, b, k, t, s _ _ er, s _ _ ec, h⟩
theorem BagAt.some {n : Nat} {r : Bg} {H : Hp} (hr : BagAt n H r) : H r.a ≠ none := by
  obtain ⟨ns, i, b, k, t, er, h⟩ := hr
  rw [er]
  exact nofun
theorem BagAt.someC {n : Nat} {r : Bg} {H : Hp} (hr : BagAt n H r) : H r.c ≠ none := by
  obtain ⟨ns, i, b, k, t, er, ec, h⟩ := hr
  rw [ec]
  exact nofun
/-- a place that is neither -/
structure Off (r : Bg) (p : Addr) : Prop where
  a : p ≠ r.a
  c : p ≠ r.c
theorem BagAt.new {n : Nat} {r : Bg} {p : Addr} {H : Hp} (hr : BagAt n H r) (np : H p = none) : Off r p := ⟨fun z => hr.some (by rw [← z]; exact np), fun z => hr.someC (by rw [← z]; exact np)⟩
theorem BagAt.store {n : Nat} {r : Bg} {p : Addr} {H : Hp} {o : HO} (hr : BagAt n H r) (f : Off r p) : BagAt n (upd H p o) r := by
  obtain ⟨ns, i, b, k, t, er, ec, h⟩ := hr
  exact ⟨ns, i, b, k, t, by rw [upd_ne (Ne.symm f.a)]; exact er, by rw [upd_ne (Ne.symm f.c)]; exact ec, h⟩
theorem BagAt.kx {n : Nat} {r : Bg} {H H' : Hp} (h : BagAt n H r) (e : Ex H H') : BagAt n H' r := by
  obtain ⟨ns, i, b, k, t, er, ec, h⟩ := h
  exact ⟨ns, i, b, k, t, e.lst er, e.lst ec, h⟩
theorem bag_ne {c r : Addr} {H : Hp} {ns : List Int} {vs : List V} (er : H r = some (.lst (.ref c :: vs))) (ec : H c = some (.lst (ns.map V.int))) : c ≠ r := fun z => by
  rw [z, er] at ec
  cases ns with
  | nil => simp at ec
  | cons x ns => simp at ec
theorem mem_keep {r : Bg} {b : Addr} {H H' : Hp} (m : Mv r H H') (n : b ≠ r.a) (h : H b ≠ none) : H' b ≠ none := fun z => by
  cases q : H b with
  | none => exact h q
  | some o =>
    rw [m.keep b o n q] at z
    cases z
def spStir : Sp := fun vs H Q _ => ∃ a b : Int, vs = [.int a, .int b] ∧ 0 ≤ a ∧ a < MSP ∧ 0 ≤ b ∧ b ≤ (M60 : Int) ∧ ∀ x, Q (.int x) H
def spDraw (r : Bg) : Sp := fun vs H Q _ => ∃ (m : Int) (n : Nat), vs = [.ref r.a, .int m] ∧ BagAt n H r ∧ n < M60 ∧ 1 ≤ m ∧ m < 2 ^ 140 ∧ ∀ x H', BagAt (n + 1) H' r → Mv r H H' → 0 ≤ x → x < m → Q (.int x) H'
def spBag (K : PySem.W.Frag) : Sp := fun vs H Q _ => ∃ (a : Addr) (ns : List Int), vs = [.ref a] ∧ SqL K H a (ns.map V.int) ∧ ∀ (r : Bg) H', Same H H' → H r.a = none → BagAt 0 H' r → Q (.ref r.a) H'
section
variable {P : Program} {w : World} {K : PySem.W.Frag} {mg : Str → Option Value} {base : Heap}
theorem ok_stir {f : Addr} {fd : FuncData} (F : Fun K "_law_stir" "_law_stir" sStir f fd) : FnOk P w K mg base CX0 1 f fd ["number", "place"] spStir := by
  refine F.ok scStir (fun vs H Q E ⟨a, b, e, _⟩ => by rw [e]; rfl) (fun cdv A outer s H vs Q E hr h => ?_)
  obtain ⟨a, b, rfl, a0, a1, b0, b1, q⟩ := h
  have nd := scStir.nd
  refine ⟨_, pss_cons (ps_set (i := 2) nd rfl (.inl rfl) (pe_op op_mod (pe_op op_add (pe_op op_add (pe_op op_mul (pv 0) pe_int) (pe_op op_mul (pv 1) pe_int)) pe_int) pe_int))
    (pss_cons (ps_set (i := 3) nd rfl (.inl rfl) (pe_op op_mod (pe_op op_mul (pv 2) (pv 2)) pe_int))
    (pss_one (ps_ret (pe_op op_fdiv (pe_op op_mod (pe_op op_add (pe_op op_add (pe_op op_mul (pv 3) pe_int) (pe_op op_mul (pe_op op_mul (pv 1) (pv 1)) pe_int)) (pe_op op_fdiv (pv 2) pe_int)) pe_int) pe_int)))), ?_⟩
  have a1' : a < 2305843009213693951 := a1
  have b1' : b ≤ 1000000000000000000 := b1
  refine ⟨.int a, rfl, a, 998244353, rfl, rfl, .inr ⟨by decide, by decide⟩, .int b, rfl, b, 1000000007, rfl, rfl, .inr ⟨by decide, by decide⟩, _, _, rfl, rfl, _, 5, rfl, rfl, _, _, rfl, rfl, (by show (0 : Int) < 2305843009213693951; decide), ?_⟩
  show tSeq _ _ _ [some (.int a), some (.int b), some (.int ((a * 998244353 + b * 1000000007 + 5) % 2305843009213693951)), none] H
  generalize hz : (a * 998244353 + b * 1000000007 + 5) % 2305843009213693951 = z
  have z0 : 0 ≤ z := by rw [← hz]; exact Int.emod_nonneg _ (by decide)
  have z1 : z < 2305843009213693951 := by rw [← hz]; exact Int.emod_lt_of_pos _ (by decide)
  refine ⟨.int z, rfl, .int z, rfl, z, z, rfl, rfl, .inl ⟨by rw [t64]; omega, by rw [t64]; omega⟩, _, _, rfl, rfl, (by show (0 : Int) < 2305843009213693951; decide), ?_⟩
  refine ⟨.int (z * z % 2305843009213693951), rfl, z * z % 2305843009213693951, 2860486313, rfl, rfl, .inr ⟨by decide, by decide⟩, .int b, rfl, .int b, rfl, b, b, rfl, rfl, .inl ⟨by rw [t64]; omega, by rw [t64]; omega⟩, _, 48271, rfl, rfl, .inr ⟨by decide, by decide⟩, _, _, rfl, rfl, .int z, rfl, z, 3, rfl, rfl, ⟨by decide, by decide⟩, _, _, rfl, rfl, _, _, rfl, rfl, (by show (0 : Int) < 2305843009213693921; decide), _, _, rfl, rfl, ⟨by decide, by decide⟩, ?_⟩
  exact q _
theorem ok_draw {f : Addr} {r : Bg} {fd : FuncData} (F : Fun K "_law_draw" "_law_draw" sDraw f fd) (hlen : mg "len" = none) (CS : Cal P w K mg base 1 "_law_stir" ["number", "place"] spStir) : FnOk P w K mg base CX0 2 f fd ["bag", "many"] (spDraw r) := by
  refine F.ok scDraw (fun vs H Q E ⟨m, n, e, _⟩ => by rw [e]; rfl) (fun cdv A outer s H vs Q E hr h => ?_)
  obtain ⟨m, n, rfl, ⟨ns, i, b, k, t, er, ec, hi, hb, hk, hn, ht0, ht1⟩, hn1, m1, m2, q⟩ := h
  have nd := scDraw.nd
  refine ⟨_, pss_cons (ps_if (pt_cmpR op_eq (pv 1) pe_int (nomark _)) (pss_one (ps_ret pe_int)) pss_nil)
    (pss_cons (ps_asg (pe_op op_add (pe_ix ix_list (pv 0) pe_int (fun _ _ => rfl)) pe_int) (pg_sub (pv 0) pe_int set_list))
    (pss_cons (ps_if (PW.pt (pw_and (pt_cmpR op_lt (pe_ix ix_list (pv 0) pe_int (fun _ _ => rfl)) pe_int (nomark _)) (pw_and1 (pt_cmpR op_eq (pe_ix ix_list (pv 0) pe_int (fun _ _ => rfl)) (pe_callB call_len_seq (by rfl) hlen PySem.boot_len (pa_cons (pe_ix ix_list (pv 0) pe_int (fun _ _ => rfl)) pa_nil)) (nomark _)))))
      (pss_one (ps_ret (pe_op op_mod (pe_cal CS hr (by rfl) (pa_cons (pe_ix ix_list (pv 0) pe_int (fun _ _ => rfl)) (pa_cons (pe_ix ix_list (pv 0) pe_int (fun _ _ => rfl)) pa_nil))) (pv 1)))) pss_nil)
    (pss_cons (ps_if (pt_cmpR op_lt (pe_ix ix_list (pv 0) pe_int (fun _ _ => rfl)) pe_int (nomark _))
      (pss_cons (ps_set (i := 2) nd rfl (.inl rfl) (pe_ix ix_list (pe_ix ix_list (pv 0) pe_int (fun _ _ => rfl)) (pe_ix ix_list (pv 0) pe_int (fun _ _ => rfl)) (fun _ _ => rfl)))
      (pss_cons (ps_asg (pe_op op_add (pe_ix ix_list (pv 0) pe_int (fun _ _ => rfl)) pe_int) (pg_sub (pv 0) pe_int set_list))
      (pss_cons (ps_if (pt_cmpR op_lt (pv 2) (pe_op op_pow pe_int pe_int) (nomark _)) (pss_one (ps_ret (pe_op op_mod (pe_cal CS hr (by rfl) (pa_cons (pe_op op_mod (pv 2) pe_int) (pa_cons (pe_ix ix_list (pv 0) pe_int (fun _ _ => rfl)) pa_nil))) (pv 1)))) pss_nil)
      (pss_one (ps_asg (pe_op op_sub (pv 2) (pe_op op_pow pe_int pe_int)) (pg_sub (pv 0) pe_int set_list)))))) pss_nil)
    (pss_cons (ps_set (i := 3) nd rfl (.inl rfl) (pe_op op_mod (pe_ix ix_list (pv 0) pe_int (fun _ _ => rfl)) (pv 1)))
    (pss_cons (ps_asg (pe_op op_fdivW (pe_ix ix_list (pv 0) pe_int (fun _ _ => rfl)) (pv 1)) (pg_sub (pv 0) pe_int set_list))
    (pss_one (ps_ret (pv 3)))))))), ?_⟩
  have hcr := bag_ne er ec
  have mdiv : ∀ f : Int, CDivW f m := fun f => wide_div (b := 140) (by omega) (by omega) (by decide) (by decide)
  have mp : (0 : Int) < m := by omega
  refine ⟨.int m, rfl, rfl, _, rfl, ite2 (fun e => ?_) (fun _ => ?_)⟩
  · exact q 0 H (BagAt.mono (n := n) ⟨ns, i, b, k, t, er, ec, hi, hb, hk, hn, ht0, ht1⟩ (Nat.le_succ n)) (Mv.refl r H) (Int.le_refl 0) mp
  -- the counter
  refine ⟨.ref r.a, rfl, r.a, _, 3, .int k, rfl, rfl, SqL.of er, atI_nat (j := 3) rfl, k, 1, rfl, rfl, .ref r.a, rfl, r.a, _, 3, 3, rfl, rfl, er, rfl, ?_⟩
  show tSeq _ _ _ _ (upd H r.a (.lst [.ref r.c, .int i, .int b, .int (k + 1), .int t]))
  have m1' : Mv r H (upd H r.a (.lst [.ref r.c, .int i, .int b, .int (k + 1), .int t])) := ⟨fun b o nb e => by rw [upd_ne nb]; exact e⟩
  have er1 : (upd H r.a (.lst [.ref r.c, .int i, .int b, .int (k + 1), .int t])) r.a = some (.lst [.ref r.c, .int i, .int b, .int (k + 1), .int t]) := upd_same
  generalize upd H r.a (.lst [.ref r.c, .int i, .int b, .int (k + 1), .int t]) = H1 at m1' er1
  have ec1 := m1'.keep r.c _ hcr ec
  have fin1 : ∀ x : Int, Q (.int (x % m)) H1 := fun x => q _ H1 ⟨ns, i, b, k + 1, t, er1, ec1, hi, hb, by omega, by omega, ht0, ht1⟩ m1' (Int.emod_nonneg _ (by omega)) (Int.emod_lt_of_pos _ mp)
  have last : ∀ (H2 : Hp) (i2 : Nat) (b2 : Int) (y : Option V), Mv r H H2 → H2 r.a = some (.lst [.ref r.c, .int i2, .int b2, .int (k + 1), .int t]) → i2 ≤ ns.length → 0 ≤ b2 → ∀ x : Int, x = b2 % m → Q (.int x) (upd H2 r.a (.lst [.ref r.c, .int i2, .int (b2 / m), .int (k + 1), .int t])) := fun H2 i2 b2 y mv e2 hi2 hb2 x hx => by
    rw [hx]
    exact q _ _ ⟨ns, i2, b2 / m, k + 1, t, upd_same, by rw [upd_ne hcr]; exact mv.keep r.c _ hcr ec, hi2, Int.ediv_nonneg hb2 (by omega), by omega, by omega, ht0, ht1⟩ ⟨fun b o nb e => by rw [upd_ne nb]; exact mv.keep b o nb e⟩ (Int.emod_nonneg _ (by omega)) (Int.emod_lt_of_pos _ mp)
  refine ⟨.ref r.a, rfl, r.a, _, 2, .int b, rfl, rfl, SqL.of er1, atI_nat (j := 2) rfl, b, 2, rfl, rfl, decide (b < 2), rfl, ?_⟩
  by_cases hb2 : b < 2
  · rw [decide_eq_true hb2]
    refine iteT ⟨.ref r.a, rfl, r.a, _, 1, .int i, rfl, rfl, SqL.of er1, atI_nat (j := 1) rfl, .ref r.a, rfl, r.a, _, 0, .ref r.c, rfl, rfl, SqL.of er1, atI_nat (j := 0) rfl, r.c, _, rfl, .inl (SqL.of ec1), rfl, _, rfl, ite2 (fun e => ?_) (fun e => ?_)⟩
    · refine ⟨.ref r.a, rfl, r.a, _, 4, .int t, rfl, rfl, SqL.of er1, atI_nat (j := 4) rfl, .ref r.a, rfl, r.a, _, 3, .int (k + 1), rfl, rfl, SqL.of er1, atI_nat (j := 3) rfl, t, k + 1, rfl, ht0, ht1, by omega, by omega, fun x => ?_⟩
      exact ⟨.int m, rfl, x, m, rfl, rfl, mp, fin1 x⟩
    · have hi2 : i < ns.length := by
        rcases Nat.lt_or_ge i ns.length with z | z
        · exact z
        · refine absurd ?_ e
          have : i = ns.length := by omega
          rw [this, List.length_map]
          exact decide_eq_true rfl
      refine ⟨.ref r.a, rfl, r.a, _, 2, .int b, rfl, rfl, SqL.of er1, atI_nat (j := 2) rfl, b, 2, rfl, rfl, decide (b < 2), rfl, ?_⟩
      rw [decide_eq_true hb2]
      refine iteT ?_
      refine ⟨.ref r.a, rfl, r.a, _, 0, .ref r.c, rfl, rfl, SqL.of er1, atI_nat (j := 0) rfl, .ref r.a, rfl, r.a, _, 1, .int i, rfl, rfl, SqL.of er1, atI_nat (j := 1) rfl, r.c, _, i, .int ns[i], rfl, rfl, SqL.of ec1, atI_nat (j := i) (by rw [List.getElem?_map, List.getElem?_eq_getElem hi2]; rfl), ?_⟩
      refine ⟨.ref r.a, rfl, r.a, _, 1, .int i, rfl, rfl, SqL.of er1, atI_nat (j := 1) rfl, i, 1, rfl, rfl, .ref r.a, rfl, r.a, _, 1, 1, rfl, rfl, er1, rfl, ?_⟩
      show tSeq _ _ _ _ (upd H1 r.a (.lst [.ref r.c, .int (i + 1 : Int), .int b, .int (k + 1), .int t]))
      have m2' : Mv r H (upd H1 r.a (.lst [.ref r.c, .int (i + 1 : Int), .int b, .int (k + 1), .int t])) := ⟨fun b o nb e => by rw [upd_ne nb]; exact m1'.keep b o nb e⟩
      have er2 : (upd H1 r.a (.lst [.ref r.c, .int (i + 1 : Int), .int b, .int (k + 1), .int t])) r.a = some (.lst [.ref r.c, .int ((i + 1 : Nat) : Int), .int b, .int (k + 1), .int t]) := by rw [upd_same]; rfl
      generalize upd H1 r.a (.lst [.ref r.c, .int (i + 1 : Int), .int b, .int (k + 1), .int t]) = H2 at m2' er2
      generalize hcell : ns[i] = cell
      have ec2 := m2'.keep r.c _ hcr ec
      refine ⟨.int cell, rfl, 10, 18, rfl, rfl, ⟨by decide, by decide, by decide⟩, cell, _, rfl, rfl, _, rfl, ?_⟩
      rw [show (10 : Int) ^ (18 : Int).toNat = 1000000000000000000 from p18]
      refine ite2 (fun e1 => ?_) (fun e1 => ?_)
      · refine ⟨.int cell, rfl, cell, 2305843009213693951, rfl, rfl, (by show (0 : Int) < 2305843009213693951; decide), .ref r.a, rfl, r.a, _, 3, .int (k + 1), rfl, rfl, SqL.of er2, atI_nat (j := 3) rfl, cell % 2305843009213693951, k + 1, rfl, Int.emod_nonneg _ (by decide), Int.emod_lt_of_pos _ (by decide), by omega, by omega, fun x => ?_⟩
        exact ⟨.int m, rfl, x, m, rfl, rfl, mp, q _ H2 ⟨ns, i + 1, b, k + 1, t, er2, ec2, hi2, hb, by omega, by omega, ht0, ht1⟩ m2' (Int.emod_nonneg _ (by omega)) (Int.emod_lt_of_pos _ mp)⟩
      · have hc18 : 1000000000000000000 ≤ cell := by
          rcases Int.lt_or_le cell 1000000000000000000 with z | z
          · exact absurd (decide_eq_true z) e1
          · exact z
        refine ⟨.int cell, rfl, 10, 18, rfl, rfl, ⟨by decide, by decide, by decide⟩, cell, _, rfl, rfl, .ref r.a, rfl, r.a, _, 2, 2, rfl, rfl, er2, rfl, ?_⟩
        show tSeq _ _ _ _ (upd H2 r.a (.lst [.ref r.c, .int ((i + 1 : Nat) : Int), .int (cell - (10 : Int) ^ (18 : Int).toNat), .int (k + 1), .int t]))
        rw [show (10 : Int) ^ (18 : Int).toNat = 1000000000000000000 from p18]
        have m3' : Mv r H (upd H2 r.a (.lst [.ref r.c, .int ((i + 1 : Nat) : Int), .int (cell - 1000000000000000000), .int (k + 1), .int t])) := ⟨fun b o nb e => by rw [upd_ne nb]; exact m2'.keep b o nb e⟩
        have er3 : (upd H2 r.a (.lst [.ref r.c, .int ((i + 1 : Nat) : Int), .int (cell - 1000000000000000000), .int (k + 1), .int t])) r.a = some (.lst [.ref r.c, .int ((i + 1 : Nat) : Int), .int (cell - 1000000000000000000), .int (k + 1), .int t]) := upd_same
        have hb3 : 0 ≤ cell - 1000000000000000000 := by omega
        generalize cell - 1000000000000000000 = b2 at m3' er3 hb3
        generalize upd H2 r.a (.lst [.ref r.c, .int ((i + 1 : Nat) : Int), .int b2, .int (k + 1), .int t]) = H3 at m3' er3
        exact ⟨.ref r.a, rfl, r.a, _, 2, .int b2, rfl, rfl, SqL.of er3, atI_nat (j := 2) rfl, .int m, rfl, b2, m, rfl, rfl, mp, .ref r.a, rfl, r.a, _, 2, .int b2, rfl, rfl, SqL.of er3, atI_nat (j := 2) rfl, .int m, rfl, b2, m, rfl, rfl, mdiv b2, .ref r.a, rfl, r.a, _, 2, 2, rfl, rfl, er3, rfl, .int (b2 % m), rfl, last H3 (i + 1) b2 none m3' er3 hi2 hb3 _ rfl⟩
  · rw [decide_eq_false hb2]
    refine iteF ⟨.ref r.a, rfl, r.a, _, 2, .int b, rfl, rfl, SqL.of er1, atI_nat (j := 2) rfl, b, 2, rfl, rfl, decide (b < 2), rfl, ?_⟩
    rw [decide_eq_false hb2]
    exact iteF ⟨.ref r.a, rfl, r.a, _, 2, .int b, rfl, rfl, SqL.of er1, atI_nat (j := 2) rfl, .int m, rfl, b, m, rfl, rfl, mp, .ref r.a, rfl, r.a, _, 2, .int b, rfl, rfl, SqL.of er1, atI_nat (j := 2) rfl, .int m, rfl, b, m, rfl, rfl, mdiv b, .ref r.a, rfl, r.a, _, 2, 2, rfl, rfl, er1, rfl, .int (b % m), rfl, last H1 i b none m1' er1 hi hb _ rfl⟩
theorem ok_bag {f : Addr} {fd : FuncData} (F : Fun K "_law_bag" "_law_bag" sBag f fd) (hlist : mg "list" = none) : FnOk P w K mg base CX0 1 f fd ["script"] (spBag K) := by
  refine F.ok scBag (fun vs H Q E ⟨a, ns, e, _⟩ => by rw [e]; rfl) (fun cdv A outer s H vs Q E hr h => ?_)
  obtain ⟨a, ns, rfl, hS, q⟩ := h
  have nd := scBag.nd
  refine ⟨_, pss_cons (ps_set (i := 1) nd rfl (.inl rfl) pe_int)
    (pss_cons (ps_for PassesOwn.never rfl (pi_list (pv 0)) (pg_name (i := 2) nd rfl (.inl rfl))
      (pss_one (ps_set (i := 1) nd rfl (.inl rfl) (pe_op op_mod (pe_op op_add (pe_op op_add (pe_op op_mul (pv 1) pe_int) (pe_op op_mod (pv 2) pe_int)) pe_int) pe_int))))
    (pss_one (ps_ret (pe_lst (pa_cons (pe_callTy call_list_of (by rfl) hlist (by decide +kernel) (pa_cons (pv 0) pa_nil)) (pa_cons pe_int (pa_cons pe_int (pa_cons pe_int (pa_cons (pv 1) pa_nil))))))))), ?_⟩
  refine ⟨.ref a, rfl, a, rfl, ⟨_, hS⟩, for_list (xs := ns.map V.int) (fun i σ H2 => H2 = H ∧ ∃ t y2, σ = [some (.ref a), some (.int t), y2] ∧ 0 ≤ t ∧ t < MSP) ⟨rfl, 1, none, rfl, by decide, by decide⟩
    (fun i σ H2 _ ⟨e, _⟩ => by rw [e]; exact hS) (fun i x σ H2 hx ⟨e, t, y2, es, t0, t1⟩ => ?_) (fun σ H2 ⟨e, t, y2, es, t0, t1⟩ => ?_)⟩
  · subst e es
    obtain ⟨c, rfl⟩ : ∃ c, x = .int c := by
      rw [List.getElem?_map] at hx
      cases q : ns[i]? with
      | none => rw [q] at hx; cases hx
      | some c => rw [q] at hx; cases hx; exact ⟨c, rfl⟩
    exact ⟨.int t, rfl, t, 1000003, rfl, rfl, .inr ⟨by decide, by decide⟩, .int c, rfl, c, _, rfl, rfl, (by show (0 : Int) < 2305843009213693951; decide), _, _, rfl, rfl, _, 1, rfl, rfl, _, _, rfl, rfl, (by show (0 : Int) < 2305843009213693951; decide), rfl, _, some (.int c), rfl, Int.emod_nonneg _ (by decide), Int.emod_lt_of_pos _ (by decide)⟩
  · subst e es
    refine ⟨.ref a, rfl, a, _, rfl, .inl hS, fun l nl => ⟨.int t, rfl, small_le (by show 5 ≤ 1000; decide), fun r nr => ?_⟩⟩
    have s1 : Same H2 (upd H2 l (.lst (ns.map V.int))) := same_upd nl
    have lr : l ≠ r := fun z => by rw [← z, upd_same] at nr; cases nr
    exact q ⟨r, l⟩ _ (s1.trans (same_upd nr)) (s1.free nr) ⟨ns, 0, 0, 0, t, upd_same, by rw [upd_ne lr]; exact upd_same, Nat.zero_le _, Int.le_refl 0, Int.le_refl 0, Int.le_refl 0, t0, t1⟩
end
end CL
set_option Elab.async false
set_option linter.all false
set_option maxRecDepth 100000
set_option maxHeartbeats 4000000
namespace CL
open PySem PySem.Spec PyProof.Rows L2 GE
/-! ### who comes goes past all that let it -/
def goes : Nat → List (Option Int) → Nat × List (Option Int)
  | 0, l => (0, l)
  | p + 1, l => match l[p]? with
    | some (some k) => if k = 0 then (p + 1, l) else goes p (l.set p (some (k - 1)))
    | some none => goes p l
    | none => (p + 1, l)
theorem goes_le : ∀ (p : Nat) (l : List (Option Int)), (goes p l).1 ≤ p ∧ (goes p l).2.length = l.length
  | 0, l => ⟨Nat.le_refl 0, rfl⟩
  | p + 1, l => by
    unfold goes
    split
    · split
      · exact ⟨Nat.le_refl _, rfl⟩
      · have h := goes_le p (l.set p (some (‹Int› - 1)))
        exact ⟨Nat.le_succ_of_le h.1, by rw [h.2, List.length_set]⟩
    · have h := goes_le p l
      exact ⟨Nat.le_succ_of_le h.1, h.2⟩
    · exact ⟨Nat.le_refl _, rfl⟩
theorem goes_zero : ∀ (p : Nat) (l : List (Option Int)) (j : Nat), l[j]? = some (some 0) → (goes p l).2[j]? = some (some 0)
  | 0, l, j, h => h
  | p + 1, l, j, h => by
    unfold goes
    split
    · rename_i k hk
      split
      · exact h
      · rename_i k0
        refine goes_zero p _ j ?_
        rw [List.getElem?_set, if_neg (fun z => ?_)]
        · exact h
        · rw [z, h] at hk
          cases hk
          exact k0 rfl
    · exact goes_zero p l j h
    · exact h
/-- where a nought stands behind, or at, the last of the first g: these are let be -/
theorem goes_drop (g : Nat) : ∀ (p : Nat) (l : List (Option Int)), g + p ≤ l.length → (∃ j, g ≤ j + 1 ∧ j < g + p ∧ l[j]? = some (some 0)) →
    goes p (l.drop g) = ((goes (g + p) l).1 - g, (goes (g + p) l).2.drop g) ∧ g ≤ (goes (g + p) l).1 ∧ (goes (g + p) l).2.take g = l.take g
  | 0, l, hl, ⟨j, h1, h2, h3⟩ => by
    obtain ⟨g', rfl⟩ : ∃ g', g = g' + 1 := ⟨g - 1, by omega⟩
    obtain rfl : j = g' := by omega
    have e : goes (j + 1 + 0) l = (j + 1, l) := by
      show goes (j + 1) l = _
      unfold goes
      rw [h3]
      rfl
    rw [e]
    exact ⟨by simp [goes], Nat.le_refl _, rfl⟩
  | p + 1, l, hl, ⟨j, h1, h2, h3⟩ => by
    have hlt : g + p < l.length := by omega
    have ed : (l.drop g)[p]? = l[g + p]? := List.getElem?_drop
    have es : goes (g + (p + 1)) l = goes (g + p + 1) l := rfl
    rw [es]
    conv => lhs; lhs; unfold goes
    rw [ed]
    have eu : goes (g + p + 1) l = match l[g + p]? with
      | some (some k) => if k = 0 then (g + p + 1, l) else goes (g + p) (l.set (g + p) (some (k - 1)))
      | some none => goes (g + p) l
      | none => (g + p + 1, l) := by conv => lhs; unfold goes
    rw [eu]
    cases q : l[g + p]? with
    | none => rw [List.getElem?_eq_getElem hlt] at q; cases q
    | some o =>
      cases o with
      | none =>
        refine goes_drop g p l (by omega) ⟨j, h1, ?_, h3⟩
        rcases Nat.lt_or_ge j (g + p) with z | z
        · exact z
        · obtain rfl : j = g + p := by omega
          rw [q] at h3; cases h3
      | some k =>
        dsimp only
        by_cases hk : k = 0
        · rw [if_pos hk, if_pos hk]
          exact ⟨by congr 1; show p + 1 = g + p + 1 - g; omega, by show g ≤ g + p + 1; omega, rfl⟩
        · rw [if_neg hk, if_neg hk]
          have hj : j ≠ g + p := fun z => by rw [z, q] at h3; cases h3; exact hk rfl
          obtain ⟨i1, i2, i3⟩ := goes_drop g p (l.set (g + p) (some (k - 1))) (by rw [List.length_set]; omega) ⟨j, h1, by omega, by rw [List.getElem?_set, if_neg (Ne.symm hj)]; exact h3⟩
          have e2 : (l.drop g).set p (some (k - 1)) = (l.set (g + p) (some (k - 1))).drop g := by
            rw [List.drop_set]
            rw [if_neg (by omega)]
            congr 1
            omega
          rw [e2]
          refine ⟨i1, i2, ?_⟩
          rw [i3, List.take_set_of_le (by omega)]
/-! ### a line's state -/
inductive Deed where
  | come (p : Option Int)
  | serve
structure LS where
  xs : List Nat
  rs : List (Option Int)
  ps : List Nat
  sv : List (Nat × Option Int)
  ds : List Deed
def LS.nil : LS := ⟨[], [], [], [], []⟩
def bump (ps : List Nat) : List Nat → List Nat
  | [] => ps
  | y :: ys => bump (ps.set y (ps.getD y 0 + 1)) ys
theorem bump_len : ∀ (ys ps : List Nat), (bump ps ys).length = ps.length
  | [], _ => rfl
  | y :: ys, ps => by
    unfold bump
    rw [bump_len ys, List.length_set]
abbrev LS.k (s : LS) : Nat := (goes s.rs.length s.rs).1
def comeS (s : LS) (p : Option Int) : LS :=
  ⟨s.xs.take s.k ++ s.ps.length :: s.xs.drop s.k, (goes s.rs.length s.rs).2.take s.k ++ p :: (goes s.rs.length s.rs).2.drop s.k, bump s.ps (s.xs.drop s.k) ++ [0], s.sv, s.ds ++ [.come p]⟩
def serveS (s : LS) (x : Nat) (r : Option Int) : LS := ⟨s.xs.tail, s.rs.tail, s.ps, s.sv ++ [(x, r)], s.ds ++ [.serve]⟩
structure LS.Ok (s : LS) : Prop where
  len : s.xs.length = s.rs.length
  lt : ∀ x ∈ s.xs, x < s.ps.length
  tot : s.xs.length + s.sv.length = s.ps.length
  dl : s.ds.length = s.ps.length + s.sv.length
theorem nil_ok : LS.nil.Ok := ⟨rfl, (fun x h => nomatch h), rfl, rfl⟩
theorem LS.Ok.come {s : LS} (h : s.Ok) (p : Option Int) : (comeS s p).Ok := by
  obtain ⟨g1, g2⟩ := goes_le s.rs.length s.rs
  have hl := h.len
  have hps : (comeS s p).ps.length = s.ps.length + 1 := by
    show (bump _ _ ++ [0]).length = _
    rw [List.length_append, bump_len]; rfl
  have hxs : (comeS s p).xs.length = s.xs.length + 1 := by
    show (_ ++ _ :: _).length = _
    rw [List.length_append, List.length_cons, List.length_take, List.length_drop]
    omega
  refine ⟨?_, fun x hx => ?_, ?_, ?_⟩
  · rw [hxs]
    show _ = (_ ++ _ :: _).length
    rw [List.length_append, List.length_cons, List.length_take, List.length_drop, g2]
    omega
  · rw [hps]
    rcases List.mem_append.mp (show x ∈ s.xs.take s.k ++ s.ps.length :: s.xs.drop s.k from hx) with z | z
    · exact Nat.lt_succ_of_lt (h.lt x (List.mem_of_mem_take z))
    · rcases List.mem_cons.mp z with z | z
      · rw [z]; exact Nat.lt_succ_self _
      · exact Nat.lt_succ_of_lt (h.lt x (List.mem_of_mem_drop z))
  · rw [hxs, hps]
    have := h.tot
    show s.xs.length + 1 + s.sv.length = _
    omega
  · rw [hps]
    show (s.ds ++ [_]).length = s.ps.length + 1 + s.sv.length
    rw [List.length_append, h.dl, List.length_singleton]
    omega
theorem LS.Ok.serve {s : LS} (h : s.Ok) {x : Nat} {r : Option Int} {xs : List Nat} (e : s.xs = x :: xs) : (serveS s x r).Ok := by
  have hl := h.len
  refine ⟨?_, fun y hy => h.lt y (List.mem_of_mem_tail (show y ∈ s.xs.tail from hy)), ?_, ?_⟩
  · show s.xs.tail.length = s.rs.tail.length
    rw [List.length_tail, List.length_tail, hl]
  · show s.xs.tail.length + (s.sv ++ [_]).length = s.ps.length
    have := h.tot
    rw [List.length_append, List.length_singleton, List.length_tail, e, List.length_cons] at *
    omega
  · show (s.ds ++ [_]).length = s.ps.length + (s.sv ++ [_]).length
    rw [List.length_append, List.length_append, h.dl, List.length_singleton, List.length_singleton]
    omega
/-! ### the one line serves its front where that is safe -/
structure Beh (g : Nat) (s t : LS) : Prop where
  xs : s.xs = t.xs.drop g
  rs : s.rs = t.rs.drop g
  ps : s.ps = t.ps
  le : g ≤ t.xs.length
  zero : g = 0 ∨ ∃ j, g ≤ j + 1 ∧ t.rs[j]? = some (some 0)
theorem Beh.goes {g : Nat} {s t : LS} (b : Beh g s t) (ht : t.Ok) : CL.goes s.rs.length s.rs = ((CL.goes t.rs.length t.rs).1 - g, (CL.goes t.rs.length t.rs).2.drop g) ∧ g ≤ (CL.goes t.rs.length t.rs).1 ∧ (CL.goes t.rs.length t.rs).2.take g = t.rs.take g := by
  have hl := ht.len
  have hg := b.le
  rw [b.rs]
  rcases b.zero with z | ⟨j, h1, h2⟩
  · subst z
    exact ⟨by simp, Nat.zero_le _, rfl⟩
  · have hj := (List.getElem?_eq_some_iff.mp h2).1
    have h := goes_drop g (t.rs.length - g) t.rs (by omega) ⟨j, h1, by omega, h2⟩
    have e : g + (t.rs.length - g) = t.rs.length := by omega
    rw [e] at h
    rw [List.length_drop]
    exact h
theorem drop_take_cons {α : Type} (l : List α) (a : α) (g k : Nat) (h : g ≤ k) (hk : k ≤ l.length) : (l.take k ++ a :: l.drop k).drop g = (l.drop g).take (k - g) ++ a :: (l.drop g).drop (k - g) := by
  rw [List.drop_append_of_le_length (by rw [List.length_take]; omega), List.drop_take, List.drop_drop]
  congr 3
  omega
theorem take_take_cons {α : Type} (l : List α) (a : α) (g k : Nat) (h : g ≤ k) (hk : k ≤ l.length) : (l.take k ++ a :: l.drop k).take g = l.take g := by
  rw [List.take_append_of_le_length (by rw [List.length_take]; omega), List.take_take, Nat.min_eq_left h]
theorem Beh.come {g : Nat} {s t : LS} (b : Beh g s t) (ht : t.Ok) (p : Option Int) : Beh g (comeS s p) (comeS t p) ∧ (comeS t p).xs.take g = t.xs.take g := by
  obtain ⟨h1, h2, h3⟩ := b.goes ht
  obtain ⟨k1, k2⟩ := goes_le t.rs.length t.rs
  have hl := ht.len
  have hk : s.k = t.k - g := by show (CL.goes s.rs.length s.rs).1 = _; rw [h1]
  have hr : (CL.goes s.rs.length s.rs).2 = (CL.goes t.rs.length t.rs).2.drop g := by rw [h1]
  have hx : (s.xs.drop s.k) = t.xs.drop t.k := by
    rw [hk, b.xs, List.drop_drop]
    congr 1
    show g + ((CL.goes t.rs.length t.rs).1 - g) = (CL.goes t.rs.length t.rs).1
    omega
  refine ⟨⟨?_, ?_, ?_, ?_, ?_⟩, take_take_cons _ _ _ _ h2 (by show (CL.goes t.rs.length t.rs).1 ≤ _; omega)⟩
  · show s.xs.take s.k ++ s.ps.length :: s.xs.drop s.k = (t.xs.take t.k ++ t.ps.length :: t.xs.drop t.k).drop g
    rw [drop_take_cons _ _ _ _ h2 (by show (CL.goes t.rs.length t.rs).1 ≤ _; omega), hk, b.xs, b.ps]
  · show (CL.goes s.rs.length s.rs).2.take s.k ++ p :: (CL.goes s.rs.length s.rs).2.drop s.k = ((CL.goes t.rs.length t.rs).2.take t.k ++ p :: (CL.goes t.rs.length t.rs).2.drop t.k).drop g
    rw [drop_take_cons _ _ _ _ h2 (by show (CL.goes t.rs.length t.rs).1 ≤ _; omega), hk, hr]
  · show bump s.ps (s.xs.drop s.k) ++ [0] = bump t.ps (t.xs.drop t.k) ++ [0]
    rw [hx, b.ps]
  · show g ≤ (_ ++ _ :: _).length
    have := b.le
    rw [List.length_append, List.length_cons, List.length_take, List.length_drop]
    omega
  · rcases b.zero with z | ⟨j, j1, j2⟩
    · exact .inl z
    · refine .inr ?_
      have hz := goes_zero t.rs.length t.rs j j2
      have hkk : t.k = (CL.goes t.rs.length t.rs).1 := rfl
      by_cases hj : j < t.k
      · refine ⟨j, j1, ?_⟩
        show (_ ++ _ :: _)[j]? = _
        rw [List.getElem?_append_left (by rw [List.length_take]; omega), List.getElem?_take, if_pos hj]
        exact hz
      · refine ⟨j + 1, by omega, ?_⟩
        show (_ ++ _ :: _)[j + 1]? = _
        rw [List.getElem?_append_right (by rw [List.length_take]; omega), List.length_take, Nat.min_eq_left (by omega)]
        have e : j + 1 - t.k = (j - t.k) + 1 := by omega
        rw [e, List.getElem?_cons_succ, List.getElem?_drop]
        rw [show t.k + (j - t.k) = j by omega]
        exact hz
theorem Beh.serve {g : Nat} {s t : LS} (b : Beh g s t) (h0 : some 0 ∈ s.rs) {x : Nat} {r : Option Int} {xs : List Nat} (e : s.xs = x :: xs) : Beh (g + 1) (serveS s x r) t ∧ t.xs.take (g + 1) = t.xs.take g ++ [x] := by
  have hx : t.xs.drop g = x :: xs := by rw [← b.xs]; exact e
  have hlt : g < t.xs.length := by
    rcases Nat.lt_or_ge g t.xs.length with z | z
    · exact z
    · rw [List.drop_of_length_le z] at hx; cases hx
  have hget : t.xs[g]? = some x := by
    have : (t.xs.drop g)[0]? = some x := by rw [hx]; rfl
    rw [List.getElem?_drop] at this
    exact this
  refine ⟨⟨?_, ?_, b.ps, hlt, .inr ?_⟩, by rw [List.take_add_one, hget]; rfl⟩
  · show s.xs.tail = _
    rw [b.xs, List.tail_drop]
  · show s.rs.tail = _
    rw [b.rs, List.tail_drop]
  · obtain ⟨j, hj⟩ := List.getElem?_of_mem h0
    rw [b.rs, List.getElem?_drop] at hj
    exact ⟨g + j, by omega, hj⟩
end CL
set_option Elab.async false
set_option linter.all false
set_option maxRecDepth 100000
set_option maxHeartbeats 4000000
namespace CL
open PySem PySem.Spec PyProof.Rows L2 GE
abbrev sLet : Stmt := topS 13
abbrev sLn : Stmt := topS 15
abbrev sInit : Stmt := inClass sLn 0
abbrev sComeM : Stmt := inClass sLn 1
abbrev sServeM : Stmt := inClass sLn 2
abbrev sQueM : Stmt := inClass sLn 5
abbrev sLeftM : Stmt := inClass sLn 6
abbrev sWentM : Stmt := inClass sLn 7
abbrev sLenM : Stmt := inClass sLn 9
theorem scLet : FnScope ["left", "place"] ["left"] (defScope sLet) := ⟨rfl, rfl, rfl, by decide +kernel, rfl, by decide +kernel, by decide +kernel⟩
theorem scInit : FnScope ["self"] ["self"] (defScope sInit) := ⟨rfl, rfl, rfl, by decide +kernel, rfl, by decide +kernel, by decide +kernel⟩
theorem scComeM : FnScope ["self", "patience", "newcomer", "place", "person"] ["self", "patience"] (defScope sComeM) := ⟨rfl, rfl, rfl, by decide +kernel, rfl, by decide +kernel, by decide +kernel⟩
theorem scServeM : FnScope ["self", "person"] ["self"] (defScope sServeM) := ⟨rfl, rfl, rfl, by decide +kernel, rfl, by decide +kernel, by decide +kernel⟩
theorem scQueM : FnScope ["self"] ["self"] (defScope sQueM) := ⟨rfl, rfl, rfl, by decide +kernel, rfl, by decide +kernel, by decide +kernel⟩
theorem scLeftM : FnScope ["self"] ["self"] (defScope sLeftM) := ⟨rfl, rfl, rfl, by decide +kernel, rfl, by decide +kernel, by decide +kernel⟩
theorem scWentM : FnScope ["self", "person"] ["self", "person"] (defScope sWentM) := ⟨rfl, rfl, rfl, by decide +kernel, rfl, by decide +kernel, by decide +kernel⟩
theorem scLenM : FnScope ["self"] ["self"] (defScope sLenM) := ⟨rfl, rfl, rfl, by decide +kernel, rfl, by decide +kernel, by decide +kernel⟩
/-! ### xs[i] -= e -/
theorem get_list {X : Cx} : PGet X (fun x y H Q => ∃ p xs, ∃ i : Nat, ∃ v, x = .ref p ∧ y = .int (i : Int) ∧ SqL X.K H p xs ∧ xs[i]? = some v ∧ Q v H) := by
  intro pins s σ H o k ov iv Q I ro ri h
  obtain ⟨p, xs, i, v, rfl, rfl, hs, hv, q⟩ := h
  cases ro
  obtain ⟨t, rfl⟩ := ri
  obtain ⟨its, r, pl, hz⟩ := I.list hs
  obtain ⟨w, ew, rw'⟩ := r.get hv
  have hn := line63
  have hl : i < xs.length := (List.getElem?_eq_some_iff.mp hv).1
  exact wpAny_getItem_list pl.isList (by omega) (by omega) (by simpa using ew) ⟨v, H, I, rw', q⟩
def optD : Option Int → PyData
  | some i => .int i
  | none => .none
def optV : Option Int → V
  | some i => .int i
  | none => .non
theorem rp_opt2 {H : Hp} : ∀ o : Option Int, Rp H (optV o) (optD o)
  | none => .non
  | some i => .int i
def spLet : Sp := fun vs H Q _ => ∃ (L : Addr) (l : List (Option Int)), vs = [.ref L] ∧ H L = some (.lst (l.map optV)) ∧ l.length ≤ 2000 ∧ ∀ H', (∀ b, b ≠ L → H' b = H b) → H' L = some (.lst ((goes l.length l).2.map optV)) → Q (.int ((goes l.length l).1 : Int)) H'
theorem optV_dp {K : PySem.W.Frag} {H : Hp} : ∀ o : Option Int, Dp K H (optV o) (optD o)
  | none => .non
  | some i => .int i
theorem optD_shaped : ∀ o : Option Int, SeqAt.shaped (optD o) = true
  | none => by decide
  | some i => by unfold SeqAt.shaped; simp [optD, PyData.canLay0, PyData.depth]
theorem optV_ne0 : ∀ o : Option Int, (!PyData.eqv (optD o) (.int 0)) = !decide (o = some 0)
  | none => by simp [optD, PyData.eqv]
  | some i => by
    by_cases h : i = 0
    · subst h; simp [optD, PyData.eqv]
    · simp [optD, PyData.eqv, h]
theorem rp_optV {H : Hp} {v : V} : ∀ {o : Option Int}, Rp H v (optD o) → v = optV o
  | none, h => by cases h; rfl
  | some i, h => by cases h; rfl
theorem ixN_nat {n j : Nat} (h : j < n) : ixN n (j : Int) = some j := by
  unfold ixN
  rw [if_pos (by omega)]
  simp [h]
section
variable {P : Program} {w : World} {K : PySem.W.Frag} {mg : Str → Option Value} {base : Heap}
theorem ok_let {f : Addr} {fd : FuncData} (F : Fun K "let_past" "let_past" sLet f fd) (T : Nm mg) : FnOk P w K mg base CX0 1 f fd ["left"] spLet := by
  refine F.ok scLet (fun vs H Q E ⟨L, l, e, _⟩ => by rw [e]; rfl) (fun cdv A outer s H vs Q E hr h => ?_)
  obtain ⟨L2, l0, rfl, eL, hl0, q⟩ := h
  have nd := scLet.nd
  refine ⟨_, (pss_cons (ps_set (i := 1) nd rfl (.inl rfl) (pe_callB call_len_seq (by rfl) T.len PySem.boot_len (pa_cons (pv 0) pa_nil)))
      (pss_cons (ps_while PassesOwn.never (PW.pt (pw_and (pt_cmpR op_gt (pv 1) pe_int (nomark _)) (pw_and1 (pt_cmpR (op_neD hr.units) (pe_ix ix_list (pv 0) (pe_op op_sub (pv 1) pe_int) (fun _ _ => rfl)) pe_int (nomark _)))))
        (pss_cons (ps_aug (i := 1) nd rfl (.inl rfl) pe_int ip_sub)
        (pss_one (ps_if (pt_cmp (pc_notN (pe_ix ix_list (pv 0) (pv 1) (fun _ _ => rfl)))) (pss_one (ps_augS (pv 0) (pv 1) get_list pe_int ip_sub set_list)) pss_nil))))
      (pss_one (ps_ret (pv 1))))), ?_⟩
  refine ⟨.ref L2, rfl, L2, _, rfl, .inl (SqL.of eL), ?_⟩
  rw [List.length_map]
  refine ⟨fun k σ H3 => ∃ l : List (Option Int), σ = [some (.ref L2), some (.int (k : Int))] ∧ (∀ b, b ≠ L2 → H3 b = H b) ∧ H3 L2 = some (.lst (l.map optV)) ∧ l.length = l0.length ∧ k ≤ l0.length ∧ goes k l = goes l0.length l0,
      ⟨l0.length, l0, rfl, fun b _ => rfl, eL, rfl, Nat.le_refl _, rfl⟩, fun k σ H3 hW => ?_⟩
  obtain ⟨l, rfl, s3, f2, hl, hk, hg⟩ := hW
  have ix : ∀ {b : Nat} {o : Option Int}, l[b]? = some o → (l.map optV)[b]? = some (optV o) := fun {b o} e => by rw [List.getElem?_map, e]; rfl
  have fin : ∀ {k : Nat}, (k, l) = goes l0.length l0 → Q (.int (k : Int)) H3 := fun {k} e => by
    have q' := q H3 s3
    rw [← e] at q'
    exact q' f2
  cases k with
  | zero =>
    refine ⟨.int ((0 : Nat) : Int), rfl, ((0 : Nat) : Int), 0, rfl, rfl, decide ((0 : Int) < ((0 : Nat) : Int)), rfl, iteF ?_⟩
    exact ⟨.int ((0 : Nat) : Int), rfl, fin hg⟩
  | succ k' =>
    have hk' : k' < l.length := by omega
    obtain ⟨o, ho⟩ : ∃ o, l[k']? = some o := ⟨_, List.getElem?_eq_getElem hk'⟩
    have hi1 : ((k' + 1 : Nat) : Int) - 1 = (k' : Int) := by omega
    refine ⟨.int ((k' + 1 : Nat) : Int), rfl, ((k' + 1 : Nat) : Int), 0, rfl, rfl, decide ((0 : Int) < ((k' + 1 : Nat) : Int)), rfl, ?_⟩
    rw [decide_eq_true (by omega : (0 : Int) < ((k' + 1 : Nat) : Int))]
    refine iteT ⟨.ref L2, rfl, .int ((k' + 1 : Nat) : Int), rfl, ((k' + 1 : Nat) : Int), 1, rfl, rfl, L2, _, ((k' + 1 : Nat) : Int) - 1, optV o, rfl, rfl, SqL.of f2, by rw [hi1]; exact atI_nat (ix ho), optD o, .int 0, optV_dp o, .int 0, optD_shaped o, optD_shaped (some 0), _, rfl, ?_⟩
    rw [optV_ne0]
    by_cases hz : o = some 0
    · rw [decide_eq_true hz]
      have hg2 : (k' + 1, l) = goes l0.length l0 := by
        rw [← hg]
        unfold goes
        rw [ho, hz]
        rfl
      exact iteF ⟨.int ((k' + 1 : Nat) : Int), rfl, fin hg2⟩
    · rw [decide_eq_false hz]
      cases o with
      | none =>
        have hg2 : goes k' l = goes l0.length l0 := by
          rw [← hg]
          conv => rhs; unfold goes
          rw [ho]
        refine iteT ⟨fun σ' H'' => σ' = [some (.ref L2), some (.int (((k' + 1 : Nat) : Int) - 1))] ∧ H'' = H3, fun σ' H'' z => ⟨k', Nat.lt_succ_self k', l, by rw [z.1, hi1], by rw [z.2]; exact s3, by rw [z.2]; exact f2, hl, by omega, hg2⟩, ?_⟩
        refine ⟨.int ((k' + 1 : Nat) : Int), rfl, ((k' + 1 : Nat) : Int), 1, rfl, rfl, .ref L2, rfl, .int (((k' + 1 : Nat) : Int) - 1), rfl, L2, _, ((k' + 1 : Nat) : Int) - 1, optV none, rfl, rfl, SqL.of f2, by rw [hi1]; exact atI_nat (ix ho), _, rfl, iteF ⟨rfl, rfl⟩⟩
      | some j =>
        have hj0 : j ≠ 0 := fun z => hz (by rw [z])
        have hg2 : goes k' (l.set k' (some (j - 1))) = goes l0.length l0 := by
          rw [← hg]
          conv => rhs; unfold goes
          rw [ho]
          exact (if_neg hj0).symm
        refine iteT ⟨fun σ' H'' => σ' = [some (.ref L2), some (.int (((k' + 1 : Nat) : Int) - 1))] ∧ H'' = upd H3 L2 (.lst ((l.set k' (some (j - 1))).map optV)), fun σ' H'' z => ⟨k', Nat.lt_succ_self k', l.set k' (some (j - 1)), by rw [z.1, hi1], by rw [z.2]; exact fun b hb => by rw [upd_ne hb]; exact s3 b hb, by rw [z.2]; exact upd_same, by rw [List.length_set]; exact hl, by omega, hg2⟩, ?_⟩
        refine ⟨.int ((k' + 1 : Nat) : Int), rfl, ((k' + 1 : Nat) : Int), 1, rfl, rfl, .ref L2, rfl, .int (((k' + 1 : Nat) : Int) - 1), rfl, L2, _, ((k' + 1 : Nat) : Int) - 1, optV (some j), rfl, rfl, SqL.of f2, by rw [hi1]; exact atI_nat (ix ho), _, rfl, iteT ?_⟩
        refine ⟨.ref L2, rfl, .int (((k' + 1 : Nat) : Int) - 1), rfl, L2, _, k', optV (some j), rfl, by rw [hi1], SqL.of f2, ix ho, j, 1, rfl, rfl, L2, _, (k' : Int), k', rfl, by rw [hi1], f2, ixN_nat (by rw [List.length_map]; exact hk'), rfl, ?_⟩
        rw [List.map_set]
        first | rfl | exact ⟨rfl, rfl⟩
end
/-- people by their numbers, as values -/
def ppl (xs : List Nat) : List V := xs.map fun x : Nat => V.int (x : Int)
theorem ppl_len (xs : List Nat) : (ppl xs).length = xs.length := List.length_map ..
theorem ppl_get {xs : List Nat} {i : Nat} (h : i < xs.length) : (ppl xs)[i]? = some (.int (xs[i] : Int)) := by
  unfold ppl
  rw [List.getElem?_map, List.getElem?_eq_getElem h]
  rfl
theorem small1000 {n : Nat} (h : n < 1000) : n < sizeLine := by
  have : 1000 ≤ sizeLine := by decide
  omega
theorem seq_nat {n j : Nat} (h : j < n) : seqIndex? (j : Int) n = some j := by
  unfold seqIndex?
  have h1 : ¬ ((j : Int) < 0) := by omega
  simp [h1, h]
theorem bump_snoc : ∀ (ys ps : List Nat) (y : Nat), bump ps (ys ++ [y]) = (bump ps ys).set y ((bump ps ys).getD y 0 + 1)
  | [], ps, y => rfl
  | x :: ys, ps, y => bump_snoc ys _ y
/-! ### the class, and a line's places -/
structure LnT (K : PySem.W.Frag) (mg : Str → Option Value) (C : Addr) : Prop where
  cl : Cls K C
  n_pe : NoAttr K C "people"
  n_re : NoAttr K C "rest"
  n_pa : NoAttr K C "past"
  n_se : NoAttr K C "served"
  n_de : NoAttr K C "deeds"
  mgC : mg "Line" = some (.ref C)
structure LnA where
  o : Addr
  pe : Addr
  re : Addr
  pa : Addr
  se : Addr
  de : Addr
def LnA.has (L : LnA) (b : Addr) : Prop := b = L.pe ∨ b = L.re ∨ b = L.pa ∨ b = L.se ∨ b = L.de
structure Flds (fs : List (Str × V)) (L : LnA) : Prop where
  pe : fs.lookup ("people" : Str) = some (V.ref L.pe)
  re : fs.lookup ("rest" : Str) = some (V.ref L.re)
  pa : fs.lookup ("past" : Str) = some (V.ref L.pa)
  se : fs.lookup ("served" : Str) = some (V.ref L.se)
  de : fs.lookup ("deeds" : Str) = some (V.ref L.de)
  no : ∀ m : Str, m ≠ "people" → m ≠ "rest" → m ≠ "past" → m ≠ "served" → m ≠ "deeds" → fs.lookup m = none
def ServV (H : Hp) (v : V) (x : Nat × Option Int) : Prop := ∃ t, v = .ref t ∧ H t = some (.tup [.int (x.1 : Int), optV x.2])
def DeedV (H : Hp) (v : V) : Deed → Prop
  | .come p => ∃ t, v = .ref t ∧ H t = some (.tup [.str "come", optV p])
  | .serve => ∃ t, v = .ref t ∧ H t = some (.tup [.str "serve"])
inductive All2 {α : Type} (R : V → α → Prop) : List V → List α → Prop
  | nil : All2 R [] []
  | cons {v : V} {x : α} {vs : List V} {xs : List α} : R v x → All2 R vs xs → All2 R (v :: vs) (x :: xs)
theorem All2.length {α : Type} {R : V → α → Prop} : ∀ {vs : List V} {xs : List α}, All2 R vs xs → vs.length = xs.length
  | _, _, .nil => rfl
  | _, _, .cons _ t => congrArg (· + 1) (All2.length t)
theorem All2.imp {α : Type} {R R' : V → α → Prop} (h : ∀ v x, R v x → R' v x) : ∀ {vs : List V} {xs : List α}, All2 R vs xs → All2 R' vs xs
  | _, _, .nil => .nil
  | _, _, .cons a t => .cons (h _ _ a) (All2.imp h t)
theorem All2.snoc {α : Type} {R : V → α → Prop} : ∀ {vs : List V} {xs : List α} {v : V} {x : α}, All2 R vs xs → R v x → All2 R (vs ++ [v]) (xs ++ [x])
  | _, _, _, _, .nil, h => .cons h .nil
  | _, _, _, _, .cons a t, h => .cons a (All2.snoc t h)
structure LineAt (C : Addr) (H : Hp) (L : LnA) (s : LS) : Prop where
  ob : ∃ dx fs, H L.o = some (.ins C dx fs) ∧ Flds fs L
  pe : H L.pe = some (.lst (ppl s.xs))
  re : H L.re = some (.lst (s.rs.map optV))
  pa : H L.pa = some (.lst (ppl s.ps))
  se : ∃ vs, H L.se = some (.lst vs) ∧ All2 (ServV H) vs s.sv
  de : ∃ vs, H L.de = some (.lst vs) ∧ All2 (DeedV H) vs s.ds
  nd : [L.pe, L.re, L.pa, L.se, L.de].Nodup
  ok : s.Ok
/-- all but a line's own lists stays -/
structure MvL (L : LnA) (H H' : Hp) : Prop where
  keep : ∀ b o, ¬ L.has b → H b = some o → H' b = some o
theorem MvL.refl (L : LnA) (H : Hp) : MvL L H H := ⟨fun _ _ _ h => h⟩
theorem MvL.trans {L : LnA} {H H1 H2 : Hp} (a : MvL L H H1) (b : MvL L H1 H2) : MvL L H H2 := ⟨fun c o n h => b.keep c o n (a.keep c o n h)⟩
theorem MvL.of {L : LnA} {H H' : Hp} (s : Same H H') : MvL L H H' := ⟨fun b o _ h => s b o h⟩
theorem MvL.upd {L : LnA} {H H' : Hp} {p : Addr} {o : HO} (m : MvL L H H') (h : L.has p) : MvL L H (L2.upd H' p o) := ⟨fun b x nb e => by
  rw [upd_ne fun z => nb (by rw [z]; exact h)]
  exact m.keep b x nb e⟩
theorem MvL.new {L : LnA} {H H' : Hp} {p : Addr} {o : HO} (m : MvL L H H') (h : H' p = none) : MvL L H (L2.upd H' p o) := m.trans (MvL.of (same_upd h))
section
variable {C : Addr} {H H' : Hp} {L : LnA} {s : LS}
theorem LineAt.isl (h : LineAt C H L s) {b : Addr} (hb : L.has b) : ∃ vs, H b = some (.lst vs) := by
  rcases hb with rfl | rfl | rfl | rfl | rfl
  · exact ⟨_, h.pe⟩
  · exact ⟨_, h.re⟩
  · exact ⟨_, h.pa⟩
  · obtain ⟨vs, e, _⟩ := h.se; exact ⟨vs, e⟩
  · obtain ⟨vs, e, _⟩ := h.de; exact ⟨vs, e⟩
theorem LineAt.nol (h : LineAt C H L s) {b : Addr} {o : HO} (e : H b = some o) (n : ∀ vs, o ≠ .lst vs) : ¬ L.has b := fun hb => by
  obtain ⟨vs, z⟩ := h.isl hb
  rw [e] at z
  exact n vs (Option.some.inj z)
theorem ServV.kx {v : V} {x : Nat × Option Int} (k : ∀ t ys, H t = some (.tup ys) → H' t = some (.tup ys)) (h : ServV H v x) : ServV H' v x := by
  obtain ⟨t, e, q⟩ := h
  exact ⟨t, e, k t _ q⟩
theorem DeedV.kx {v : V} {d : Deed} (k : ∀ t ys, H t = some (.tup ys) → H' t = some (.tup ys)) (h : DeedV H v d) : DeedV H' v d := by
  cases d with
  | come p => obtain ⟨t, e, q⟩ := h; exact ⟨t, e, k t _ q⟩
  | serve => obtain ⟨t, e, q⟩ := h; exact ⟨t, e, k t _ q⟩
/-- a line whose own places stay, stays -/
theorem LineAt.kx (h : LineAt C H L s) (k : ∀ b o, (L.has b ∨ ∀ vs, o ≠ .lst vs) → H b = some o → H' b = some o) : LineAt C H' L s := by
  obtain ⟨dx, fs, ho, hf⟩ := h.ob
  obtain ⟨vs, e1, a1⟩ := h.se
  obtain ⟨ws, e2, a2⟩ := h.de
  have kt : ∀ t ys, H t = some (.tup ys) → H' t = some (.tup ys) := fun t ys e => k t _ (.inr fun _ => nofun) e
  exact ⟨⟨dx, fs, k _ _ (.inr fun _ => nofun) ho, hf⟩, k _ _ (.inl (.inl rfl)) h.pe, k _ _ (.inl (.inr (.inl rfl))) h.re, k _ _ (.inl (.inr (.inr (.inl rfl)))) h.pa, ⟨vs, k _ _ (.inl (.inr (.inr (.inr (.inl rfl))))) e1, a1.imp fun _ _ => ServV.kx kt⟩, ⟨ws, k _ _ (.inl (.inr (.inr (.inr (.inr rfl))))) e2, a2.imp fun _ _ => DeedV.kx kt⟩, h.nd, h.ok⟩
theorem LineAt.same (h : LineAt C H L s) (m : Same H H') : LineAt C H' L s := h.kx fun b o _ e => m b o e
/-- one line's deeds are nothing to another one -/
theorem LineAt.other {C' : Addr} {L' : LnA} {s' : LS} (h : LineAt C H L s) (h' : LineAt C' H L' s') (d : ∀ b, L.has b → ¬ L'.has b) (m : MvL L' H H') : LineAt C H' L s := h.kx fun b o hb e => m.keep b o (hb.elim (d b) (h'.nol e)) e
theorem nodup5 {a b c d e : Addr} (h : [a, b, c, d, e].Nodup) : a ≠ b ∧ a ≠ c ∧ a ≠ d ∧ a ≠ e ∧ b ≠ c ∧ b ≠ d ∧ b ≠ e ∧ c ≠ d ∧ c ≠ e ∧ d ≠ e := by
  simp only [List.nodup_cons, List.mem_cons, List.not_mem_nil, or_false, not_or, List.nodup_nil, and_true] at h
  obtain ⟨⟨h1, h2, h3, h4⟩, ⟨h5, h6, h7⟩, ⟨h8, h9⟩, h10, _⟩ := h
  exact ⟨h1, h2, h3, h4, h5, h6, h7, h8, h9, h10⟩
end
/-! ### what each method promises -/
def spInit (C : Addr) : Sp := fun vs H Q _ => ∃ o dx, vs = [.ref o] ∧ H o = some (.ins C dx []) ∧ ∀ (L : LnA) H', L.o = o → (∀ b, L.has b → H b = none) → LineAt C H' L LS.nil → (∀ b x, b ≠ o → H b = some x → H' b = some x) → Q .non H'
def spComeM (C : Addr) : Sp := fun vs H Q _ => ∃ (L : LnA) (s : LS) (p : Option Int), vs = [.ref L.o, optV p] ∧ LineAt C H L s ∧ isPatience (optD p) = true ∧ s.ps.length ≤ 400 ∧ ∀ H', LineAt C H' L (comeS s p) → MvL L H H' → Q (.int (s.ps.length : Int)) H'
def spServeM (C : Addr) : Sp := fun vs H Q _ => ∃ (L : LnA) (s : LS) (x : Nat) (xs : List Nat), vs = [.ref L.o] ∧ LineAt C H L s ∧ s.xs = x :: xs ∧ s.ps.length ≤ 400 ∧ ∀ H' r, s.rs.head? = some r → LineAt C H' L (serveS s x r) → MvL L H H' → Q (.int (x : Int)) H'
def spQueM (C : Addr) : Sp := fun vs H Q _ => ∃ (L : LnA) (s : LS), vs = [.ref L.o] ∧ LineAt C H L s ∧ ∀ p, H p = none → Q (.ref p) (upd H p (.lst (ppl s.xs)))
def spLeftM (C : Addr) : Sp := fun vs H Q _ => ∃ (L : LnA) (s : LS), vs = [.ref L.o] ∧ LineAt C H L s ∧ ∀ p, H p = none → Q (.ref p) (upd H p (.lst (s.rs.map optV)))
def spWentM (C : Addr) : Sp := fun vs H Q _ => ∃ (L : LnA) (s : LS) (x : Nat) (h : x < s.ps.length), vs = [.ref L.o, .int (x : Int)] ∧ LineAt C H L s ∧ ∀ H', Same H H' → Q (.int (s.ps[x] : Int)) H'
def spLenM (C : Addr) : Sp := fun vs H Q _ => ∃ (L : LnA) (s : LS), vs = [.ref L.o] ∧ LineAt C H L s ∧ Q (.int (s.xs.length : Int)) H
theorem init_one {K : PySem.W.Frag} {D : Ends} {σ : L2.St} {G : Hp} {o C dx : Addr} {fs : List (Str × V)} {f : Str} {n : Nat} (h0 : σ[0]? = some (some (.ref o))) (ho : G o = some (.ins C dx fs)) (hc : Cls K C) (hn : NoAttr K C f) (hl : fs.length ≤ n) (h9 : n < 900)
    (q : ∀ p, G p = none → ∀ G', G' o = some (.ins C dx (putF f (.ref p) fs)) → G' p = some (.lst []) → (∀ b x, b ≠ o → G b = some x → G' b = some x) → (putF f (.ref p) fs).length ≤ n + 1 → D.nx σ G') : sFld K (tVar 0) (tLst tNil) f D σ G := by
  refine ⟨Nat.zero_le _, fun p np => ?_⟩
  have hpo : p ≠ o := fun z => by rw [z, ho] at np; cases np
  refine ⟨.ref o, h0, o, C, dx, fs, rfl, by rw [upd_ne (Ne.symm hpo)]; exact ho, hc, hn, by omega, q p np _ upd_same (by rw [upd_ne hpo]; exact upd_same) (fun b x hb e => ?_) (Nat.le_trans (length_putF _ _ _) (Nat.succ_le_succ hl))⟩
  rw [upd_ne hb, upd_ne (ne_of_none e np)]
  exact e
theorem nameq : (("people" : Str) ≠ "rest" ∧ ("people" : Str) ≠ "past" ∧ ("people" : Str) ≠ "served" ∧ ("people" : Str) ≠ "deeds") ∧ (("rest" : Str) ≠ "past" ∧ ("rest" : Str) ≠ "served" ∧ ("rest" : Str) ≠ "deeds") ∧ (("past" : Str) ≠ "served" ∧ ("past" : Str) ≠ "deeds") ∧ ("served" : Str) ≠ "deeds" := by decide +kernel
section
variable {P : Program} {w : World} {K : PySem.W.Frag} {mg : Str → Option Value} {base : Heap} {C : Addr}
theorem ok_init {f : Addr} {fd : FuncData} (F : Fun K "__init__" "Line.__init__" sInit f fd) (T : LnT K mg C) : FnOk P w K mg base CX0 1 f fd ["self"] (spInit C) := by
  refine F.ok scInit (fun vs H Q E ⟨o, dx, e, _⟩ => by rw [e]; rfl) (fun cdv A outer s H vs Q E hr h => ?_)
  obtain ⟨o, dx, rfl, ho, q⟩ := h
  refine ⟨_, (pss_cons (ps_fld (pv 0) (pe_lst pa_nil) rfl) (pss_cons (ps_fld (pv 0) (pe_lst pa_nil) rfl) (pss_cons (ps_fld (pv 0) (pe_lst pa_nil) rfl) (pss_cons (ps_fld (pv 0) (pe_lst pa_nil) rfl) (pss_one (ps_fld (pv 0) (pe_lst pa_nil) rfl)))))), ?_⟩
  refine init_one (o := o) rfl ho T.cl T.n_pe (Nat.le_refl 0) (by decide) fun p1 n1 G1 a1 b1 k1 l1 => ?_
  refine init_one (o := o) rfl a1 T.cl T.n_re l1 (by decide) fun p2 n2 G2 a2 b2 k2 l2 => ?_
  refine init_one (o := o) rfl a2 T.cl T.n_pa l2 (by decide) fun p3 n3 G3 a3 b3 k3 l3 => ?_
  refine init_one (o := o) rfl a3 T.cl T.n_se l3 (by decide) fun p4 n4 G4 a4 b4 k4 l4 => ?_
  refine init_one (o := o) rfl a4 T.cl T.n_de l4 (by decide) fun p5 n5 G5 a5 b5 k5 l5 => ?_
  have ne : ∀ {G : Hp} {p q : Addr} {vs : List V}, G p = some (.lst vs) → G q = none → p ≠ q := fun {G p q vs} e n z => by rw [z, n] at e; cases e
  have no : ∀ {G : Hp} {p : Addr} {fs : List (Str × V)}, G o = some (.ins C dx fs) → G p = none → p ≠ o := fun {G p fs} e n z => by rw [z, e] at n; cases n
  have o1 := no ho n1
  have o2 := no a1 n2
  have o3 := no a2 n3
  have o4 := no a3 n4
  have o5 := no a4 n5
  have b12 := k2 _ _ o1 b1
  have b13 := k3 _ _ o1 b12
  have b14 := k4 _ _ o1 b13
  have b15 := k5 _ _ o1 b14
  have b23 := k3 _ _ o2 b2
  have b24 := k4 _ _ o2 b23
  have b25 := k5 _ _ o2 b24
  have b34 := k4 _ _ o3 b3
  have b35 := k5 _ _ o3 b34
  have b45 := k5 _ _ o4 b4
  have fr : ∀ {G G' : Hp} {p : Addr}, p ≠ o → (∀ b x, b ≠ o → G b = some x → G' b = some x) → G' p = none → G p = none := fun {G G' p} hp k n => by
    cases z : G p with
    | none => rfl
    | some x => rw [k p x hp z] at n; cases n
  have m2 := fr o2 k1 n2
  have m3 := fr o3 k1 (fr o3 k2 n3)
  have m4 := fr o4 k1 (fr o4 k2 (fr o4 k3 n4))
  have m5 := fr o5 k1 (fr o5 k2 (fr o5 k3 (fr o5 k4 n5)))
  obtain ⟨⟨q1, q2, q3, q4⟩, ⟨q5, q6, q7⟩, ⟨q8, q9⟩, q10⟩ := nameq
  refine q ⟨o, p1, p2, p3, p4, p5⟩ G5 rfl (fun b hb => ?_) ⟨⟨dx, _, a5, ?_⟩, b15, b25, b35, ⟨[], b45, .nil⟩, ⟨[], b5, .nil⟩, ?_, nil_ok⟩ fun b x hb e => k5 b x hb (k4 b x hb (k3 b x hb (k2 b x hb (k1 b x hb e))))
  · rcases hb with rfl | rfl | rfl | rfl | rfl
    · exact n1
    · exact m2
    · exact m3
    · exact m4
    · exact m5
  · refine ⟨?_, ?_, ?_, ?_, ?_, fun m h1 h2 h3 h4 h5 => ?_⟩
    · rw [lookup_putF, if_neg q4, lookup_putF, if_neg q3, lookup_putF, if_neg q2, lookup_putF, if_neg q1, lookup_putF, if_pos rfl]
    · rw [lookup_putF, if_neg q7, lookup_putF, if_neg q6, lookup_putF, if_neg q5, lookup_putF, if_pos rfl]
    · rw [lookup_putF, if_neg q9, lookup_putF, if_neg q8, lookup_putF, if_pos rfl]
    · rw [lookup_putF, if_neg q10, lookup_putF, if_pos rfl]
    · rw [lookup_putF, if_pos rfl]
    · rw [lookup_putF, if_neg h5, lookup_putF, if_neg h4, lookup_putF, if_neg h3, lookup_putF, if_neg h2, lookup_putF, if_neg h1]
      rfl
  · have c12 : p1 ≠ p2 := ne b1 n2
    have c13 : p1 ≠ p3 := ne b12 n3
    have c14 : p1 ≠ p4 := ne b13 n4
    have c15 : p1 ≠ p5 := ne b14 n5
    have c23 : p2 ≠ p3 := ne b2 n3
    have c24 : p2 ≠ p4 := ne b23 n4
    have c25 : p2 ≠ p5 := ne b24 n5
    have c34 : p3 ≠ p4 := ne b3 n4
    have c35 : p3 ≠ p5 := ne b34 n5
    have c45 : p4 ≠ p5 := ne b4 n5
    simp [c12, c13, c14, c15, c23, c24, c25, c34, c35, c45]
theorem ok_comeM {f : Addr} {fd : FuncData} (F : Fun K "come" "Line.come" sComeM f fd) (hT : Nm mg) (T : LnT K mg C) (CP : Cal P w K mg base 2 "is_patience" ["thing"] (spOne isPatience)) (CL : Cal P w K mg base 1 "let_past" ["left"] spLet) : FnOk P w K mg base CX0 3 f fd ["self", "patience"] (spComeM C) := by
  refine F.ok scComeM (fun vs H Q E ⟨L, s, p, e, _⟩ => by rw [e]; rfl) (fun cdv A outer s H vs Q E hr h => ?_)
  obtain ⟨L, s, p, rfl, hL, hp, hn, q⟩ := h
  have nd := scComeM.nd
  refine ⟨_, (pss_cons (ps_if (pt_not (pt_val (pe_cal CP (hr.mono (by decide)) (by rfl) (pa_cons (pv 1) pa_nil)))) (pss_one ps_never) pss_nil)
      (pss_cons (ps_set (i := 2) nd rfl (.inl rfl) (pe_callB call_len_seq (by rfl) hT.len PySem.boot_len (pa_cons (pe_fld (pv 0) rfl) pa_nil)))
      (pss_cons (ps_set (i := 3) nd rfl (.inl rfl) (pe_cal CL (hr.mono (by decide)) (by rfl) (pa_cons (pe_fld (pv 0) rfl) pa_nil)))
      (pss_cons (ps_for PassesOwn.never rfl (pi_list (pe_slice sl_list (pe_fld (pv 0) rfl) (po_some (pv 3)) po_none)) (pg_name (i := 4) nd rfl (.inl rfl)) (pss_one (ps_augS (pe_fld (pv 0) rfl) (pv 4) get_list pe_int ip_add set_list)))
      (pss_cons (ps_expr (pe_bm PySem.F.plainAttrs_list PySem.F.slot_list_insert PySem.F.type_list_insert mt_insert (pe_fld (pv 0) rfl) (pa_cons (pv 3) (pa_cons (pv 2) pa_nil))))
      (pss_cons (ps_expr (pe_bm PySem.F.plainAttrs_list PySem.F.slot_list_insert PySem.F.type_list_insert mt_insert (pe_fld (pv 0) rfl) (pa_cons (pv 3) (pa_cons (pv 1) pa_nil))))
      (pss_cons (ps_expr (pe_bm PySem.F.plainAttrs_list PySem.F.slot_list_append PySem.F.type_list_append mt_append (pe_fld (pv 0) rfl) (pa_cons pe_int pa_nil)))
      (pss_cons (ps_expr (pe_bm PySem.F.plainAttrs_list PySem.F.slot_list_append PySem.F.type_list_append mt_append (pe_fld (pv 0) rfl) (pa_cons (pe_tup (pa_cons pe_str (pa_cons (pv 1) pa_nil))) pa_nil)))
      (pss_one (ps_ret (pv 2))))))))))), ?_⟩
  obtain ⟨d1, d2, d3, d4, d5, d6, d7, d8, d9, d10⟩ := nodup5 hL.nd
  have ok := hL.ok
  have hxl : s.xs.length ≤ 400 := by have := ok.tot; omega
  have hrl : s.rs.length ≤ 400 := by rw [← ok.len]; exact hxl
  have hdl : s.ds.length ≤ 800 := by have := ok.dl; have := ok.tot; omega
  refine ⟨optV p, rfl, optV p, optD p, rfl, rp_opt2 p, fun H1 s1 => ⟨_, rfl, ?_⟩⟩
  rw [hp]
  refine iteF ?_
  have hL1 := hL.same s1
  obtain ⟨⟨dx, fs, hob, hf⟩, e_pe, e_re, e_pa, ⟨vs, e_se, a_se⟩, ⟨ws, e_de, a_de⟩, _, _⟩ := hL1
  refine ⟨.ref L.o, rfl, L.o, C, dx, fs, .ref L.pa, rfl, hob, T.cl, T.n_pa, hf.pa, L.pa, _, rfl, .inl (SqL.of e_pa), ?_⟩
  rw [ppl_len]
  refine ⟨.ref L.o, rfl, L.o, C, dx, fs, .ref L.re, rfl, hob, T.cl, T.n_re, hf.re, L.re, s.rs, rfl, e_re, by omega, fun H2 k2 f2 => ?_⟩
  obtain ⟨g1, g2⟩ := goes_le s.rs.length s.rs
  have hk : s.k ≤ s.xs.length := by rw [ok.len]; exact g1
  show tSeq _ _ _ [some (.ref L.o), some (optV p), some (.int (s.ps.length : Int)), some (.int (s.k : Int)), none] H2
  have nli : ∀ {b : Addr} {o : HO} {vs : List V}, H1 b = some o → (∀ vs, o ≠ .lst vs) → H1 L.re = some (.lst vs) → b ≠ L.re := fun {b o vs} e n e2 z => by rw [z, e2] at e; exact n _ (Option.some.inj e).symm
  have hob2 : H2 L.o = some (.ins C dx fs) := by rw [k2 _ (nli hob (fun _ => nofun) e_re)]; exact hob
  have e_pe2 : H2 L.pe = some (.lst (ppl s.xs)) := by rw [k2 _ d1]; exact e_pe
  have e_pa2 : H2 L.pa = some (.lst (ppl s.ps)) := by rw [k2 _ (Ne.symm d5)]; exact e_pa
  have e_se2 : H2 L.se = some (.lst vs) := by rw [k2 _ (Ne.symm d6)]; exact e_se
  have e_de2 : H2 L.de = some (.lst ws) := by rw [k2 _ (Ne.symm d7)]; exact e_de
  have m2 : MvL L H H2 := (MvL.of s1).trans ⟨fun b o nb e => by rw [k2 b fun z => nb (.inr (.inl z))]; exact e⟩
  have kt2 : ∀ t ys, H1 t = some (.tup ys) → H2 t = some (.tup ys) := fun t ys e => by rw [k2 t (nli e (fun _ => nofun) e_re)]; exact e
  refine ⟨.ref L.o, rfl, L.o, C, dx, fs, .ref L.pe, rfl, hob2, T.cl, T.n_pe, hf.pe, .int (s.k : Int), rfl, (s.k : Int), rfl, L.pe, _, rfl, SqL.of e_pe2, fun D nD => ?_⟩
  rw [cut_from]
  have ed : (ppl s.xs).drop s.k = ppl (s.xs.drop s.k) := List.map_drop.symm
  rw [ed]
  have sD : Same H2 (upd H2 D (.lst (ppl (s.xs.drop s.k)))) := same_upd nD
  have eD : (upd H2 D (.lst (ppl (s.xs.drop s.k)))) D = some (.lst (ppl (s.xs.drop s.k))) := upd_same
  have nDpa : D ≠ L.pa := fun z => by rw [z, e_pa2] at nD; cases nD
  generalize upd H2 D (.lst (ppl (s.xs.drop s.k))) = H3 at sD eD
  refine ⟨D, rfl, ⟨_, SqL.of eD⟩, for_list (xs := ppl (s.xs.drop s.k)) (fun i σ G => (∃ y, σ = [some (.ref L.o), some (optV p), some (.int (s.ps.length : Int)), some (.int (s.k : Int)), y]) ∧ (∀ b, b ≠ L.pa → G b = H3 b) ∧ G L.pa = some (.lst (ppl (bump s.ps ((s.xs.drop s.k).take i)))))
    ⟨⟨_, rfl⟩, fun _ _ => rfl, sD _ _ e_pa2⟩ (fun i σ G _ ⟨_, k, _⟩ => SqL.of (by rw [k _ nDpa]; exact eD)) (fun i x σ G hx hP => ?_) (fun σ G hP => ?_)⟩
  · obtain ⟨⟨y, rfl⟩, kG, eG⟩ := hP
    have il : i < (s.xs.drop s.k).length := by rw [← ppl_len]; exact (List.getElem?_eq_some_iff.mp hx).1
    rw [ppl_get il] at hx
    obtain rfl := (Option.some.inj hx).symm
    have hsn : (s.xs.drop s.k).take (i + 1) = (s.xs.drop s.k).take i ++ [(s.xs.drop s.k)[i]] := by rw [List.take_add_one, List.getElem?_eq_getElem il]; rfl
    have hlt : (s.xs.drop s.k)[i] < s.ps.length := ok.lt _ (List.mem_of_mem_drop (List.getElem_mem il))
    rw [hsn, bump_snoc]
    have hbl := bump_len ((s.xs.drop s.k).take i) s.ps
    generalize bump s.ps ((s.xs.drop s.k).take i) = ps at eG hbl
    generalize (s.xs.drop s.k)[i] = y at hlt
    have hob3 : G L.o = some (.ins C dx fs) := by rw [kG _ (fun z => by rw [z, e_pa2] at hob2; cases hob2)]; exact sD _ _ hob2
    have hg : (ppl ps)[y]? = some (.int ((ps.getD y 0 : Nat) : Int)) := by
      rw [ppl_get (by omega)]
      rw [List.getD_eq_getElem?_getD, List.getElem?_eq_getElem (by omega)]
      rfl
    refine ⟨.ref L.o, rfl, L.o, C, dx, fs, .ref L.pa, rfl, hob3, T.cl, T.n_pa, hf.pa, .int (y : Int), rfl, L.pa, _, y, _, rfl, rfl, SqL.of eG, hg, _, 1, rfl, rfl, L.pa, _, (y : Int), y, rfl, rfl, eG, ixN_nat (by rw [ppl_len]; omega), ⟨_, rfl⟩, fun b nb => by rw [upd_ne nb]; exact kG b nb, ?_⟩
    rw [upd_same]
    unfold ppl
    rw [List.map_set]
    rfl
  · obtain ⟨⟨y, rfl⟩, kG, eG⟩ := hP
    rw [ppl_len, List.take_length] at eG
    have up : ∀ {b : Addr} {o : HO}, b ≠ L.pa → H2 b = some o → G b = some o := fun {b o} n e => by rw [kG b n]; exact sD _ _ e
    have hob3 : G L.o = some (.ins C dx fs) := up (fun z => by rw [z, e_pa2] at hob2; cases hob2) hob2
    have e_pe3 := up d2 e_pe2
    have e_re3 := up d5 f2
    have e_se3 := up (Ne.symm d8) e_se2
    have e_de3 := up (Ne.symm d9) e_de2
    have m3 : MvL L H G := m2.trans ⟨fun b o nb e => up (fun z => nb (.inr (.inr (.inl z)))) e⟩
    have kt3 : ∀ t ys, H2 t = some (.tup ys) → G t = some (.tup ys) := fun t ys e => up (fun z => by rw [z, e_pa2] at e; cases e) e
    have b1 : bump s.ps (s.xs.drop s.k) = bump s.ps (s.xs.drop s.k) := rfl
    have hbl := bump_len (s.xs.drop s.k) s.ps
    -- self.people.insert(place, newcomer)
    refine ⟨.ref L.o, rfl, L.o, C, dx, fs, .ref L.pe, rfl, hob3, T.cl, T.n_pe, hf.pe, .inl ⟨rfl, _, SqL.of e_pe3⟩, .int (s.k : Int), rfl, .int (s.ps.length : Int), rfl, L.pe, _, (s.k : Int), _, rfl, rfl, e_pe3, by rw [ppl_len]; exact small1000 (by omega), by omega, by omega, ?_⟩
    have ei : (ppl s.xs).take (s.k : Int).toNat ++ [V.int (s.ps.length : Int)] ++ (ppl s.xs).drop (s.k : Int).toNat = ppl (comeS s p).xs := by
      show _ = ppl (s.xs.take s.k ++ s.ps.length :: s.xs.drop s.k)
      unfold ppl
      rw [List.map_append, List.map_cons, List.map_take, List.map_drop, List.append_assoc]
      rfl
    rw [ei]
    have q_pe4 : (upd G L.pe (.lst (ppl (comeS s p).xs))) L.pe = some (.lst (ppl (comeS s p).xs)) := upd_same
    have k4 : ∀ b, b ≠ L.pe → (upd G L.pe (.lst (ppl (comeS s p).xs))) b = G b := fun b n => upd_ne n
    have m4 := m3.upd (o := .lst (ppl (comeS s p).xs)) (.inl rfl)
    generalize upd G L.pe (.lst (ppl (comeS s p).xs)) = G4 at q_pe4 k4 m4
    have hob4 : G4 L.o = some (.ins C dx fs) := by rw [k4 _ (fun z => by rw [z, e_pe3] at hob3; cases hob3)]; exact hob3
    have e_re4 : G4 L.re = _ := (k4 _ (Ne.symm d1)).trans e_re3
    -- self.rest.insert(place, patience)
    refine ⟨.ref L.o, rfl, L.o, C, dx, fs, .ref L.re, rfl, hob4, T.cl, T.n_re, hf.re, .inl ⟨rfl, _, SqL.of e_re4⟩, .int (s.k : Int), rfl, optV p, rfl, L.re, _, (s.k : Int), _, rfl, rfl, e_re4, by rw [List.length_map, g2]; exact small1000 (by omega), by omega, by omega, ?_⟩
    have er : ((goes s.rs.length s.rs).2.map optV).take (s.k : Int).toNat ++ [optV p] ++ ((goes s.rs.length s.rs).2.map optV).drop (s.k : Int).toNat = (comeS s p).rs.map optV := by
      show _ = ((goes s.rs.length s.rs).2.take s.k ++ p :: (goes s.rs.length s.rs).2.drop s.k).map optV
      rw [List.map_append, List.map_cons, List.map_take, List.map_drop, List.append_assoc]
      rfl
    rw [er]
    have q_re5 : (upd G4 L.re (.lst ((comeS s p).rs.map optV))) L.re = some (.lst ((comeS s p).rs.map optV)) := upd_same
    have k5 : ∀ b, b ≠ L.re → (upd G4 L.re (.lst ((comeS s p).rs.map optV))) b = G4 b := fun b n => upd_ne n
    have m5 := m4.upd (o := .lst ((comeS s p).rs.map optV)) (.inr (.inl rfl))
    generalize upd G4 L.re (.lst ((comeS s p).rs.map optV)) = G5 at q_re5 k5 m5
    have hob5 : G5 L.o = some (.ins C dx fs) := by rw [k5 _ (fun z => by rw [z, e_re4] at hob4; cases hob4)]; exact hob4
    have e_pa5 : G5 L.pa = _ := (k5 _ (Ne.symm d5)).trans ((k4 _ (Ne.symm d2)).trans eG)
    -- self.past.append(0)
    refine ⟨.ref L.o, rfl, L.o, C, dx, fs, .ref L.pa, rfl, hob5, T.cl, T.n_pa, hf.pa, .inl ⟨rfl, _, SqL.of e_pa5⟩, L.pa, _, _, rfl, rfl, e_pa5, by rw [ppl_len, hbl]; exact small1000 (by omega), ?_⟩
    have ep : ppl (bump s.ps (s.xs.drop s.k)) ++ [V.int 0] = ppl (comeS s p).ps := by
      show _ = ppl (bump s.ps (s.xs.drop s.k) ++ [0])
      unfold ppl
      rw [List.map_append]
      rfl
    rw [ep]
    have q_pa6 : (upd G5 L.pa (.lst (ppl (comeS s p).ps))) L.pa = some (.lst (ppl (comeS s p).ps)) := upd_same
    have k6 : ∀ b, b ≠ L.pa → (upd G5 L.pa (.lst (ppl (comeS s p).ps))) b = G5 b := fun b n => upd_ne n
    have m6 := m5.upd (o := .lst (ppl (comeS s p).ps)) (.inr (.inr (.inl rfl)))
    generalize upd G5 L.pa (.lst (ppl (comeS s p).ps)) = G6 at q_pa6 k6 m6
    have hob6 : G6 L.o = some (.ins C dx fs) := by rw [k6 _ (fun z => by rw [z, e_pa5] at hob5; cases hob5)]; exact hob5
    have e_de6 : G6 L.de = some (.lst ws) := (k6 _ (Ne.symm d9)).trans ((k5 _ (Ne.symm d7)).trans ((k4 _ (Ne.symm d4)).trans e_de3))
    have e_se6 : G6 L.se = some (.lst vs) := (k6 _ (Ne.symm d8)).trans ((k5 _ (Ne.symm d6)).trans ((k4 _ (Ne.symm d3)).trans e_se3))
    have e_pe6 : G6 L.pe = _ := (k6 _ d2).trans ((k5 _ d1).trans q_pe4)
    have e_re6 : G6 L.re = _ := (k6 _ d5).trans q_re5
    have kt6 : ∀ t ys, H1 t = some (.tup ys) → G6 t = some (.tup ys) := fun t ys e => by
      have e3 := kt3 _ _ (kt2 _ _ e)
      have n1 : t ≠ L.pe := fun z => by rw [z, e_pe3] at e3; cases e3
      have n2 : t ≠ L.re := fun z => by rw [z, e_re3] at e3; cases e3
      have n3 : t ≠ L.pa := fun z => by rw [z, eG] at e3; cases e3
      exact (k6 _ n3).trans ((k5 _ n2).trans ((k4 _ n1).trans e3))
    -- self.deeds.append(("come", patience))
    refine ⟨.ref L.o, rfl, L.o, C, dx, fs, .ref L.de, rfl, hob6, T.cl, T.n_de, hf.de, .inl ⟨rfl, _, SqL.of e_de6⟩, optV p, rfl, small_le (by show 2 ≤ 1000; decide), fun t nt => ⟨L.de, ws, .ref t, rfl, rfl, (same_upd nt) _ _ e_de6, by rw [a_de.length]; exact small1000 (by omega), ?_⟩⟩
    have st : Same G6 (upd G6 t (.tup [.str "come", optV p])) := same_upd nt
    have et : (upd G6 t (.tup [.str "come", optV p])) t = some (.tup [.str "come", optV p]) := upd_same
    have m7 := m6.new (o := .tup [.str "come", optV p]) nt
    generalize upd G6 t (.tup [.str "come", optV p]) = G7 at st et m7
    have ntd : t ≠ L.de := fun z => by rw [z, e_de6] at nt; cases nt
    have kt8 : ∀ t' ys, G7 t' = some (.tup ys) → (upd G7 L.de (.lst (ws ++ [.ref t]))) t' = some (.tup ys) := fun t' ys e => by
      rw [upd_ne (fun z => by rw [z, st _ _ e_de6] at e; cases e)]; exact e
    refine ⟨_, rfl, q _ ⟨⟨dx, fs, ?_, hf⟩, ?_, ?_, ?_, ⟨vs, ?_, a_se.imp fun _ _ => ServV.kx fun t' ys e => kt8 _ _ (st _ _ (kt6 _ _ e))⟩, ⟨ws ++ [.ref t], upd_same, All2.snoc (a_de.imp fun _ _ => DeedV.kx fun t' ys e => kt8 _ _ (st _ _ (kt6 _ _ e))) ⟨t, rfl, kt8 _ _ et⟩⟩, hL.nd, ok.come p⟩ (m7.upd (.inr (.inr (.inr (.inr rfl)))))⟩
    · rw [upd_ne (fun z => by rw [z, e_de6] at hob6; cases hob6)]; exact st _ _ hob6
    · rw [upd_ne d4]; exact st _ _ e_pe6
    · rw [upd_ne d7]; exact st _ _ e_re6
    · rw [upd_ne d9]; exact st _ _ q_pa6
    · rw [upd_ne d10]; exact st _ _ e_se6
end
end CL
set_option Elab.async false
set_option linter.all false
set_option maxRecDepth 100000
set_option maxHeartbeats 4000000
namespace CL
open PySem PySem.Spec PyProof.Rows L2 GE
/-- len(x) of an instance whose class has a __len__ of its own -/
theorem call_lenOwn {X : Cx} {C f : Addr} {fd : FuncData} {ps : List Str} {k : Nat} {CX : CXT} {E : XK} {sp : Sp} (F : FnOk X.prog X.w X.K X.mg X.base CX k f fd ps sp) (hr : Room (k + 1) X.A)
    (hs : PySem.W.findIn X.K (.ref C) "__len__" = some (some (.ref f))) (hf : PySem.W.isFn X.K (.ref f) = true) (hb : Binds X.K fd ps []) (hx : Passes CX X E) :
    CallR X (.builtin "len") (fun xs H Q => ∃ a dx fs, xs = [.ref a] ∧ H a = some (.ins C dx fs) ∧ sp [.ref a] H (fun v H' => ∃ n : Nat, v = .int (n : Int) ∧ n < 2 ^ 62 ∧ Q (.int (n : Int)) H') E) := by
  intro pins s σ H xs us Q I r h
  obtain ⟨a, dx, fs, rfl, ha, hsp⟩ := h
  obtain ⟨u, rfl, ru⟩ := vals1 r
  obtain rfl : u = Value.ref a := ru
  obtain ⟨mA, J, _⟩ := ins_get I.hok ha
  obtain ⟨od, J, _⟩ := J.look
  obtain ⟨m, hF⟩ := I.fr
  refine PySem.W.len_K hF I.ok.mod.kin J hs hf ?_
  have e0 : Env0 X.prog X.w X.K X.mg X.base X.A.in1 X.stack s H := by
    have e := I.env0
    exact ⟨e.frames, e.mod, e.bs, e.bsz, e.funs, e.frf, e.hok, e.bare⟩
  have hl := F.len _ _ _ _ hsp
  refine wpAny_call (codeAny_mono (F.run X.A.in1 X.stack s H ⟨[.ref a], []⟩ [.ref a] [.ref a] _ E hr.in1 e0 (by
    have := hb s [.ref a] I.kIn (by simpa using hl)
    simpa using this) (.cons rfl .nil) hsp) fun r s' hq => ?_)
  cases r with
  | error e => exact hx pins σ H s e s' I hq
  | ok fl =>
    cases fl with
    | ret w =>
      obtain ⟨z, H', I', rz, n, ez, hn, q⟩ := I.after hq
      subst ez
      obtain ⟨t, rfl⟩ := rz
      exact ⟨⟨Int.natCast_nonneg n, by omega⟩, .int (n : Int), H', I'.tok _, ⟨_, rfl⟩, q⟩
    | next => exact False.elim hq
    | brk => exact False.elim hq
    | cont => exact False.elim hq
section
variable {P : Program} {w : World} {K : PySem.W.Frag} {mg : Str → Option Value} {base : Heap} {C : Addr}
theorem ok_serveM {f : Addr} {fd : FuncData} (F : Fun K "serve" "Line.serve" sServeM f fd) (T : LnT K mg C) : FnOk P w K mg base CX0 1 f fd ["self"] (spServeM C) := by
  refine F.ok scServeM (fun vs H Q E ⟨L, s, x, xs, e, _⟩ => by rw [e]; rfl) (fun cdv A outer s H vs Q E hr h => ?_)
  obtain ⟨L, s, x, xs, rfl, hL, hx, hn, q⟩ := h
  have nd := scServeM.nd
  refine ⟨_, (pss_cons (ps_if (pt_not (pt_truth (pe_fld (pv 0) rfl) (by intro _; rfl))) (pss_one ps_never) pss_nil)
      (pss_cons (ps_set (i := 1) nd rfl (.inl rfl) (pe_bm PySem.F.plainAttrs_list PySem.F.slot_list_pop PySem.F.type_list_pop mt_popAt (pe_fld (pv 0) rfl) (pa_cons pe_int pa_nil)))
      (pss_cons (ps_expr (pe_bm PySem.F.plainAttrs_list PySem.F.slot_list_append PySem.F.type_list_append mt_append (pe_fld (pv 0) rfl) (pa_cons (pe_tup (pa_cons (pv 1) (pa_cons (pe_bm PySem.F.plainAttrs_list PySem.F.slot_list_pop PySem.F.type_list_pop mt_popAt (pe_fld (pv 0) rfl) (pa_cons pe_int pa_nil)) pa_nil))) pa_nil)))
      (pss_cons (ps_expr (pe_bm PySem.F.plainAttrs_list PySem.F.slot_list_append PySem.F.type_list_append mt_append (pe_fld (pv 0) rfl) (pa_cons (pe_tup (pa_cons pe_str pa_nil)) pa_nil)))
      (pss_one (ps_ret (pv 1))))))), ?_⟩
  obtain ⟨d1, d2, d3, d4, d5, d6, d7, d8, d9, d10⟩ := nodup5 hL.nd
  have ok := hL.ok
  have hxl : s.xs.length ≤ 400 := by have := ok.tot; omega
  have hdl : s.ds.length ≤ 800 := by have := ok.dl; have := ok.tot; omega
  have hsl : s.sv.length ≤ 400 := by have := ok.tot; omega
  obtain ⟨r, rs, hr'⟩ : ∃ r rs, s.rs = r :: rs := by
    have hlen := ok.len
    rw [hx, List.length_cons] at hlen
    cases z : s.rs with
    | nil => rw [z] at hlen; cases hlen
    | cons r rs => exact ⟨r, rs, rfl⟩
  obtain ⟨⟨dx, fs, hob, hf⟩, e_pe, e_re, e_pa, ⟨vs, e_se, a_se⟩, ⟨ws, e_de, a_de⟩, _, _⟩ := id hL
  rw [hx] at e_pe
  rw [hr'] at e_re
  refine ⟨.ref L.o, rfl, L.o, C, dx, fs, .ref L.pe, rfl, hob, T.cl, T.n_pe, hf.pe, true, .inl ⟨_, SqL.of e_pe, rfl⟩, ?_⟩
  refine iteF ?_
  refine ⟨.ref L.o, rfl, L.o, C, dx, fs, .ref L.pe, rfl, hob, T.cl, T.n_pe, hf.pe, .inl ⟨rfl, _, SqL.of e_pe⟩, L.pe, _, 0, 0, .int (x : Int), rfl, rfl, e_pe, by decide, by decide, seq_nat (j := 0) (Nat.succ_pos _), rfl, ?_⟩
  have ep : (ppl (x :: xs)).eraseIdx 0 = ppl (serveS s x r).xs := by
    show ppl xs = ppl s.xs.tail
    rw [hx]
    rfl
  rw [ep]
  have q_pe1 : (upd H L.pe (.lst (ppl (serveS s x r).xs))) L.pe = some (.lst (ppl (serveS s x r).xs)) := upd_same
  have k1 : ∀ b, b ≠ L.pe → (upd H L.pe (.lst (ppl (serveS s x r).xs))) b = H b := fun b n => upd_ne n
  have m1 := (MvL.refl L H).upd (o := .lst (ppl (serveS s x r).xs)) (.inl rfl)
  dsimp only [gName]
  show tSeq _ _ _ [some (.ref L.o), some (.int (x : Int))] (upd H L.pe (.lst (ppl (serveS s x r).xs)))
  generalize upd H L.pe (.lst (ppl (serveS s x r).xs)) = G1 at q_pe1 k1 m1
  have hob1 : G1 L.o = some (.ins C dx fs) := by rw [k1 _ (fun z => by rw [z, e_pe] at hob; cases hob)]; exact hob
  have e_se1 : G1 L.se = some (.lst vs) := (k1 _ (Ne.symm d3)).trans e_se
  have e_re1 : G1 L.re = _ := (k1 _ (Ne.symm d1)).trans e_re
  -- self.served.append((person, self.rest.pop(0)))
  refine ⟨.ref L.o, rfl, L.o, C, dx, fs, .ref L.se, rfl, hob1, T.cl, T.n_se, hf.se, .inl ⟨rfl, _, SqL.of e_se1⟩, .int (x : Int), rfl, .ref L.o, rfl, L.o, C, dx, fs, .ref L.re, rfl, hob1, T.cl, T.n_re, hf.re, .inl ⟨rfl, _, SqL.of e_re1⟩, L.re, _, 0, 0, optV r, rfl, rfl, e_re1, by decide, by decide, seq_nat (j := 0) (Nat.succ_pos _), rfl, ?_⟩
  have er : ((r :: rs).map optV).eraseIdx 0 = (serveS s x r).rs.map optV := by
    show rs.map optV = s.rs.tail.map optV
    rw [hr']
    rfl
  rw [er]
  have q_re2 : (upd G1 L.re (.lst ((serveS s x r).rs.map optV))) L.re = some (.lst ((serveS s x r).rs.map optV)) := upd_same
  have k2 : ∀ b, b ≠ L.re → (upd G1 L.re (.lst ((serveS s x r).rs.map optV))) b = G1 b := fun b n => upd_ne n
  have m2 := m1.upd (o := .lst ((serveS s x r).rs.map optV)) (.inr (.inl rfl))
  generalize upd G1 L.re (.lst ((serveS s x r).rs.map optV)) = G2 at q_re2 k2 m2
  have hob2 : G2 L.o = some (.ins C dx fs) := by rw [k2 _ (fun z => by rw [z, e_re1] at hob1; cases hob1)]; exact hob1
  have e_se2 : G2 L.se = some (.lst vs) := (k2 _ (Ne.symm d6)).trans e_se1
  refine ⟨small_le (by show 2 ≤ 1000; decide), fun t nt => ⟨L.se, vs, .ref t, rfl, rfl, (same_upd nt) _ _ e_se2, by rw [a_se.length]; exact small1000 (by omega), ?_⟩⟩
  have st : Same G2 (upd G2 t (.tup [.int (x : Int), optV r])) := same_upd nt
  have et : (upd G2 t (.tup [.int (x : Int), optV r])) t = some (.tup [.int (x : Int), optV r]) := upd_same
  have m3 := m2.new (o := .tup [.int (x : Int), optV r]) nt
  generalize upd G2 t (.tup [.int (x : Int), optV r]) = G3 at st et m3
  have e_se3 := st _ _ e_se2
  have q_se4 : (upd G3 L.se (.lst (vs ++ [.ref t]))) L.se = some (.lst (vs ++ [.ref t])) := upd_same
  have k4 : ∀ b, b ≠ L.se → (upd G3 L.se (.lst (vs ++ [.ref t]))) b = G3 b := fun b n => upd_ne n
  have m4 := m3.upd (o := .lst (vs ++ [.ref t])) (.inr (.inr (.inr (.inl rfl))))
  generalize upd G3 L.se (.lst (vs ++ [.ref t])) = G4 at q_se4 k4 m4
  have up4 : ∀ {b : Addr} {o : HO}, b ≠ L.se → G2 b = some o → G4 b = some o := fun {b o} n e => by rw [k4 b n]; exact st _ _ e
  have hob4 : G4 L.o = some (.ins C dx fs) := up4 (fun z => by rw [z, e_se2] at hob2; cases hob2) hob2
  have e_de4 : G4 L.de = some (.lst ws) := up4 (Ne.symm d10) ((k2 _ (Ne.symm d7)).trans ((k1 _ (Ne.symm d4)).trans e_de))
  have e_pa4 : G4 L.pa = _ := up4 d8 ((k2 _ (Ne.symm d5)).trans ((k1 _ (Ne.symm d2)).trans e_pa))
  have e_pe4 : G4 L.pe = _ := up4 d3 ((k2 _ d1).trans q_pe1)
  have e_re4 : G4 L.re = _ := up4 d6 q_re2
  have kt4 : ∀ t ys, H t = some (.tup ys) → G4 t = some (.tup ys) := fun t ys e => by
    have n1 : t ≠ L.pe := fun z => by rw [z, e_pe] at e; cases e
    have n2 : t ≠ L.re := fun z => by rw [z, e_re] at e; cases e
    have n3 : t ≠ L.se := fun z => by rw [z, e_se] at e; cases e
    exact up4 n3 ((k2 _ n2).trans ((k1 _ n1).trans e))
  have et4 : G4 t = some (.tup [.int (x : Int), optV r]) := by rw [k4 t (fun z => by rw [z, e_se3] at et; cases et)]; exact et
  have a4 := All2.snoc (a_se.imp fun _ _ => ServV.kx (H' := G4) fun t' ys e => kt4 _ _ e) (v := .ref t) (x := (x, r)) ⟨t, rfl, et4⟩
  -- self.deeds.append(("serve",))
  refine ⟨.ref L.o, rfl, L.o, C, dx, fs, .ref L.de, rfl, hob4, T.cl, T.n_de, hf.de, .inl ⟨rfl, _, SqL.of e_de4⟩, small_le (by show 1 ≤ 1000; decide), fun t' nt' => ⟨L.de, ws, .ref t', rfl, rfl, (same_upd nt') _ _ e_de4, by rw [a_de.length]; exact small1000 (by omega), ?_⟩⟩
  have st' : Same G4 (upd G4 t' (.tup [.str "serve"])) := same_upd nt'
  have et' : (upd G4 t' (.tup [.str "serve"])) t' = some (.tup [.str "serve"]) := upd_same
  have m5 := m4.new (o := .tup [.str "serve"]) nt'
  generalize upd G4 t' (.tup [.str "serve"]) = G5 at st' et' m5
  have kt8 : ∀ t' ys, G5 t' = some (.tup ys) → (upd G5 L.de (.lst (ws ++ [.ref t']))) t' = some (.tup ys) := fun t' ys e => by
    rw [upd_ne (fun z => by rw [z, st' _ _ e_de4] at e; cases e)]; exact e
  have kt8' : ∀ u ys, G5 u = some (.tup ys) → (upd G5 L.de (.lst (ws ++ [.ref t']))) u = some (.tup ys) := fun u ys e => by
    rw [upd_ne (fun z => by rw [z, st' _ _ e_de4] at e; cases e)]; exact e
  refine ⟨_, rfl, q _ r (by rw [hr']; rfl) ⟨⟨dx, fs, ?_, hf⟩, ?_, ?_, ?_, ⟨vs ++ [.ref t], ?_, a4.imp fun _ _ => ServV.kx fun u ys e => kt8' _ _ (st' _ _ e)⟩, ⟨ws ++ [.ref t'], upd_same, All2.snoc (a_de.imp fun _ _ => DeedV.kx fun u ys e => kt8' _ _ (st' _ _ (kt4 _ _ e))) ⟨t', rfl, kt8' _ _ et'⟩⟩, hL.nd, ok.serve hx⟩ (m5.upd (.inr (.inr (.inr (.inr rfl)))))⟩
  · rw [upd_ne (fun z => by rw [z, e_de4] at hob4; cases hob4)]; exact st' _ _ hob4
  · rw [upd_ne d4]; exact st' _ _ e_pe4
  · rw [upd_ne d7]; exact st' _ _ e_re4
  · rw [upd_ne d9]; exact st' _ _ e_pa4
  · rw [upd_ne d10]; exact st' _ _ q_se4
theorem ok_queM {f : Addr} {fd : FuncData} (F : Fun K "queue" "Line.queue" sQueM f fd) (hT : Nm mg) (T : LnT K mg C) : FnOk P w K mg base CX0 1 f fd ["self"] (spQueM C) := by
  refine F.ok scQueM (fun vs H Q E ⟨L, s, e, _⟩ => by rw [e]; rfl) (fun cdv A outer s H vs Q E hr h => ?_)
  obtain ⟨L, s, rfl, hL, q⟩ := h
  refine ⟨_, pss_one (ps_ret (pe_callTy call_list_of (by rfl) hT.list (by decide +kernel) (pa_cons (pe_fld (pv 0) rfl) pa_nil))), ?_⟩
  obtain ⟨⟨dx, fs, hob, hf⟩, e_pe, e_re, _⟩ := id hL
  exact ⟨.ref L.o, rfl, L.o, C, dx, fs, .ref L.pe, rfl, hob, T.cl, T.n_pe, hf.pe, L.pe, _, rfl, .inl (SqL.of e_pe), fun p np => q p np⟩
theorem ok_leftM {f : Addr} {fd : FuncData} (F : Fun K "left" "Line.left" sLeftM f fd) (hT : Nm mg) (T : LnT K mg C) : FnOk P w K mg base CX0 1 f fd ["self"] (spLeftM C) := by
  refine F.ok scLeftM (fun vs H Q E ⟨L, s, e, _⟩ => by rw [e]; rfl) (fun cdv A outer s H vs Q E hr h => ?_)
  obtain ⟨L, s, rfl, hL, q⟩ := h
  refine ⟨_, pss_one (ps_ret (pe_callTy call_list_of (by rfl) hT.list (by decide +kernel) (pa_cons (pe_fld (pv 0) rfl) pa_nil))), ?_⟩
  obtain ⟨⟨dx, fs, hob, hf⟩, e_pe, e_re, _⟩ := id hL
  exact ⟨.ref L.o, rfl, L.o, C, dx, fs, .ref L.re, rfl, hob, T.cl, T.n_re, hf.re, L.re, _, rfl, .inl (SqL.of e_re), fun p np => q p np⟩
theorem ok_wentM {f : Addr} {fd : FuncData} (F : Fun K "went_past" "Line.went_past" sWentM f fd) (hT : Nm mg) (T : LnT K mg C) (CW : Cal P w K mg base 1 "is_whole" ["thing"] (spOne isWhole)) : FnOk P w K mg base CX0 2 f fd ["self", "person"] (spWentM C) := by
  refine F.ok scWentM (fun vs H Q E ⟨L, s, x, hx, e, _⟩ => by rw [e]; rfl) (fun cdv A outer s H vs Q E hr h => ?_)
  obtain ⟨L, s, x, hx, rfl, hL, q⟩ := h
  refine ⟨_, pss_cons (ps_if (PW.pt (pw_or (pt_not (pt_val (pe_cal CW hr (by rfl) (pa_cons (pv 1) pa_nil)))) (pw_or1 (pt_not (pt_chain op_le op_lt pe_int (pv 1) (pe_callB call_len_seq (by rfl) hT.len PySem.boot_len (pa_cons (pe_fld (pv 0) rfl) pa_nil))))))) (pss_one ps_never) pss_nil)
    (pss_one (ps_ret (pe_ix ix_list (pe_fld (pv 0) rfl) (pv 1) (fun _ _ => rfl)))), ?_⟩
  refine ⟨.int (x : Int), rfl, .int (x : Int), .int (x : Int), rfl, .int _, fun H1 s1 => ⟨true, rfl, ?_⟩⟩
  have hL1 := hL.same s1
  obtain ⟨⟨dx, fs, hob, hf⟩, e_pe, e_re, e_pa, _⟩ := hL1
  refine iteF ⟨.int (x : Int), rfl, 0, (x : Int), rfl, rfl, decide ((0 : Int) ≤ (x : Int)), rfl, ?_⟩
  rw [decide_eq_true (Int.natCast_nonneg x)]
  refine iteT ⟨.ref L.o, rfl, L.o, C, dx, fs, .ref L.pa, rfl, hob, T.cl, T.n_pa, hf.pa, L.pa, _, rfl, .inl (SqL.of e_pa), (x : Int), _, rfl, rfl, decide ((x : Int) < ((ppl s.ps).length : Int)), rfl, ?_⟩
  rw [decide_eq_true (by rw [ppl_len]; omega)]
  refine iteF ⟨.ref L.o, rfl, L.o, C, dx, fs, .ref L.pa, rfl, hob, T.cl, T.n_pa, hf.pa, .int (x : Int), rfl, L.pa, _, (x : Int), _, rfl, rfl, SqL.of e_pa, atI_nat (ppl_get hx), q H1 s1⟩
theorem ok_lenM {f : Addr} {fd : FuncData} (F : Fun K "__len__" "Line.__len__" sLenM f fd) (hT : Nm mg) (T : LnT K mg C) : FnOk P w K mg base CX0 1 f fd ["self"] (spLenM C) := by
  refine F.ok scLenM (fun vs H Q E ⟨L, s, e, _⟩ => by rw [e]; rfl) (fun cdv A outer s H vs Q E hr h => ?_)
  obtain ⟨L, s, rfl, hL, q⟩ := h
  refine ⟨_, pss_one (ps_ret (pe_callB call_len_seq (by rfl) hT.len PySem.boot_len (pa_cons (pe_fld (pv 0) rfl) pa_nil))), ?_⟩
  obtain ⟨⟨dx, fs, hob, hf⟩, e_pe, e_re, _⟩ := id hL
  refine ⟨.ref L.o, rfl, L.o, C, dx, fs, .ref L.pe, rfl, hob, T.cl, T.n_pe, hf.pe, L.pe, _, rfl, .inl (SqL.of e_pe), ?_⟩
  rw [ppl_len]
  exact q
end
end CL
set_option Elab.async false
set_option linter.all false
set_option maxRecDepth 100000
set_option maxHeartbeats 4000000
namespace CL
open PySem PySem.Spec PyProof.Rows L2 GE
/-! ### a newcomer is taken back -/
def dec (o : Option Int) : Option Int := o.map (· - 1)
theorem goes_e0 {p : Nat} {l : List (Option Int)} (q : l[p]? = some (some 0)) : goes (p + 1) l = (p + 1, l) := by
  unfold goes
  rw [q]
  rfl
theorem goes_eN {p : Nat} {l : List (Option Int)} (q : l[p]? = some none) : goes (p + 1) l = goes p l := by
  conv => lhs; unfold goes
  rw [q]
theorem goes_eX {p : Nat} {l : List (Option Int)} (q : l[p]? = none) : goes (p + 1) l = (p + 1, l) := by
  unfold goes
  rw [q]
theorem goes_eS {p : Nat} {l : List (Option Int)} {v : Int} (q : l[p]? = some (some v)) (hv : v ≠ 0) : goes (p + 1) l = goes p (l.set p (some (v - 1))) := by
  conv => lhs; unfold goes
  rw [q]
  exact if_neg hv
theorem goes_at : ∀ (p : Nat) (l : List (Option Int)) (j : Nat), (goes p l).2[j]? = if (goes p l).1 ≤ j ∧ j < p then (l[j]?).map dec else l[j]?
  | 0, l, j => by rw [if_neg (by omega)]; rfl
  | p + 1, l, j => by
    cases q : l[p]? with
    | none =>
      rw [goes_eX q]
      dsimp only
      rw [if_neg (by omega)]
    | some o =>
      cases o with
      | none =>
        rw [goes_eN q, goes_at p l j]
        have hk := (goes_le p l).1
        by_cases e : j = p
        · subst e
          rw [if_neg (by omega), if_pos ⟨hk, Nat.lt_succ_self _⟩, q]
          rfl
        · by_cases h : (goes p l).1 ≤ j ∧ j < p
          · rw [if_pos h, if_pos ⟨h.1, by omega⟩]
          · rw [if_neg h, if_neg (by omega)]
      | some v =>
        by_cases hv : v = 0
        · subst hv
          rw [goes_e0 q]
          dsimp only
          rw [if_neg (by omega)]
        · rw [goes_eS q hv]
          have hlt := (List.getElem?_eq_some_iff.mp q).1
          have hk := (goes_le p (l.set p (some (v - 1)))).1
          rw [goes_at p (l.set p (some (v - 1))) j]
          by_cases e : j = p
          · subst e
            rw [if_neg (by omega), if_pos ⟨hk, Nat.lt_succ_self _⟩, q, List.getElem?_set, if_pos rfl, if_pos hlt]
            rfl
          · rw [List.getElem?_set, if_neg (Ne.symm e)]
            by_cases h : (goes p (l.set p (some (v - 1)))).1 ≤ j ∧ j < p
            · rw [if_pos h, if_pos ⟨h.1, by omega⟩]
            · rw [if_neg h, if_neg (by omega)]
theorem goes_take (s : LS) : (goes s.rs.length s.rs).2.take s.k = s.rs.take s.k := by
  refine List.ext_getElem? fun j => ?_
  rw [List.getElem?_take, List.getElem?_take]
  by_cases h : j < s.k
  · rw [if_pos h, if_pos h, goes_at, if_neg (fun z => ?_)]
    have : s.k ≤ j := z.1
    omega
  · rw [if_neg h, if_neg h]
theorem goes_behind (s : LS) {j : Nat} (h1 : s.k ≤ j) (h2 : j < s.rs.length) : (goes s.rs.length s.rs).2[j]? = some (dec s.rs[j]) := by
  rw [goes_at, if_pos ⟨h1, h2⟩, List.getElem?_eq_getElem h2]
  rfl
def part (R R' : List (Option Int)) (m : Nat) : List (Option Int) := R.take m ++ R'.drop m
theorem part_len {R R' : List (Option Int)} {m : Nat} (hl : R'.length = R.length) (hm : m ≤ R.length) : (part R R' m).length = R.length := by
  unfold part
  rw [List.length_append, List.length_take, List.length_drop]
  omega
theorem part_get {R R' : List (Option Int)} {m : Nat} (hm : m < R.length) (hl : R'.length = R.length) : (part R R' m)[m]? = R'[m]? := by
  unfold part
  rw [List.getElem?_append_right (by rw [List.length_take]; omega), List.length_take, Nat.min_eq_left (by omega), Nat.sub_self, List.getElem?_drop]
  rfl
theorem part_set {R R' : List (Option Int)} {m : Nat} (hm : m < R.length) (hl : R'.length = R.length) : (part R R' m).set m R[m] = part R R' (m + 1) := by
  refine List.ext_getElem? fun j => ?_
  have hpl := part_len (m := m) hl (by omega)
  unfold part at *
  rw [List.getElem?_set]
  by_cases e : m = j
  · subst e
    rw [if_pos rfl, if_pos (by omega), List.getElem?_append_left (by rw [List.length_take]; omega), List.getElem?_take, if_pos (Nat.lt_succ_self _), List.getElem?_eq_getElem hm]
  · rw [if_neg e]
    rcases Nat.lt_or_ge j m with z | z
    · rw [List.getElem?_append_left (by rw [List.length_take]; omega), List.getElem?_append_left (by rw [List.length_take]; omega), List.getElem?_take, List.getElem?_take, if_pos z, if_pos (by omega)]
    · rw [List.getElem?_append_right (by rw [List.length_take]; omega), List.getElem?_append_right (by rw [List.length_take]; omega), List.length_take, List.length_take, Nat.min_eq_left (by omega), Nat.min_eq_left (by omega), List.getElem?_drop, List.getElem?_drop]
      congr 1
      omega
theorem part_same {R R' : List (Option Int)} {m : Nat} (hm : m < R.length) (hl : R'.length = R.length) (e : R'[m]? = some R[m]) : part R R' m = part R R' (m + 1) := by
  rw [← part_set hm hl]
  refine List.ext_getElem? fun j => ?_
  rw [List.getElem?_set]
  by_cases z : m = j
  · subst z
    have hpl := part_len (m := m) hl (by omega)
    rw [if_pos rfl, if_pos (by omega), part_get hm hl, e]
  · rw [if_neg z]
theorem bump_comm : ∀ (ys ps : List Nat) (y : Nat), y < ps.length → bump (ps.set y (ps.getD y 0 + 1)) ys = (bump ps ys).set y ((bump ps ys).getD y 0 + 1)
  | [], ps, y, _ => rfl
  | z :: ys, ps, y, hy => by
    show bump ((ps.set y (ps.getD y 0 + 1)).set z ((ps.set y (ps.getD y 0 + 1)).getD z 0 + 1)) ys = (bump (ps.set z (ps.getD z 0 + 1)) ys).set y ((bump (ps.set z (ps.getD z 0 + 1)) ys).getD y 0 + 1)
    rw [← bump_comm ys (ps.set z (ps.getD z 0 + 1)) y (by rw [List.length_set]; exact hy)]
    congr 1
    by_cases e : y = z
    · subst e; rfl
    · have g1 : (ps.set y (ps.getD y 0 + 1)).getD z 0 = ps.getD z 0 := by
        simp [List.getD_eq_getElem?_getD, List.getElem?_set, e]
      have g2 : (ps.set z (ps.getD z 0 + 1)).getD y 0 = ps.getD y 0 := by
        simp [List.getD_eq_getElem?_getD, List.getElem?_set, Ne.symm e]
      rw [g1, g2, List.set_comm _ _ e]
theorem bump_back {ys ps : List Nat} {y : Nat} (hy : y < ps.length) : (bump ps (y :: ys))[y]? = some ((bump ps ys).getD y 0 + 1) ∧ (bump ps (y :: ys)).set y ((bump ps ys).getD y 0) = bump ps ys := by
  have hl := bump_len ys ps
  have e : bump ps (y :: ys) = (bump ps ys).set y ((bump ps ys).getD y 0 + 1) := bump_comm ys ps y hy
  rw [e]
  refine ⟨by rw [List.getElem?_set, if_pos rfl, if_pos (by omega)], ?_⟩
  rw [List.set_set]
  refine List.ext_getElem? fun j => ?_
  rw [List.getElem?_set]
  by_cases z : y = j
  · subst z
    rw [if_pos rfl, if_pos (by omega), List.getD_eq_getElem?_getD, List.getElem?_eq_getElem (by omega)]
    rfl
  · rw [if_neg z]
/-! ### what deeds come to -/
def stepS (s : LS) : Deed → LS
  | .come p => comeS s p
  | .serve => serveS s (s.xs.headD 0) (s.rs.headD none)
def stF (ds : List Deed) : LS := ds.foldl stepS LS.nil
theorem stF_snoc (ds : List Deed) (d : Deed) : stF (ds ++ [d]) = stepS (stF ds) d := by
  unfold stF
  rw [List.foldl_append]
  rfl
theorem stepS_ds (s : LS) (d : Deed) : (stepS s d).ds = s.ds ++ [d] := by cases d <;> rfl
theorem foldl_ds : ∀ (ds : List Deed) (s : LS), (ds.foldl stepS s).ds = s.ds ++ ds
  | [], s => (List.append_nil _).symm
  | d :: ds, s => by
    show (ds.foldl stepS (stepS s d)).ds = _
    rw [foldl_ds ds, stepS_ds, List.append_assoc]
    rfl
theorem stF_ds (ds : List Deed) : (stF ds).ds = ds := foldl_ds ds LS.nil
def Vd (ds : List Deed) : Prop := ∀ pre post, ds = pre ++ .serve :: post → (stF pre).xs ≠ []
theorem vd_nil : Vd [] := fun pre post e => by cases pre <;> cases e
theorem Vd.pre {ds es : List Deed} (h : Vd (ds ++ es)) : Vd ds := fun pre post e => h pre (post ++ es) (by rw [e]; simp)
theorem Vd.come {ds : List Deed} (h : Vd ds) (p : Option Int) : Vd (ds ++ [.come p]) := fun pre post e => by
  rcases List.eq_nil_or_concat post with z | ⟨post', d, z⟩
  · subst z
    have := List.append_inj_right' e rfl
    cases this
  · rw [List.concat_eq_append] at z
    subst z
    have e2 : ds ++ [.come p] = (pre ++ .serve :: post') ++ [d] := by rw [e]; simp
    exact h pre post' (List.append_inj_left' e2 rfl)
theorem Vd.serve {ds : List Deed} (h : Vd ds) (n : (stF ds).xs ≠ []) : Vd (ds ++ [.serve]) := fun pre post e => by
  rcases List.eq_nil_or_concat post with z | ⟨post', d, z⟩
  · subst z
    have := List.append_inj_left' e rfl
    rw [← this]
    exact n
  · rw [List.concat_eq_append] at z
    subst z
    have e2 : ds ++ [.serve] = (pre ++ .serve :: post') ++ [d] := by rw [e]; simp
    exact h pre post' (List.append_inj_left' e2 rfl)
theorem Vd.last {ds : List Deed} (h : Vd (ds ++ [.serve])) : (stF ds).xs ≠ [] := h ds [] rfl
theorem Vd.ok : ∀ {ds : List Deed}, Vd ds → (stF ds).Ok := by
  intro ds
  induction hn : ds.length generalizing ds with
  | zero =>
    intro _
    rw [List.eq_nil_of_length_eq_zero hn]
    exact nil_ok
  | succ n ih =>
    intro h
    rcases List.eq_nil_or_concat ds with z | ⟨es, d, z⟩
    · subst z; cases hn
    · rw [List.concat_eq_append] at z
      subst z
      have hes := ih (ds := es) (by rw [List.length_append] at hn; simp at hn; exact hn) h.pre
      rw [stF_snoc]
      cases d with
      | come p => exact hes.come p
      | serve =>
        have hx := h.last
        cases q : (stF es).xs with
        | nil => exact absurd q hx
        | cons x xs => exact hes.serve (xs := xs) (by rw [q]; rfl)
end CL
set_option Elab.async false
set_option linter.all false
set_option maxRecDepth 100000
set_option maxHeartbeats 4000000
namespace CL
open PySem PySem.Spec PyProof.Rows L2 GE
abbrev sUndoM : Stmt := inClass sLn 3
abbrev sTakeM : Stmt := inClass sLn 4
abbrev sHistM : Stmt := inClass sLn 8
theorem scUndoM : FnScope ["self", "deed", "person", "patience"] ["self"] (defScope sUndoM) := ⟨rfl, rfl, rfl, by decide +kernel, rfl, by decide +kernel, by decide +kernel⟩
theorem scTakeM : FnScope ["self", "place", "behind"] ["self"] (defScope sTakeM) := ⟨rfl, rfl, rfl, by decide +kernel, rfl, by decide +kernel, by decide +kernel⟩
theorem scHistM : FnScope ["self"] ["self"] (defScope sHistM) := ⟨rfl, rfl, rfl, by decide +kernel, rfl, by decide +kernel, by decide +kernel⟩
def spTakeM (C : Addr) : Sp := fun vs H Q _ => ∃ (L : LnA) (s : LS) (p : Option Int), vs = [.ref L.o] ∧ s.Ok ∧ (∃ dx fs, H L.o = some (.ins C dx fs) ∧ Flds fs L) ∧ H L.pe = some (.lst (ppl (comeS s p).xs)) ∧ H L.re = some (.lst ((comeS s p).rs.map optV)) ∧ H L.pa = some (.lst (ppl (comeS s p).ps)) ∧ [L.pe, L.re, L.pa, L.se, L.de].Nodup ∧ s.ps.length ≤ 400 ∧
  ∀ H', (∀ b, b ≠ L.pe → b ≠ L.re → b ≠ L.pa → H' b = H b) → H' L.pe = some (.lst (ppl s.xs)) → H' L.re = some (.lst (s.rs.map optV)) → H' L.pa = some (.lst (ppl s.ps)) → Q .non H'
def spUndoM (C : Addr) : Sp := fun vs H Q _ => ∃ (L : LnA) (s : LS) (d : Deed), vs = [.ref L.o] ∧ LineAt C H L (stepS s d) ∧ s.Ok ∧ (d = .serve → s.xs ≠ []) ∧ s.ps.length ≤ 400 ∧ ∀ H', LineAt C H' L s → MvL L H H' → Q .non H'
def spHistM (C : Addr) : Sp := fun vs H Q _ => ∃ (L : LnA) (s : LS), vs = [.ref L.o] ∧ LineAt C H L s ∧ ∀ p ws, H p = none → All2 (DeedV H) ws s.ds → Q (.ref p) (upd H p (.lst ws))
theorem ppl_flat : ∀ xs : List Nat, (ppl xs).all flatV = true
  | [] => rfl
  | _ :: xs => ppl_flat xs
theorem All2.unsnoc {α : Type} {R : V → α → Prop} : ∀ {xs : List α} {vs : List V} {x : α}, All2 R vs (xs ++ [x]) → ∃ ws v, vs = ws ++ [v] ∧ All2 R ws xs ∧ R v x
  | [], _, _, .cons h .nil => ⟨[], _, rfl, .nil, h⟩
  | _ :: _, _, _, .cons h t => by
    obtain ⟨ws, v, e, a, r⟩ := All2.unsnoc t
    exact ⟨_ :: ws, v, by rw [e]; rfl, .cons h a, r⟩
theorem erase_map {α β : Type} (f : α → β) : ∀ (l : List α) (j : Nat), (l.map f).eraseIdx j = (l.eraseIdx j).map f
  | [], _ => rfl
  | _ :: _, 0 => rfl
  | a :: l, j + 1 => congrArg (f a :: ·) (erase_map f l j)
theorem last_snoc {α : Type} (ws : List α) (v : α) : (ws ++ [v])[(ws ++ [v]).length - 1]? = some v := by simp
section
variable {P : Program} {w : World} {K : PySem.W.Frag} {mg : Str → Option Value} {base : Heap} {C : Addr}
theorem ok_takeM {f : Addr} {fd : FuncData} (F : Fun K "take_newcomer" "Line.take_newcomer" sTakeM f fd) (hT : Nm mg) (T : LnT K mg C) : FnOk P w K mg base CX0 1 f fd ["self"] (spTakeM C) := by
  refine F.ok scTakeM (fun vs H Q E ⟨L, s, p, e, _⟩ => by rw [e]; rfl) (fun cdv A outer s H vs Q E hr h => ?_)
  obtain ⟨L, s, p, rfl, ok, ⟨dx, fs, hob, hf⟩, e_pe, e_re, e_pa, hnd, hn, q⟩ := h
  have nd := scTakeM.nd
  refine ⟨_, (pss_cons (ps_expr (pe_bm0 PySem.F.plainAttrs_list PySem.F.slot_list_pop PySem.F.type_list_pop mt_pop (pe_fld (pv 0) rfl)))
      (pss_cons (ps_set (i := 1) nd rfl (.inl rfl) (pe_bm PySem.F.plainAttrs_list PySem.F.slot_list_index PySem.F.type_list_index mt_index (pe_fld (pv 0) rfl) (pa_cons (pe_callB call_len_seq (by rfl) hT.len PySem.boot_len (pa_cons (pe_fld (pv 0) rfl) pa_nil)) pa_nil)))
      (pss_cons (ps_delL (pe_fld (pv 0) rfl) (pv 1))
      (pss_cons (ps_delL (pe_fld (pv 0) rfl) (pv 1))
      (pss_one (ps_for PassesOwn.never rfl (pi_range2 (by rfl) hT.range (pa_cons (pv 1) (pa_cons (pe_callB call_len_seq (by rfl) hT.len PySem.boot_len (pa_cons (pe_fld (pv 0) rfl) pa_nil)) pa_nil))) (pg_name (i := 2) nd rfl (.inl rfl)) (pss_cons (ps_augS (pe_fld (pv 0) rfl) (pe_ix ix_list (pe_fld (pv 0) rfl) (pv 2) (fun _ _ => rfl)) get_list pe_int ip_sub set_list)
      (pss_one (ps_if (pt_cmp (pc_notN (pe_ix ix_list (pe_fld (pv 0) rfl) (pv 2) (fun _ _ => rfl)))) (pss_one (ps_augS (pe_fld (pv 0) rfl) (pv 2) get_list pe_int ip_add set_list)) pss_nil))))))))), ?_⟩
  obtain ⟨d1, d2, d3, d4, d5, d6, d7, d8, d9, d10⟩ := nodup5 hnd
  obtain ⟨g1, g2⟩ := goes_le s.rs.length s.rs
  have hxl : s.xs.length ≤ 400 := by have := ok.tot; omega
  have hk : s.k ≤ s.xs.length := by rw [ok.len]; exact g1
  have hxr := ok.len
  -- self.past.pop()
  have ea : ppl (comeS s p).ps = ppl (bump s.ps (s.xs.drop s.k)) ++ [V.int 0] := by
    show ppl (bump s.ps (s.xs.drop s.k) ++ [0]) = _
    unfold ppl
    rw [List.map_append]
    rfl
  rw [ea] at e_pa
  refine ⟨.ref L.o, rfl, L.o, C, dx, fs, .ref L.pa, rfl, hob, T.cl, T.n_pa, hf.pa, .inl ⟨rfl, _, SqL.of e_pa⟩, L.pa, _, _, rfl, rfl, e_pa, last_snoc _ _, ?_⟩
  rw [List.dropLast_concat]
  have q_pa1 : (upd H L.pa (.lst (ppl (bump s.ps (s.xs.drop s.k))))) L.pa = some (.lst (ppl (bump s.ps (s.xs.drop s.k)))) := upd_same
  have k1 : ∀ b, b ≠ L.pa → (upd H L.pa (.lst (ppl (bump s.ps (s.xs.drop s.k))))) b = H b := fun b n => upd_ne n
  generalize upd H L.pa (.lst (ppl (bump s.ps (s.xs.drop s.k)))) = G1 at q_pa1 k1
  have hob1 : G1 L.o = some (.ins C dx fs) := by rw [k1 _ (fun z => by rw [z, e_pa] at hob; cases hob)]; exact hob
  have e_pe1 : G1 L.pe = _ := (k1 _ d2).trans e_pe
  have e_re1 : G1 L.re = _ := (k1 _ d5).trans e_re
  have hbl := bump_len (s.xs.drop s.k) s.ps
  have hnl : (ppl (bump s.ps (s.xs.drop s.k))).length = s.ps.length := by rw [ppl_len, hbl]
  have lt : (s.xs.take s.k).length = s.k := by rw [List.length_take]; omega
  -- place = self.people.index(len(self.past))
  refine ⟨.ref L.o, rfl, L.o, C, dx, fs, .ref L.pe, rfl, hob1, T.cl, T.n_pe, hf.pe, .inl ⟨rfl, _, SqL.of e_pe1⟩, .ref L.o, rfl, L.o, C, dx, fs, .ref L.pa, rfl, hob1, T.cl, T.n_pa, hf.pa, L.pa, _, rfl, .inl (SqL.of q_pa1), L.pe, _, _, s.k, .int (s.ps.length : Int), rfl, rfl, SqL.of e_pe1, rfl, ppl_flat _, ?_, by rw [hnl]; simp [eqV], fun m z' hm hz => ?_, ?_⟩
  · show (ppl (s.xs.take s.k ++ s.ps.length :: s.xs.drop s.k))[s.k]? = _
    unfold ppl
    rw [List.getElem?_map, List.getElem?_append_right (by omega), lt, Nat.sub_self]
    rfl
  · have hz : (ppl (s.xs.take s.k ++ s.ps.length :: s.xs.drop s.k))[m]? = some z' := hz
    unfold ppl at hz
    rw [List.getElem?_map, List.getElem?_append_left (by omega), List.getElem?_take, if_pos hm, List.getElem?_eq_getElem (by omega)] at hz
    obtain rfl := (Option.some.inj hz).symm
    have := ok.lt _ (List.getElem_mem (show m < s.xs.length by omega))
    rw [hnl]
    show (((s.xs[m] : Nat) : Int) == (s.ps.length : Int)) = false
    rw [beq_eq_false_iff_ne]
    omega
  show tSeq _ _ _ [some (.ref L.o), some (.int (s.k : Int)), none] G1
  -- del self.people[place]
  refine ⟨.ref L.o, rfl, L.o, C, dx, fs, .ref L.pe, rfl, hob1, T.cl, T.n_pe, hf.pe, .int (s.k : Int), rfl, L.pe, _, (s.k : Int), s.k, rfl, rfl, e_pe1, by omega, by omega, seq_nat (by rw [ppl_len]; show s.k < (s.xs.take s.k ++ s.ps.length :: s.xs.drop s.k).length; rw [List.length_append, lt, List.length_cons]; omega), ?_⟩
  have ee : (ppl (comeS s p).xs).eraseIdx s.k = ppl s.xs := by
    show (ppl (s.xs.take s.k ++ s.ps.length :: s.xs.drop s.k)).eraseIdx s.k = _
    unfold ppl
    rw [erase_map, List.eraseIdx_append_of_length_le (by omega), lt, Nat.sub_self]
    show (s.xs.take s.k ++ s.xs.drop s.k).map _ = _
    rw [List.take_append_drop]
  rw [ee]
  have q_pe2 : (upd G1 L.pe (.lst (ppl s.xs))) L.pe = some (.lst (ppl s.xs)) := upd_same
  have k2 : ∀ b, b ≠ L.pe → (upd G1 L.pe (.lst (ppl s.xs))) b = G1 b := fun b n => upd_ne n
  generalize upd G1 L.pe (.lst (ppl s.xs)) = G2 at q_pe2 k2
  have hob2 : G2 L.o = some (.ins C dx fs) := by rw [k2 _ (fun z => by rw [z, e_pe1] at hob1; cases hob1)]; exact hob1
  have e_re2 : G2 L.re = _ := (k2 _ (Ne.symm d1)).trans e_re1
  have e_pa2 : G2 L.pa = _ := (k2 _ (Ne.symm d2)).trans q_pa1
  -- del self.rest[place]
  have ltr : ((goes s.rs.length s.rs).2.take s.k).length = s.k := by rw [List.length_take]; omega
  refine ⟨.ref L.o, rfl, L.o, C, dx, fs, .ref L.re, rfl, hob2, T.cl, T.n_re, hf.re, .int (s.k : Int), rfl, L.re, _, (s.k : Int), s.k, rfl, rfl, e_re2, by omega, by omega, seq_nat (by rw [List.length_map]; show s.k < ((goes s.rs.length s.rs).2.take s.k ++ p :: (goes s.rs.length s.rs).2.drop s.k).length; rw [List.length_append, ltr, List.length_cons]; omega), ?_⟩
  have er : ((comeS s p).rs.map optV).eraseIdx s.k = (part s.rs (goes s.rs.length s.rs).2 s.k).map optV := by
    show (((goes s.rs.length s.rs).2.take s.k ++ p :: (goes s.rs.length s.rs).2.drop s.k).map optV).eraseIdx s.k = _
    rw [erase_map, List.eraseIdx_append_of_length_le (by omega), ltr, Nat.sub_self]
    unfold part
    rw [← goes_take]
    rfl
  rw [er]
  have q_re3 : (upd G2 L.re (.lst ((part s.rs (goes s.rs.length s.rs).2 s.k).map optV))) L.re = some (.lst ((part s.rs (goes s.rs.length s.rs).2 s.k).map optV)) := upd_same
  have k3 : ∀ b, b ≠ L.re → (upd G2 L.re (.lst ((part s.rs (goes s.rs.length s.rs).2 s.k).map optV))) b = G2 b := fun b n => upd_ne n
  generalize upd G2 L.re (.lst ((part s.rs (goes s.rs.length s.rs).2 s.k).map optV)) = G3 at q_re3 k3
  have hob3 : G3 L.o = some (.ins C dx fs) := by rw [k3 _ (fun z => by rw [z, e_re2] at hob2; cases hob2)]; exact hob2
  have e_pe3 : G3 L.pe = _ := (k3 _ d1).trans q_pe2
  have e_pa3 : G3 L.pa = _ := (k3 _ (Ne.symm d5)).trans e_pa2
  -- for behind in range(place, len(self.people))
  refine ⟨.int (s.k : Int), rfl, .ref L.o, rfl, L.o, C, dx, fs, .ref L.pe, rfl, hob3, T.cl, T.n_pe, hf.pe, L.pe, _, rfl, .inl (SqL.of e_pe3), (s.k : Int), _, rfl, ⟨by omega, by omega, by rw [ppl_len]; omega, by rw [ppl_len]; omega⟩, ?_⟩
  have hoR : L.o ≠ L.re := fun z => by rw [z, q_re3] at hob3; cases hob3
  have hoP : L.o ≠ L.pa := fun z => by rw [z, e_pa3] at hob3; cases hob3
  refine for_range (lo := (s.k : Int)) (n := (((ppl s.xs).length : Int) - (s.k : Int)).toNat) (fun i σ G => (∃ y, σ = [some (.ref L.o), some (.int (s.k : Int)), y]) ∧ (∀ b, b ≠ L.re → b ≠ L.pa → G b = G3 b) ∧ G L.re = some (.lst ((part s.rs (goes s.rs.length s.rs).2 (s.k + i)).map optV)) ∧ G L.pa = some (.lst (ppl (bump s.ps ((s.xs.drop s.k).drop i)))))
    ⟨⟨_, rfl⟩, fun _ _ _ => rfl, q_re3, e_pa3⟩ (fun i σ G hi hP => ?_) (fun σ G hP => ?_)
  · obtain ⟨⟨y, rfl⟩, kG, eR, eP⟩ := hP
    rw [ppl_len] at hi
    have hi' : s.k + i < s.xs.length := by omega
    have ek : (s.k : Int) + (i : Int) = ((s.k + i : Nat) : Int) := by omega
    rw [ek]
    have hobG : G L.o = some (.ins C dx fs) := (kG _ hoR hoP).trans hob3
    have e_peG : G L.pe = some (.lst (ppl s.xs)) := (kG _ d1 d2).trans e_pe3
    have hdr : (s.xs.drop s.k).drop i = s.xs[s.k + i] :: (s.xs.drop s.k).drop (i + 1) := by
      rw [List.drop_drop, List.drop_drop, List.drop_eq_getElem_cons hi']
      rfl
    have hyl := ok.lt _ (List.getElem_mem hi')
    rw [hdr] at eP
    obtain ⟨h1, h2⟩ := bump_back (ys := (s.xs.drop s.k).drop (i + 1)) hyl
    have hgp : (ppl s.xs)[s.k + i]? = some (.int (s.xs[s.k + i] : Int)) := ppl_get hi'
    generalize s.xs[s.k + i] = y0 at hgp hyl h1 h2 eP
    have hbl2 := bump_len (y0 :: (s.xs.drop s.k).drop (i + 1)) s.ps
    generalize bump s.ps (y0 :: (s.xs.drop s.k).drop (i + 1)) = qs at h1 h2 eP hbl2
    generalize hv : (bump s.ps ((s.xs.drop s.k).drop (i + 1))).getD y0 0 = v at h1 h2
    have hgq : (ppl qs)[y0]? = some (.int ((v + 1 : Nat) : Int)) := by
      unfold ppl
      rw [List.getElem?_map, h1]
      rfl
    refine ⟨.ref L.o, rfl, L.o, C, dx, fs, .ref L.pa, rfl, hobG, T.cl, T.n_pa, hf.pa, .ref L.o, rfl, L.o, C, dx, fs, .ref L.pe, rfl, hobG, T.cl, T.n_pe, hf.pe, .int ((s.k + i : Nat) : Int), rfl, L.pe, _, ((s.k + i : Nat) : Int), _, rfl, rfl, SqL.of e_peG, atI_nat hgp, L.pa, _, y0, _, rfl, rfl, SqL.of eP, hgq, _, 1, rfl, rfl, L.pa, _, (y0 : Int), y0, rfl, rfl, eP, ixN_nat (by rw [ppl_len]; omega), ?_⟩
    have es : (ppl qs).set y0 (V.int (((v + 1 : Nat) : Int) - 1)) = ppl (bump s.ps ((s.xs.drop s.k).drop (i + 1))) := by
      rw [← h2]
      unfold ppl
      rw [List.map_set]
      congr 2
      omega
    rw [es]
    have q_pa4 : (upd G L.pa (.lst (ppl (bump s.ps ((s.xs.drop s.k).drop (i + 1)))))) L.pa = some (.lst (ppl (bump s.ps ((s.xs.drop s.k).drop (i + 1))))) := upd_same
    have k4 : ∀ b, b ≠ L.pa → (upd G L.pa (.lst (ppl (bump s.ps ((s.xs.drop s.k).drop (i + 1)))))) b = G b := fun b n => upd_ne n
    generalize upd G L.pa (.lst (ppl (bump s.ps ((s.xs.drop s.k).drop (i + 1))))) = G4 at q_pa4 k4
    have hob4 : G4 L.o = some (.ins C dx fs) := (k4 _ hoP).trans hobG
    have eR4 : G4 L.re = _ := (k4 _ d5).trans eR
    have hri : s.k + i < s.rs.length := by omega
    have hbeh := goes_behind s (j := s.k + i) (by omega) hri
    have hgr : ((part s.rs (goes s.rs.length s.rs).2 (s.k + i)).map optV)[s.k + i]? = some (optV (dec s.rs[s.k + i])) := by
      rw [List.getElem?_map, part_get hri g2, hbeh]
      rfl
    refine ⟨.ref L.o, rfl, L.o, C, dx, fs, .ref L.re, rfl, hob4, T.cl, T.n_re, hf.re, .int ((s.k + i : Nat) : Int), rfl, L.re, _, ((s.k + i : Nat) : Int), _, rfl, rfl, SqL.of eR4, atI_nat hgr, _, rfl, ?_⟩
    have hset := part_set (R := s.rs) (R' := (goes s.rs.length s.rs).2) hri g2
    have hsame := part_same (R := s.rs) (R' := (goes s.rs.length s.rs).2) hri g2
    cases hrv : s.rs[s.k + i] with
    | none =>
      rw [hrv] at hbeh hsame
      have z := hsame hbeh
      refine iteF ⟨⟨_, rfl⟩, fun b n1 n2 => (k4 b n2).trans (kG b n1 n2), ?_, q_pa4⟩
      rw [eR4, z]
      rfl
    | some rv =>
      rw [hrv] at hgr hset
      refine iteT ⟨.ref L.o, rfl, L.o, C, dx, fs, .ref L.re, rfl, hob4, T.cl, T.n_re, hf.re, .int ((s.k + i : Nat) : Int), rfl, L.re, _, s.k + i, _, rfl, rfl, SqL.of eR4, hgr, rv - 1, 1, rfl, rfl, L.re, _, ((s.k + i : Nat) : Int), s.k + i, rfl, rfl, eR4, ixN_nat (by rw [List.length_map, part_len g2 (by omega)]; exact hri), ⟨_, rfl⟩, fun b n1 n2 => by rw [upd_ne n1]; exact (k4 b n2).trans (kG b n1 n2), ?_, by rw [upd_ne (Ne.symm d5)]; exact q_pa4⟩
      rw [upd_same]
      show some (HO.lst (((part s.rs (goes s.rs.length s.rs).2 (s.k + i)).map optV).set (s.k + i) (V.int (rv - 1 + 1)))) = some (HO.lst ((part s.rs (goes s.rs.length s.rs).2 (s.k + i + 1)).map optV))
      rw [← hset, List.map_set, Int.sub_add_cancel]
      rfl
  · obtain ⟨⟨y, rfl⟩, kG, eR, eP⟩ := hP
    rw [ppl_len] at eR eP
    have ei : s.k + ((s.xs.length : Int) - (s.k : Int)).toNat = s.rs.length := by omega
    rw [ei] at eR
    have er : part s.rs (goes s.rs.length s.rs).2 s.rs.length = s.rs := by
      unfold part
      rw [List.take_length, List.drop_of_length_le (by omega), List.append_nil]
    rw [er] at eR
    have ed : (s.xs.drop s.k).drop ((s.xs.length : Int) - (s.k : Int)).toNat = [] := by
      rw [List.drop_drop]
      exact List.drop_of_length_le (by omega)
    rw [ed] at eP
    refine q _ (fun b n1 n2 n3 => ?_) ((kG _ d1 d2).trans e_pe3) eR eP
    rw [kG b n2 n3, k3 b n2, k2 b n1, k1 b n3]
theorem Flds.take {fs : List (Str × V)} {L : LnA} (h : Flds fs L) : fs.lookup ("take_newcomer" : Str) = none := h.no _ (by decide +kernel) (by decide +kernel) (by decide +kernel) (by decide +kernel) (by decide +kernel)
theorem word_ne : ("serve" : Str) ≠ "come" := by decide +kernel
theorem ok_undoM {f fT : Addr} {fd fdT : FuncData} (F : Fun K "undo" "Line.undo" sUndoM f fd) (hT : Nm mg) (T : LnT K mg C) (mT : Meth K C "take_newcomer" fT) (GT : FnOk P w K mg base CX0 1 fT fdT ["self"] (spTakeM C)) (bT : Binds K fdT ["self"] []) : FnOk P w K mg base CX0 2 f fd ["self"] (spUndoM C) := by
  refine F.ok scUndoM (fun vs H Q E ⟨L, s, d, e, _⟩ => by rw [e]; rfl) (fun cdv A outer s H vs Q E hr h => ?_)
  obtain ⟨L, s, d, rfl, hL, ok, hd, hn, q⟩ := h
  have nd := scUndoM.nd
  refine ⟨_, (pss_cons (ps_if (pt_not (pt_truth (pe_fld (pv 0) rfl) (by intro _; rfl))) (pss_one ps_never) pss_nil)
      (pss_cons (ps_set (i := 1) nd rfl (.inl rfl) (pe_bm0 PySem.F.plainAttrs_list PySem.F.slot_list_pop PySem.F.type_list_pop mt_pop (pe_fld (pv 0) rfl)))
      (pss_one (ps_if (pt_cmpR op_eq (pe_ix ix_tup (pv 1) pe_int (fun _ _ => rfl)) pe_str (nomark _)) (pss_one (ps_expr (pe_meth0 (pv 0) T.cl mT GT hr bT .nil pass0))) (pss_cons (ps_asg (pe_bm0 PySem.F.plainAttrs_list PySem.F.slot_list_pop PySem.F.type_list_pop mt_pop (pe_fld (pv 0) rfl)) (pg_tup rfl (pgs_cons (pg_name (i := 2) nd rfl (.inl rfl)) (pgs_cons (pg_name (i := 3) nd rfl (.inl rfl)) pgs_nil))))
      (pss_cons (ps_expr (pe_bm PySem.F.plainAttrs_list PySem.F.slot_list_insert PySem.F.type_list_insert mt_insert (pe_fld (pv 0) rfl) (pa_cons pe_int (pa_cons (pv 2) pa_nil))))
      (pss_one (ps_expr (pe_bm PySem.F.plainAttrs_list PySem.F.slot_list_insert PySem.F.type_list_insert mt_insert (pe_fld (pv 0) rfl) (pa_cons pe_int (pa_cons (pv 3) pa_nil))))))))))), ?_⟩
  obtain ⟨d1, d2, d3, d4, d5, d6, d7, d8, d9, d10⟩ := nodup5 hL.nd
  obtain ⟨⟨dx, fs, hob, hf⟩, e_pe, e_re, e_pa, ⟨vs, e_se, a_se⟩, ⟨ws, e_de, a_de⟩, _, _⟩ := id hL
  rw [stepS_ds] at a_de
  obtain ⟨ws', v, rfl, a_de', hv⟩ := a_de.unsnoc
  refine ⟨.ref L.o, rfl, L.o, C, dx, fs, .ref L.de, rfl, hob, T.cl, T.n_de, hf.de, true, .inl ⟨_, SqL.of e_de, by simp⟩, iteF ?_⟩
  -- deed = self.deeds.pop()
  refine ⟨.ref L.o, rfl, L.o, C, dx, fs, .ref L.de, rfl, hob, T.cl, T.n_de, hf.de, .inl ⟨rfl, _, SqL.of e_de⟩, L.de, _, v, rfl, rfl, e_de, last_snoc _ _, ?_⟩
  rw [List.dropLast_concat]
  dsimp only [gName]
  show tIfS _ _ _ _ [some (.ref L.o), some v, none, none] (upd H L.de (.lst ws'))
  have q_de1 : (upd H L.de (.lst ws')) L.de = some (.lst ws') := upd_same
  have k1 : ∀ b, b ≠ L.de → (upd H L.de (.lst ws')) b = H b := fun b n => upd_ne n
  have m1 := (MvL.refl L H).upd (o := .lst ws') (.inr (.inr (.inr (.inr rfl))))
  generalize upd H L.de (.lst ws') = G1 at q_de1 k1 m1
  have kt1 : ∀ t ys, H t = some (.tup ys) → G1 t = some (.tup ys) := fun t ys e => by rw [k1 t (fun z => by rw [z, e_de] at e; cases e)]; exact e
  have hob1 : G1 L.o = some (.ins C dx fs) := by rw [k1 _ (fun z => by rw [z, e_de] at hob; cases hob)]; exact hob
  have e_pe1 : G1 L.pe = _ := (k1 _ d4).trans e_pe
  have e_re1 : G1 L.re = _ := (k1 _ d7).trans e_re
  have e_pa1 : G1 L.pa = _ := (k1 _ d9).trans e_pa
  have e_se1 : G1 L.se = _ := (k1 _ d10).trans e_se
  cases d with
  | come p =>
    obtain ⟨t, rfl, et⟩ := hv
    refine ⟨.ref t, rfl, t, _, 0, .str "come", rfl, rfl, SqT.of (kt1 _ _ et), atI_nat (j := 0) rfl, rfl, _, rfl, ite2 (fun _ => ?_) (fun y => absurd (decide_eq_true rfl) y)⟩
    refine ⟨.ref L.o, rfl, L.o, dx, fs, rfl, hob1, hf.take, L, s, p, rfl, ok, ⟨dx, fs, hob1, hf⟩, e_pe1, e_re1, e_pa1, hL.nd, hn, fun H' kp p1 p2 p3 => ?_⟩
    have kt2 : ∀ t ys, H t = some (.tup ys) → H' t = some (.tup ys) := fun t ys e => by
      have e1 := kt1 _ _ e
      rw [kp t (fun z => by rw [z, e_pe1] at e1; cases e1) (fun z => by rw [z, e_re1] at e1; cases e1) (fun z => by rw [z, e_pa1] at e1; cases e1)]
      exact e1
    exact q H' ⟨⟨dx, fs, (kp _ (fun z => by rw [z, e_pe1] at hob1; cases hob1) (fun z => by rw [z, e_re1] at hob1; cases hob1) (fun z => by rw [z, e_pa1] at hob1; cases hob1)).trans hob1, hf⟩, p1, p2, p3, ⟨vs, (kp _ (Ne.symm d3) (Ne.symm d6) (Ne.symm d8)).trans e_se1, a_se.imp fun _ _ => ServV.kx kt2⟩, ⟨ws', (kp _ (Ne.symm d4) (Ne.symm d7) (Ne.symm d9)).trans q_de1, a_de'.imp fun _ _ => DeedV.kx kt2⟩, hL.nd, ok⟩
      (m1.trans ⟨fun b o nb e => by rw [kp b (fun z => nb (.inl z)) (fun z => nb (.inr (.inl z))) (fun z => nb (.inr (.inr (.inl z))))]; exact e⟩)
  | serve =>
    obtain ⟨t, rfl, et⟩ := hv
    refine ⟨.ref t, rfl, t, _, 0, .str "serve", rfl, rfl, SqT.of (kt1 _ _ et), atI_nat (j := 0) rfl, rfl, _, rfl, ite2 (fun y => absurd (of_decide_eq_true y) (fun z => word_ne (by injection z))) (fun _ => ?_)⟩
    have hx := hd rfl
    obtain ⟨x, xs, ex⟩ : ∃ x xs, s.xs = x :: xs := by
      cases z : s.xs with
      | nil => exact absurd z hx
      | cons x xs => exact ⟨x, xs, rfl⟩
    obtain ⟨r, rs, er⟩ : ∃ r rs, s.rs = r :: rs := by
      have hlen := ok.len
      rw [ex, List.length_cons] at hlen
      cases z : s.rs with
      | nil => rw [z] at hlen; cases hlen
      | cons r rs => exact ⟨r, rs, rfl⟩
    have hss : stepS s .serve = ⟨xs, rs, s.ps, s.sv ++ [(x, r)], s.ds ++ [.serve]⟩ := by
      show serveS s (s.xs.headD 0) (s.rs.headD none) = _
      unfold serveS
      rw [ex, er]
      rfl
    rw [hss] at e_pe1 e_re1 e_pa1 a_se
    obtain ⟨vs', u, rfl, a_se', hu⟩ := a_se.unsnoc
    obtain ⟨t2, rfl, et2⟩ := hu
    have hxl : xs.length ≤ 400 := by have h1 := ok.tot; rw [ex, List.length_cons] at h1; omega
    have hrl : rs.length ≤ 400 := by have h1 := ok.len; rw [ex, er, List.length_cons, List.length_cons] at h1; omega
    -- person, patience = self.served.pop()
    refine ⟨.ref L.o, rfl, L.o, C, dx, fs, .ref L.se, rfl, hob1, T.cl, T.n_se, hf.se, .inl ⟨rfl, _, SqL.of e_se1⟩, L.se, _, _, rfl, rfl, e_se1, last_snoc _ _, ?_⟩
    rw [List.dropLast_concat]
    have q_se2 : (upd G1 L.se (.lst vs')) L.se = some (.lst vs') := upd_same
    have k2 : ∀ b, b ≠ L.se → (upd G1 L.se (.lst vs')) b = G1 b := fun b n => upd_ne n
    have m2 := m1.upd (o := .lst vs') (.inr (.inr (.inr (.inl rfl))))
    generalize upd G1 L.se (.lst vs') = G2 at q_se2 k2 m2
    have kt2 : ∀ t ys, H t = some (.tup ys) → G2 t = some (.tup ys) := fun t ys e => by
      have e1 := kt1 _ _ e
      rw [k2 t (fun z => by rw [z, e_se1] at e1; cases e1)]
      exact e1
    have hob2 : G2 L.o = some (.ins C dx fs) := by rw [k2 _ (fun z => by rw [z, e_se1] at hob1; cases hob1)]; exact hob1
    refine ⟨t2, _, rfl, SqT.of (kt2 _ _ et2), rfl, .int (x : Int), _, rfl, optV r, _, rfl, rfl, ?_⟩
    show tSeq _ _ _ [some (.ref L.o), some (.ref t), some (.int (x : Int)), some (optV r)] G2
    have e_pe2 : G2 L.pe = _ := (k2 _ d3).trans e_pe1
    have e_re2 : G2 L.re = _ := (k2 _ d6).trans e_re1
    -- self.people.insert(0, person)
    refine ⟨.ref L.o, rfl, L.o, C, dx, fs, .ref L.pe, rfl, hob2, T.cl, T.n_pe, hf.pe, .inl ⟨rfl, _, SqL.of e_pe2⟩, .int (x : Int), rfl, L.pe, _, 0, _, rfl, rfl, e_pe2, by rw [ppl_len]; exact small1000 (by show xs.length < 1000; omega), by decide, by decide, ?_⟩
    have ei : (ppl xs).take (0 : Int).toNat ++ [V.int (x : Int)] ++ (ppl xs).drop (0 : Int).toNat = ppl s.xs := by rw [ex]; rfl
    rw [ei]
    have q_pe3 : (upd G2 L.pe (.lst (ppl s.xs))) L.pe = some (.lst (ppl s.xs)) := upd_same
    have k3 : ∀ b, b ≠ L.pe → (upd G2 L.pe (.lst (ppl s.xs))) b = G2 b := fun b n => upd_ne n
    have m3 := m2.upd (o := .lst (ppl s.xs)) (.inl rfl)
    generalize upd G2 L.pe (.lst (ppl s.xs)) = G3 at q_pe3 k3 m3
    have hob3 : G3 L.o = some (.ins C dx fs) := by rw [k3 _ (fun z => by rw [z, e_pe2] at hob2; cases hob2)]; exact hob2
    have e_re3 : G3 L.re = _ := (k3 _ (Ne.symm d1)).trans e_re2
    refine ⟨.ref L.o, rfl, L.o, C, dx, fs, .ref L.re, rfl, hob3, T.cl, T.n_re, hf.re, .inl ⟨rfl, _, SqL.of e_re3⟩, optV r, rfl, L.re, _, 0, _, rfl, rfl, e_re3, by rw [List.length_map]; exact small1000 (by show rs.length < 1000; omega), by decide, by decide, ?_⟩
    have ej : (rs.map optV).take (0 : Int).toNat ++ [optV r] ++ (rs.map optV).drop (0 : Int).toNat = s.rs.map optV := by rw [er]; rfl
    rw [ej]
    have kt4 : ∀ t ys, H t = some (.tup ys) → (upd G3 L.re (.lst (s.rs.map optV))) t = some (.tup ys) := fun t ys e => by
      have e1 := kt2 _ _ e
      rw [upd_ne (fun z => by rw [z, e_re2] at e1; cases e1), k3 t (fun z => by rw [z, e_pe2] at e1; cases e1)]
      exact e1
    refine q _ ⟨⟨dx, fs, ?_, hf⟩, ?_, upd_same, ?_, ⟨vs', ?_, a_se'.imp fun _ _ => ServV.kx kt4⟩, ⟨ws', ?_, a_de'.imp fun _ _ => DeedV.kx kt4⟩, hL.nd, ok⟩ (m3.upd (.inr (.inl rfl)))
    · rw [upd_ne (fun z => by rw [z, e_re3] at hob3; cases hob3)]; exact hob3
    · rw [upd_ne d1]; exact q_pe3
    · rw [upd_ne (Ne.symm d5), k3 _ (Ne.symm d2), k2 _ d8]; exact e_pa1
    · rw [upd_ne (Ne.symm d6), k3 _ (Ne.symm d3)]; exact q_se2
    · rw [upd_ne (Ne.symm d7), k3 _ (Ne.symm d4), k2 _ (Ne.symm d10)]; exact q_de1
theorem ok_histM {f : Addr} {fd : FuncData} (F : Fun K "history" "Line.history" sHistM f fd) (hT : Nm mg) (T : LnT K mg C) : FnOk P w K mg base CX0 1 f fd ["self"] (spHistM C) := by
  refine F.ok scHistM (fun vs H Q E ⟨L, s, e, _⟩ => by rw [e]; rfl) (fun cdv A outer s H vs Q E hr h => ?_)
  obtain ⟨L, s, rfl, hL, q⟩ := h
  refine ⟨_, pss_one (ps_ret (pe_callTy call_list_of (by rfl) hT.list (by decide +kernel) (pa_cons (pe_fld (pv 0) rfl) pa_nil))), ?_⟩
  obtain ⟨⟨dx, fs, hob, hf⟩, e_pe, e_re, e_pa, _, ⟨ws, e_de, a_de⟩, _⟩ := id hL
  exact ⟨.ref L.o, rfl, L.o, C, dx, fs, .ref L.de, rfl, hob, T.cl, T.n_de, hf.de, L.de, _, rfl, .inl (SqL.of e_de), fun p np => q p ws np a_de⟩
end
end CL
set_option Elab.async false
set_option linter.all false
set_option maxRecDepth 100000
set_option maxHeartbeats 4000000
namespace CL
open PySem PySem.Spec PyProof.Rows L2 GE
abbrev sPatL : Stmt := topS 25
theorem scPatL : FnScope ["bag", "most"] ["bag", "most"] (defScope sPatL) := ⟨rfl, rfl, rfl, by decide +kernel, rfl, by decide +kernel, by decide +kernel⟩
def spE (sp : Bg → Sp) : Sp := fun vs H Q E => ∃ r, sp r vs H Q E
def spPatL (r : Bg) : Sp := fun vs H Q _ => ∃ (m : Int) (n : Nat), vs = [.ref r.a, .int m] ∧ BagAt n H r ∧ n + 4 < M60 ∧ 2 ≤ m ∧ m ≤ GREAT ∧ ∀ o H', BagAt (n + 4) H' r → Mv r H H' → isPatience (optD o) = true → (∀ i, o = some i → i ≤ m) → Q (optV o) H'
theorem t140 : (2 : Int) ^ 140 = 1393796574908163946345982392040522594123776 := by decide +kernel
theorem pat_some {i : Int} (h0 : 0 ≤ i) (h1 : i ≤ GREAT) : isPatience (optD (some i)) = true := by
  show (decide (0 ≤ i) && decide (i ≤ GREAT)) = true
  rw [decide_eq_true h0, decide_eq_true h1]
  rfl
section
variable {P : Program} {w : World} {K : PySem.W.Frag} {mg : Str → Option Value} {base : Heap}
theorem ok_patL {f : Addr} {r : Bg} {fd : FuncData} (F : Fun K "_law_patience" "_law_patience" sPatL f fd) (CD : Cal P w K mg base 2 "_law_draw" ["bag", "many"] (spDraw r)) : FnOk P w K mg base CX0 3 f fd ["bag", "most"] (spPatL r) := by
  refine F.ok scPatL (fun vs H Q E ⟨m, n, e, _⟩ => by rw [e]; rfl) (fun cdv A outer s H vs Q E hr h => ?_)
  obtain ⟨m, n, rfl, hb, hn, hm0, hm, q⟩ := h
  refine ⟨_, pss_one (ps_ret (pe_ix ix_list (pe_lst (pa_cons (pe_cal CD hr (by rfl) (pa_cons (pv 0) (pa_cons pe_int pa_nil))) (pa_cons (pe_cal CD hr (by rfl) (pa_cons (pv 0) (pa_cons pe_int pa_nil))) (pa_cons (pe_cal CD hr (by rfl) (pa_cons (pv 0) (pa_cons (pe_op op_add (pv 1) pe_int) pa_nil))) (pa_cons pe_non pa_nil))))) (pe_cal CD hr (by rfl) (pa_cons (pv 0) (pa_cons pe_int pa_nil))) (fun _ _ => rfl))), ?_⟩
  have hm' : m ≤ 1000000000000000000000000000000 := hm
  refine ⟨.ref r.a, rfl, 3, n, rfl, hb, by omega, by decide, by decide, fun x1 H1 b1 v1 a1 c1 => ?_⟩
  refine ⟨.ref r.a, rfl, 3, n + 1, rfl, b1, by omega, by decide, by decide, fun x2 H2 b2 v2 a2 c2 => ?_⟩
  refine ⟨.ref r.a, rfl, .int m, rfl, m, 1, rfl, rfl, m + 1, n + 2, rfl, b2, by omega, by omega, by rw [t140]; omega, fun x3 H3 b3 v3 a3 c3 => ?_⟩
  refine ⟨small_le (by show 4 ≤ 1000; decide), fun p np => ?_⟩
  have s4 : Same H3 (upd H3 p (.lst [.int x1, .int x2, .int x3, .non])) := same_upd np
  have e4 : (upd H3 p (.lst [.int x1, .int x2, .int x3, .non])) p = some (.lst ([some x1, some x2, some x3, none].map optV)) := upd_same
  have npr := b3.new np
  generalize upd H3 p (.lst [.int x1, .int x2, .int x3, .non]) = H4 at s4 e4
  refine ⟨.ref r.a, rfl, 4, n + 3, rfl, b3.same s4, by omega, by decide, by decide, fun x5 H5 b5 v5 a5 c5 => ?_⟩
  obtain ⟨j, rfl⟩ : ∃ j : Nat, x5 = (j : Int) := ⟨x5.toNat, by omega⟩
  have hj : j < [some x1, some x2, some x3, none].length := by show j < 4; omega
  have key : isPatience (optD [some x1, some x2, some x3, none][j]) = true ∧ ∀ i, [some x1, some x2, some x3, none][j] = some i → i ≤ m := by
    have g1 : (1000000000000000000000000000000 : Int) = GREAT := rfl
    match j, hj with
    | 0, _ => exact ⟨pat_some a1 (by omega), fun i e => by cases e; omega⟩
    | 1, _ => exact ⟨pat_some a2 (by omega), fun i e => by cases e; omega⟩
    | 2, _ => exact ⟨pat_some a3 (by omega), fun i e => by cases e; omega⟩
    | 3, _ => exact ⟨rfl, fun i e => by cases e⟩
  exact ⟨p, _, j, optV [some x1, some x2, some x3, none][j], rfl, rfl, SqL.of (v5.keep p _ npr.a e4), atI_nat (by rw [List.getElem?_map, List.getElem?_eq_getElem hj]; rfl), q _ H5 b5 ((v1.trans v2).trans (v3.trans ((Mv.of s4).trans v5))) key.1 key.2⟩
end
/-! ### lists of numbers and None, as data -/
theorem opts_dp {K : PySem.W.Frag} {H : Hp} : ∀ os : List (Option Int), DpAll K H (os.map optV) (os.map optD)
  | [] => .nil
  | o :: os => .cons (optV_dp o) (opts_dp os)
theorem opts_lay : ∀ os : List (Option Int), PyData.canLayAll0 (os.map optD) = true
  | [] => by simp [PyData.canLayAll0]
  | o :: os => by
    have := opts_lay os
    cases o <;> simp [PyData.canLayAll0, PyData.canLay0, this, optD]
theorem opts_depth : ∀ os : List (Option Int), PyData.depthAll (os.map optD) = 0
  | [] => rfl
  | o :: os => by
    have := opts_depth os
    show max (PyData.depth (optD o)) (PyData.depthAll (os.map optD)) = 0
    rw [this]
    cases o <;> rfl
theorem opts_shaped (os : List (Option Int)) : SeqAt.shaped (.list (os.map optD)) = true := by
  unfold SeqAt.shaped
  have h1 : PyData.canLay0 (.list (os.map optD)) = true := by
    have := opts_lay os
    simp [PyData.canLay0, this]
  have h2 : PyData.depth (.list (os.map optD)) = 1 := by
    show PyData.depthAll (os.map optD) + 1 = 1
    rw [opts_depth]
  rw [h1, h2]
  rfl
theorem eqvAll_opts : ∀ as : List (Option Int), PyData.eqvAll (as.map optD) (as.map optD) = true
  | [] => by simp [PyData.eqvAll]
  | o :: as => by
    have := eqvAll_opts as
    cases o <;> simp [PyData.eqvAll, PyData.eqv, optD, this]
theorem eqv_opts (as : List (Option Int)) : PyData.eqv (.list (as.map optD)) (.list (as.map optD)) = true := by
  have := eqvAll_opts as
  simp [PyData.eqv, this]
def so (xs : List Nat) : List (Option Int) := xs.map fun x : Nat => some (x : Int)
theorem ppl_so (xs : List Nat) : ppl xs = (so xs).map optV := by
  unfold ppl so
  rw [List.map_map]
  rfl
theorem opts_flat : ∀ os : List (Option Int), (os.map optV).all flatV = true
  | [] => rfl
  | o :: os => by
    have := opts_flat os
    cases o <;> simp [optV, flatV, this]
theorem inV_zero : ∀ os : List (Option Int), inV (.int 0) (os.map optV) = decide (some 0 ∈ os)
  | [] => rfl
  | o :: os => by
    have ih := inV_zero os
    unfold inV at ih ⊢
    rw [List.map_cons, List.any_cons, ih]
    cases o with
    | none => simp [optV, eqV]
    | some i =>
      show ((i == 0) || decide (some 0 ∈ os)) = decide (some 0 ∈ some i :: os)
      by_cases h : i = 0
      · simp [h]
      · have h' : ¬ (0 : Int) = i := fun z => h z.symm
        simp [h, h']
theorem range_ppl (m : Nat) : rgV 0 (m : Int) = ppl (List.range m) := by
  unfold rgV ppl
  have e : ((m : Int) - 0).toNat = m := by omega
  rw [e]
  refine List.map_congr_left fun i _ => ?_
  rw [Int.zero_add]
def rNeE : R2 := fun x y H Q => ∃ (a b : Addr) (xs : List V), x = .ref a ∧ y = .ref b ∧ H a = some (.lst xs) ∧ H b = some (.lst []) ∧ Q (.bl (!xs.isEmpty)) H
theorem op_neE {X : Cx} (hu : X.A.units < cLine) : OpR X (compareOp .NotEq) rNeE := by
  intro pins s σ H x y v u Q I rx ry ⟨a, b, xs, ex, ey, ha, hb, q⟩
  subst ex ey
  obtain ⟨its, rv, p1, _⟩ := I.list (SqL.of ha)
  obtain ⟨jts, rw', p2, _⟩ := I.list (SqL.of hb)
  cases rx
  cases ry
  have l1 := rv.length
  have l2 := rw'.length
  cases xs with
  | nil =>
    have e : its.toArray.size = jts.toArray.size := by rw [List.size_toArray, List.size_toArray, ← l1, ← l2]
    have e0 : its.toArray.size = 0 := by rw [List.size_toArray, ← l1]; rfl
    have z := SeqAt.RcNeAt.lists (A := X.A) (e := fun _ => true) p1.isList p2.isList e hu (fun j h1 => absurd h1 (by rw [e0]; exact Nat.not_lt_zero j))
    refine z X.prog X.w _ _ ⟨.bl _, H, I, ?_, q⟩
    rw [e0]
    rfl
  | cons x xs =>
    have e : (its.toArray.size != jts.toArray.size) = true := by
      rw [List.size_toArray, List.size_toArray, ← l1, ← l2]
      rfl
    exact SeqAt.RcNeAt.lists_lengths (A := X.A) p1.isList p2.isList e hu X.prog X.w _ _ ⟨.bl _, H, I, rfl, q⟩
theorem Flds.come {fs : List (Str × V)} {L : LnA} (h : Flds fs L) : fs.lookup ("come" : Str) = none := h.no _ (by decide +kernel) (by decide +kernel) (by decide +kernel) (by decide +kernel) (by decide +kernel)
theorem Flds.serve {fs : List (Str × V)} {L : LnA} (h : Flds fs L) : fs.lookup ("serve" : Str) = none := h.no _ (by decide +kernel) (by decide +kernel) (by decide +kernel) (by decide +kernel) (by decide +kernel)
theorem Flds.queue {fs : List (Str × V)} {L : LnA} (h : Flds fs L) : fs.lookup ("queue" : Str) = none := h.no _ (by decide +kernel) (by decide +kernel) (by decide +kernel) (by decide +kernel) (by decide +kernel)
theorem Flds.left {fs : List (Str × V)} {L : LnA} (h : Flds fs L) : fs.lookup ("left" : Str) = none := h.no _ (by decide +kernel) (by decide +kernel) (by decide +kernel) (by decide +kernel) (by decide +kernel)
theorem Flds.went {fs : List (Str × V)} {L : LnA} (h : Flds fs L) : fs.lookup ("went_past" : Str) = none := h.no _ (by decide +kernel) (by decide +kernel) (by decide +kernel) (by decide +kernel) (by decide +kernel)
/-! ### a bag and lines side by side -/
section
variable {n : Nat} {C : Addr} {H H' : Hp} {r : Bg} {L : LnA} {s : LS}
theorem BagAt.mvL (hb : BagAt n H r) (h1 : ¬ L.has r.a) (h2 : ¬ L.has r.c) (m : MvL L H H') : BagAt n H' r := by
  obtain ⟨ns, i, b, k, t, er, ec, h⟩ := hb
  exact ⟨ns, i, b, k, t, m.keep _ _ h1 er, m.keep _ _ h2 ec, h⟩
theorem BagAt.isl (hb : BagAt n H r) : ∃ vs, H r.a = Option.some (HO.lst vs) := by
  obtain ⟨ns, i, b, k, t, er, ec, h⟩ := hb
  exact ⟨_, er⟩
theorem LineAt.mv (h : LineAt C H L s) (hb : BagAt n H r) (d : ¬ L.has r.a) (m : Mv r H H') : LineAt C H' L s := h.kx fun b o hbo e => m.keep b o (fun z => by
  rcases hbo with q | q
  · exact d (by rw [← z]; exact q)
  · obtain ⟨vs, e2⟩ := hb.isl
    rw [z, e2] at e
    exact q vs (Option.some.inj e).symm) e
theorem LineAt.store (h : LineAt C H L s) {g : Addr} {xs ys : List V} (e : H g = some (.lst xs)) (d : ¬ L.has g) : LineAt C (upd H g (.lst ys)) L s := h.kx fun b o hbo eb => by
  rw [upd_ne]
  · exact eb
  · intro z
    rcases hbo with q | q
    · exact d (by rw [← z]; exact q)
    · rw [z, e] at eb
      exact q _ (Option.some.inj eb).symm
end
end CL
set_option Elab.async false
set_option linter.all false
set_option maxRecDepth 100000
set_option maxHeartbeats 4000000
namespace CL
open PySem PySem.Spec PyProof.Rows L2 GE
/-! ### who went past whom -/
theorem goes_nz : ∀ (p : Nat) (l : List (Option Int)) (j : Nat), (goes p l).1 ≤ j → j < p → l[j]? ≠ some (some 0)
  | 0, l, j, _, h => absurd h (Nat.not_lt_zero j)
  | p + 1, l, j, h1, h2 => by
    cases q : l[p]? with
    | none =>
      rw [goes_eX q] at h1
      exact absurd h2 (by show ¬ j < p + 1; have : p + 1 ≤ j := h1; omega)
    | some o =>
      cases o with
      | none =>
        rw [goes_eN q] at h1
        by_cases e : j = p
        · subst e; rw [q]; exact fun z => by cases z
        · exact goes_nz p l j h1 (by omega)
      | some v =>
        by_cases hv : v = 0
        · subst hv
          rw [goes_e0 q] at h1
          exact absurd h2 (by show ¬ j < p + 1; have : p + 1 ≤ j := h1; omega)
        · rw [goes_eS q hv] at h1
          by_cases e : j = p
          · subst e; rw [q]; exact fun z => by cases z; exact hv rfl
          · have := goes_nz p _ j h1 (by omega)
            rw [List.getElem?_set, if_neg (Ne.symm e)] at this
            exact this
theorem goes_stop : ∀ (p : Nat) (l : List (Option Int)) (k : Nat), p ≤ l.length → (goes p l).1 = k + 1 → l[k]? = some (some 0)
  | 0, l, k, _, h => by cases h
  | p + 1, l, k, hl, h => by
    cases q : l[p]? with
    | none => rw [List.getElem?_eq_getElem (by omega)] at q; cases q
    | some o =>
      cases o with
      | none =>
        rw [goes_eN q] at h
        exact goes_stop p l k (by omega) h
      | some v =>
        by_cases hv : v = 0
        · subst hv
          rw [goes_e0 q] at h
          have h : p + 1 = k + 1 := h
          obtain rfl : p = k := by omega
          exact q
        · rw [goes_eS q hv] at h
          have hk := (goes_le p (l.set p (some (v - 1)))).1
          have := goes_stop p _ k (by rw [List.length_set]; omega) h
          rw [List.getElem?_set, if_neg (by omega)] at this
          exact this
theorem bump_getD : ∀ (ys ps : List Nat) (y : Nat), (∀ z ∈ ys, z < ps.length) → (bump ps ys).getD y 0 = ps.getD y 0 + ys.count y
  | [], ps, y, _ => rfl
  | z :: ys, ps, y, h => by
    show (bump (ps.set z (ps.getD z 0 + 1)) ys).getD y 0 = _
    rw [bump_getD ys _ y (fun x hx => by rw [List.length_set]; exact h x (List.mem_cons_of_mem _ hx)), List.count_cons]
    have hz := h z List.mem_cons_self
    by_cases e : z = y
    · subst e
      have : (ps.set z (ps.getD z 0 + 1)).getD z 0 = ps.getD z 0 + 1 := by simp [List.getD_eq_getElem?_getD, hz]
      rw [this]
      simp
      omega
    · have : (ps.set z (ps.getD z 0 + 1)).getD y 0 = ps.getD y 0 := by simp [List.getD_eq_getElem?_getD, List.getElem?_set, e]
      rw [this]
      simp [e]
theorem sum_set : ∀ (ps : List Nat) (z v : Nat), z < ps.length → (ps.set z v).sum + ps.getD z 0 = ps.sum + v
  | [], z, v, h => absurd h (Nat.not_lt_zero z)
  | p :: ps, 0, v, _ => by simp; omega
  | p :: ps, z + 1, v, h => by
    have := sum_set ps z v (Nat.lt_of_succ_lt_succ h)
    simp only [List.set_cons_succ, List.sum_cons, List.getD_cons_succ]
    omega
theorem bump_sum : ∀ (ys ps : List Nat), (∀ z ∈ ys, z < ps.length) → (bump ps ys).sum = ps.sum + ys.length
  | [], ps, _ => rfl
  | z :: ys, ps, h => by
    show (bump (ps.set z (ps.getD z 0 + 1)) ys).sum = _
    rw [bump_sum ys _ (fun x hx => by rw [List.length_set]; exact h x (List.mem_cons_of_mem _ hx)), List.length_cons]
    have := sum_set ps z (ps.getD z 0 + 1) (h z List.mem_cons_self)
    omega
theorem ins_get {α : Type} (l : List α) (a : α) (k i : Nat) (hk : k ≤ l.length) : (l.take k ++ a :: l.drop k)[i]? = if i < k then l[i]? else if i = k then some a else l[i - 1]? := by
  have lt : (l.take k).length = k := by rw [List.length_take]; omega
  by_cases h1 : i < k
  · rw [if_pos h1, List.getElem?_append_left (by omega), List.getElem?_take, if_pos h1]
  · rw [if_neg h1, List.getElem?_append_right (by omega), lt]
    by_cases h2 : i = k
    · subst h2
      rw [if_pos rfl, Nat.sub_self]
      rfl
    · rw [if_neg h2, show i - k = (i - k - 1) + 1 by omega, List.getElem?_cons_succ, List.getElem?_drop]
      congr 1
      omega
abbrev LS.past (s : LS) (x : Nat) : Nat := s.ps.getD x 0
/-- of two that stand, the one in front and the one behind -/
def Rel (s : LS) (f b : Nat) : Prop := (b < f → f ≤ b + s.past b) ∧ (f < b → f + s.past f < b)
structure Gd (s : LS) (cw : List (Option Int)) : Prop where
  len : cw.length = s.ps.length
  nd : s.xs.Nodup
  le : ∀ x : Nat, x < s.ps.length → x + s.past x + 1 ≤ s.ps.length
  ord : s.xs.Pairwise (Rel s)
  far : ∀ (i x : Nat), s.xs[i]? = some x → x + s.past x + 1 = s.ps.length ∨ ∃ j : Nat, i ≤ j ∧ s.rs[j]? = some (some 0)
  left : ∀ (i x : Nat) (o : Option Int), s.xs[i]? = some x → s.rs[i]? = some o → ∃ w, cw[x]? = some w ∧ o = w.map (· - ((s.past x : Nat) : Int))
theorem gd_nil : Gd LS.nil [] := ⟨rfl, List.nodup_nil, fun x h => absurd h (Nat.not_lt_zero x), .nil, (fun i x h => by simp [LS.nil] at h), fun i x o h => by simp [LS.nil] at h⟩
theorem comeS_ndX {s : LS} (h : s.Ok) (nd : s.xs.Nodup) (p : Option Int) : (comeS s p).xs.Nodup := by
  have hp := List.perm_middle (a := s.ps.length) (l₁ := s.xs.take s.k) (l₂ := s.xs.drop s.k)
  rw [List.take_append_drop] at hp
  show (s.xs.take s.k ++ s.ps.length :: s.xs.drop s.k).Nodup
  rw [hp.nodup_iff, List.nodup_cons]
  exact ⟨fun m => absurd (h.lt _ m) (Nat.lt_irrefl _), nd⟩
theorem come_ps (s : LS) (p : Option Int) : (comeS s p).ps.length = s.ps.length + 1 := by
  show (bump _ _ ++ [0]).length = _
  rw [List.length_append, bump_len]
  rfl
theorem count_one {x : Nat} : ∀ {l : List Nat}, l.Nodup → x ∈ l → l.count x = 1
  | [], _, h => nomatch h
  | y :: l, nd, h => by
    rw [List.nodup_cons] at nd
    rw [List.count_cons]
    rcases List.mem_cons.mp h with e | h
    · subst e
      rw [List.count_eq_zero.mpr nd.1]
      simp
    · rw [count_one nd.2 h]
      have : ¬ y = x := fun z => nd.1 (by rw [z]; exact h)
      simp [this]
/-- how many went past each, behind one more -/
theorem come_past {s : LS} (ok : s.Ok) (nd : s.xs.Nodup) (p : Option Int) {x : Nat} (hx : x < s.ps.length) : (comeS s p).past x = s.past x + (if x ∈ s.xs.drop s.k then 1 else 0) := by
  have hb := bump_len (s.xs.drop s.k) s.ps
  show (bump s.ps (s.xs.drop s.k) ++ [0]).getD x 0 = _
  rw [List.getD_eq_getElem?_getD, List.getElem?_append_left (by omega), ← List.getD_eq_getElem?_getD, bump_getD _ _ _ fun z hz => ok.lt z (List.mem_of_mem_drop hz)]
  congr 1
  have nd2 : (s.xs.drop s.k).Nodup := nd.sublist (List.drop_sublist _ _)
  by_cases h : x ∈ s.xs.drop s.k
  · rw [if_pos h, count_one nd2 h]
  · rw [if_neg h, List.count_eq_zero.mpr h]
theorem come_past_new (s : LS) (p : Option Int) : (comeS s p).past s.ps.length = 0 := by
  have hb := bump_len (s.xs.drop s.k) s.ps
  show (bump s.ps (s.xs.drop s.k) ++ [0]).getD s.ps.length 0 = 0
  rw [List.getD_eq_getElem?_getD, List.getElem?_append_right (by omega), hb, Nat.sub_self]
  rfl
theorem Gd.come {s : LS} {cw : List (Option Int)} (g : Gd s cw) (ok : s.Ok) (p : Option Int) : Gd (comeS s p) (cw ++ [p]) := by
  obtain ⟨g1, g2⟩ := goes_le s.rs.length s.rs
  have hl := ok.len
  have hk : s.k ≤ s.xs.length := by rw [hl]; exact g1
  have hps := come_ps s p
  have hp : ∀ {x}, x < s.ps.length → (comeS s p).past x = s.past x + (if x ∈ s.xs.drop s.k then 1 else 0) := come_past ok g.nd p
  have hpn := come_past_new s p
  have behind : ∀ x ∈ s.xs.drop s.k, x + s.past x + 1 = s.ps.length := fun x hx => by
    obtain ⟨i, hi⟩ := List.getElem?_of_mem hx
    rw [List.getElem?_drop] at hi
    rcases g.far _ _ hi with z | ⟨j, hj, hz⟩
    · exact z
    · exact absurd hz (goes_nz s.rs.length s.rs j (by show s.k ≤ j; omega) (List.getElem?_eq_some_iff.mp hz).1)
  have le' : ∀ x, x < (comeS s p).ps.length → x + (comeS s p).past x + 1 ≤ (comeS s p).ps.length := fun x hx => by
    rw [hps] at hx ⊢
    by_cases e : x = s.ps.length
    · subst e; rw [hpn]; omega
    · rw [hp (by omega)]
      have := g.le x (by omega)
      by_cases h : x ∈ s.xs.drop s.k
      · rw [if_pos h]; omega
      · rw [if_neg h]; omega
  have relO : ∀ f b, f ∈ s.xs → b ∈ s.xs → Rel s f b → Rel (comeS s p) f b := fun f b hf hb h => by
    have lf := ok.lt f hf
    have lb := ok.lt b hb
    refine ⟨fun z => ?_, fun z => ?_⟩
    · have := h.1 z
      rw [hp lb]
      omega
    · have := h.2 z
      rw [hp lf]
      by_cases m : f ∈ s.xs.drop s.k
      · have := behind f m
        omega
      · rw [if_neg m]; omega
  refine ⟨by rw [List.length_append, hps, g.len]; rfl, comeS_ndX ok g.nd p, le', ?_, fun i x hi => ?_, fun i x o hi ho => ?_⟩
  · show (s.xs.take s.k ++ s.ps.length :: s.xs.drop s.k).Pairwise (Rel (comeS s p))
    have hw := g.ord
    rw [← List.take_append_drop s.k s.xs, List.pairwise_append] at hw
    obtain ⟨w1, w2, w3⟩ := hw
    refine List.pairwise_append.mpr ⟨w1.imp_of_mem fun ha hb r => relO _ _ (List.mem_of_mem_take ha) (List.mem_of_mem_take hb) r, List.pairwise_cons.mpr ⟨fun b hb => ?_, w2.imp_of_mem fun ha hb r => relO _ _ (List.mem_of_mem_drop ha) (List.mem_of_mem_drop hb) r⟩, fun f hf b hb => ?_⟩
    · have lb := ok.lt b (List.mem_of_mem_drop hb)
      refine ⟨fun _ => ?_, fun z => by omega⟩
      rw [hp lb, if_pos hb]
      have := behind b hb
      omega
    · rcases List.mem_cons.mp hb with e | hb
      · subst e
        have lf := ok.lt f (List.mem_of_mem_take hf)
        refine ⟨fun z => by omega, fun _ => ?_⟩
        have nf : f ∉ s.xs.drop s.k := fun m => by
          have nd := g.nd
          rw [← List.take_append_drop s.k s.xs] at nd
          exact (List.nodup_append.mp nd).2.2 f hf f m rfl
        rw [hp lf, if_neg nf]
        have := g.le f lf
        omega
      · exact relO f b (List.mem_of_mem_take hf) (List.mem_of_mem_drop hb) (w3 f hf b hb)
  · have hi : (s.xs.take s.k ++ s.ps.length :: s.xs.drop s.k)[i]? = some x := hi
    rw [ins_get _ _ _ _ hk] at hi
    by_cases h1 : i < s.k
    · refine .inr ⟨s.k - 1, by omega, ?_⟩
      have hz := goes_stop s.rs.length s.rs (s.k - 1) (Nat.le_refl _) (by show s.k = s.k - 1 + 1; omega)
      show ((goes s.rs.length s.rs).2.take s.k ++ p :: (goes s.rs.length s.rs).2.drop s.k)[s.k - 1]? = _
      rw [ins_get _ _ _ _ (by omega), if_pos (by omega)]
      exact goes_zero s.rs.length s.rs _ hz
    · rw [if_neg h1] at hi
      refine .inl ?_
      rw [hps]
      by_cases h2 : i = s.k
      · rw [if_pos h2] at hi
        cases hi
        rw [hpn]
      · rw [if_neg h2] at hi
        have hm : x ∈ s.xs.drop s.k := by
          refine List.mem_of_getElem? (i := i - 1 - s.k) ?_
          rw [List.getElem?_drop, show s.k + (i - 1 - s.k) = i - 1 by omega]
          exact hi
        rw [hp (ok.lt x (List.mem_of_mem_drop hm)), if_pos hm]
        have := behind x hm
        omega
  · have hi : (s.xs.take s.k ++ s.ps.length :: s.xs.drop s.k)[i]? = some x := hi
    have ho : ((goes s.rs.length s.rs).2.take s.k ++ p :: (goes s.rs.length s.rs).2.drop s.k)[i]? = some o := ho
    rw [ins_get _ _ _ _ hk] at hi
    rw [ins_get _ _ _ _ (by omega), goes_at, goes_at] at ho
    by_cases h1 : i < s.k
    · rw [if_pos h1] at hi ho
      have hkk : (goes s.rs.length s.rs).1 = s.k := rfl
      rw [if_neg (by omega)] at ho
      obtain ⟨wv, e1, e2⟩ := g.left i x o hi ho
      have hx := ok.lt x (List.mem_of_getElem? hi)
      have nx : x ∉ s.xs.drop s.k := fun m => by
        have nd := g.nd
        rw [← List.take_append_drop s.k s.xs] at nd
        refine (List.nodup_append.mp nd).2.2 x (List.mem_of_getElem? (i := i) ?_) x m rfl
        rw [List.getElem?_take, if_pos h1]
        exact hi
      refine ⟨wv, by rw [List.getElem?_append_left (by have := g.len; omega)]; exact e1, ?_⟩
      rw [hp hx, if_neg nx]
      exact e2
    · rw [if_neg h1] at hi ho
      by_cases h2 : i = s.k
      · rw [if_pos h2] at hi ho
        cases hi
        cases ho
        refine ⟨p, by rw [List.getElem?_append_right (by have := g.len; omega), g.len, Nat.sub_self]; rfl, ?_⟩
        rw [hpn]
        cases p <;> simp
      · rw [if_neg h2] at hi ho
        have hlt := (List.getElem?_eq_some_iff.mp hi).1
        have hkk : (goes s.rs.length s.rs).1 = s.k := rfl
        rw [if_pos ⟨by omega, by omega⟩] at ho
        cases q : s.rs[i - 1]? with
        | none => rw [q] at ho; cases ho
        | some o' =>
          rw [q] at ho
          cases ho
          obtain ⟨wv, e1, e2⟩ := g.left (i - 1) x o' hi q
          have hx := ok.lt x (List.mem_of_getElem? hi)
          have hm : x ∈ s.xs.drop s.k := by
            refine List.mem_of_getElem? (i := i - 1 - s.k) ?_
            rw [List.getElem?_drop, show s.k + (i - 1 - s.k) = i - 1 by omega]
            exact hi
          refine ⟨wv, by rw [List.getElem?_append_left (by have := g.len; omega)]; exact e1, ?_⟩
          rw [hp hx, if_pos hm, e2]
          cases wv with
          | none => rfl
          | some v =>
            show some (v - ((s.past x : Nat) : Int) - 1) = some (v - ((s.past x + 1 : Nat) : Int))
            congr 1
            omega
theorem Gd.serve {s : LS} {cw : List (Option Int)} (g : Gd s cw) (x : Nat) (r : Option Int) : Gd (serveS s x r) cw := by
  refine ⟨g.len, ?_, g.le, ?_, fun i y hi => ?_, fun i y o hi ho => ?_⟩
  · show s.xs.tail.Nodup
    exact g.nd.tail
  · show s.xs.tail.Pairwise (Rel s)
    exact g.ord.tail
  · have hi : s.xs.tail[i]? = some y := hi
    rw [← List.drop_one, List.getElem?_drop] at hi
    rcases g.far _ _ hi with z | ⟨j, hj, hz⟩
    · exact .inl z
    · refine .inr ⟨j - 1, by omega, ?_⟩
      show s.rs.tail[j - 1]? = _
      rw [← List.drop_one, List.getElem?_drop, show 1 + (j - 1) = j by omega]
      exact hz
  · have hi : s.xs.tail[i]? = some y := hi
    have ho : s.rs.tail[i]? = some o := ho
    rw [← List.drop_one, List.getElem?_drop] at hi ho
    exact g.left _ _ _ hi ho
end CL
set_option Elab.async false
set_option linter.all false
set_option maxRecDepth 100000
set_option maxHeartbeats 4000000
namespace CL
open PySem PySem.Spec PyProof.Rows L2 GE
def iSeqW (K : PySem.W.Frag) (tl : TE) : TI := fun σ H R => tl σ H fun x H1 => ∃ a xs, x = .ref a ∧ StSeq H1 a xs ∧ ∀ J, (∀ H2, (∀ o, H1 a = some o → H2 a = some o) → StandsAs K a xs J H2) → R J H1
theorem pi_seqW {X : Cx} {tg l : Expr} {tl : TE} (hl : PE X l tl) : PI X tg l (iSeqW X.K tl) := by
  refine ⟨fun pins s σ H R I h => thn (hl.run pins s σ H _ I h) fun v s1 ⟨x, H1, I1, r1, a, xs, e, st, q⟩ => ?_⟩
  subst e
  cases r1
  have new : ∀ b ∈ [s1.heap.objs.size], FpOk X pins H1 b := fun b hb => by
    rw [List.mem_singleton.mp hb]
    exact I1.fpOk (Nat.le_refl _) (I1.hok.fresh (Nat.le_refl _))
  have kept := fun {o : Obj} => I1.kept (h' := s1.heap.push o) (t' := s1.toks) fun b o' e => Heap.get?_push_of_some _ e
  rcases st.or with hq | hq
  · obtain ⟨its, rv, p, hz⟩ := I1.list (SqL.of hq)
    exact wpAny_pyIter_list p.isList ⟨s1.heap.objs.size, [s1.heap.objs.size], _, _, H1, rfl, kept, turn_list a _, ⟨_, Heap.get?_push_size _ rfl, rfl, rfl⟩, new, q _ fun H2 e => .inl ⟨rfl, SqL.of (e _ hq)⟩⟩
  · obtain ⟨its, rv, p, hz⟩ := I1.tuple (SqT.of hq)
    exact wpAny_pyIter_tuple (show s1.heap.IsTuple a its.toArray from p) ⟨s1.heap.objs.size, [s1.heap.objs.size], _, _, H1, rfl, kept, turn_tuple a _, ⟨_, Heap.get?_push_size _ rfl, rfl, rfl⟩, new, q _ fun H2 e => .inr ⟨rfl, SqT.of (e _ hq)⟩⟩
theorem for_seq {K : PySem.W.Frag} {a : Addr} {xs : List V} {J : It} {g : TG} {tb : TS} {D : Ends} {σ : L2.St} {H : Hp} (Pv : Nat → L2.St → Hp → Prop) (h0 : Pv 0 σ H) (hl : ∀ i σ H, Pv i σ H → StandsAs K a xs J H)
    (hs : ∀ i x σ H, xs[i]? = some x → Pv i σ H → g x σ H fun σ2 H2 => tb { D with nx := Pv (i + 1), ct := Pv (i + 1), bk := D.nx } σ2 H2) (hd : ∀ σ H, Pv xs.length σ H → D.nx σ H) :
    ∃ W : Nat → Nat → L2.St → Hp → Prop, (∃ m, W 0 m σ H) ∧ ∀ i m σ H, W i m σ H →
      (J.stop i H ∧ D.nx σ H) ∨ (J.go i H ∧ ∃ N : L2.St → Hp → Prop, (∀ σ' H', N σ' H' → ∃ m', m' < m ∧ W (i + 1) m' σ' H') ∧ ∀ x H', J.yld i H x H' → g x σ H' fun σ2 H2 => tb { D with nx := N, ct := N, bk := D.nx } σ2 H2) := by
  refine ⟨fun i m σ H => m + i = xs.length ∧ Pv i σ H, ⟨xs.length, rfl, h0⟩, ?_⟩
  rintro i m σ H ⟨hm, p⟩
  have s := hl i σ H p
  cases m with
  | zero =>
    obtain rfl : i = xs.length := by omega
    exact .inl ⟨s.stop (Nat.le_refl _), hd σ H p⟩
  | succ m =>
    have lt : i < xs.length := by omega
    refine .inr ⟨s.go (List.getElem?_eq_getElem lt), Pv (i + 1), fun σ' H' p' => ⟨m, Nat.lt_succ_self m, by omega, p'⟩, fun x H' y => ?_⟩
    obtain ⟨rfl, hx⟩ := s.yld y
    exact hs i x σ _ hx p
theorem walk_seq {K : PySem.W.Frag} {a : Addr} {xs : List V} {J : It} {G : Hp → Prop} (h : ∀ H, G H → StandsAs K a xs J H) : Walk J xs.length G (YAt xs) :=
  ⟨fun i H hi g => (h H g).go (List.getElem?_eq_getElem hi), fun H g => (h H g).stop (Nat.le_refl _), fun i H x H' _ g y => (h H g).yld y⟩
abbrev sRow : Stmt := topS 9
abbrev sIsDeed : Stmt := topS 16
abbrev sIsCom : Stmt := topS 17
abbrev sIsHist : Stmt := topS 18
abbrev sLineOf : Stmt := topS 19
theorem scRow : FnScope ["thing"] ["thing"] (defScope sRow) := ⟨rfl, rfl, rfl, by decide +kernel, rfl, by decide +kernel, by decide +kernel⟩
theorem scIsDeed : FnScope ["thing", "word", "many"] ["thing", "word", "many"] (defScope sIsDeed) := ⟨rfl, rfl, rfl, by decide +kernel, rfl, by decide +kernel, by decide +kernel⟩
theorem scIsCom : FnScope ["thing"] ["thing"] (defScope sIsCom) := ⟨rfl, rfl, rfl, by decide +kernel, rfl, by decide +kernel, by decide +kernel⟩
theorem scIsHist : FnScope ["thing", "standing", "deed"] ["thing"] (defScope sIsHist) := ⟨rfl, rfl, rfl, by decide +kernel, rfl, by decide +kernel, by decide +kernel⟩
theorem scLineOf : FnScope ["history", "line", "deed"] ["history"] (defScope sLineOf) := ⟨rfl, rfl, rfl, by decide +kernel, rfl, by decide +kernel, by decide +kernel⟩
/-! ### deeds, as data -/
def headIs (w : Str) : List PyData → Bool
  | .str z :: _ => decide (z = w)
  | _ => false
def isDeedD (d : PyData) (w : Str) (m : Nat) : Bool := match rowsD d with
  | some ds => decide (ds.length = m) && headIs w ds
  | none => false
def sndP : PyData → PyData := fun d => match rowsD d with
  | some (_ :: p :: _) => p
  | _ => .none
def isComD (d : PyData) : Bool := isDeedD d "come" 2 && isPatience (sndP d)
/-- how many stand behind so many deeds, none where they can't be done -/
def standF : List PyData → Nat → Option Nat
  | [], n => some n
  | d :: ds, n => if isComD d = true then standF ds (n + 1) else if isDeedD d "serve" 1 = true then (if 0 < n then standF ds (n - 1) else none) else none
def isHistD (d : PyData) : Bool := match rowsD d with
  | some ds => (standF ds 0).isSome
  | none => false
def patOf : PyData → Option Int
  | .int i => some i
  | _ => none
def toDeed (d : PyData) : Deed := if isComD d = true then .come (patOf (sndP d)) else .serve
theorem pat_of {d : PyData} (h : isPatience d = true) : d = optD (patOf d) ∧ isPatience (optD (patOf d)) = true := by
  cases d with
  | none => exact ⟨rfl, rfl⟩
  | int i => exact ⟨rfl, h⟩
  | _ => cases h
def isStrB : PyData → Bool
  | .str _ => true
  | _ => false
theorem kit_str {K : PySem.W.Frag} (d : PyData) : PySem.W.kitOne K (.type (tyName d)) (.type "str") = some (isStrB d) := by cases d <;> (refine kit_ty ?_; dsimp only [tyName, isStrB]; decide +kernel)
theorem rix_of {K : PySem.W.Frag} {H : Hp} {a : Addr} {xs : List V} {i : Nat} {v : V} {Q : VK} (h : H a = some (.lst xs) ∨ H a = some (.tup xs)) (e : xs[i]? = some v) (q : Q v H) : rIx K (.ref a) (.int (i : Int)) H Q := by
  rcases h with h | h
  · exact .inl ⟨a, xs, (i : Int), v, rfl, rfl, SqL.of h, atI_nat e, q⟩
  · exact .inr (.inl ⟨a, xs, (i : Int), v, rfl, rfl, SqT.of h, atI_nat e, q⟩)
/-- == of a text and what is there -/
def spIsDeed : Sp := fun vs H Q _ => ∃ (v : V) (d : PyData) (w : Str) (m : Nat), vs = [v, .str w, .int (m : Int)] ∧ Rp H v d ∧ 1 ≤ m ∧ ∀ H', Same H H' → Q (.bl (isDeedD d w m)) H'
theorem comD_toDeed {d : PyData} (h : isComD d = true) : ∃ p, toDeed d = .come p ∧ isPatience (optD p) = true ∧ sndP d = optD p := by
  have h2 : isPatience (sndP d) = true := by
    unfold isComD at h
    rw [Bool.and_eq_true] at h
    exact h.2
  obtain ⟨e1, e2⟩ := pat_of h2
  exact ⟨patOf (sndP d), by unfold toDeed; rw [if_pos h], e2, e1⟩
theorem comD_rows {d : PyData} (h : isComD d = true) : ∃ w p, rowsD d = some [w, p] ∧ sndP d = p := by
  unfold isComD isDeedD at h
  rw [Bool.and_eq_true] at h
  cases q : rowsD d with
  | none => rw [q] at h; cases h.1
  | some ds =>
    rw [q] at h
    have h1 := h.1
    simp only [Bool.and_eq_true, decide_eq_true_eq] at h1
    match ds, h1.1 with
    | [w, p], _ => exact ⟨w, p, rfl, by unfold sndP; rw [q]⟩
/-- a history, and what its deeds come to -/
theorem standF_ok : ∀ (ds : List PyData) (es : List Deed) (k : Nat), Vd es → (standF ds (stF es).xs.length) = some k → Vd (es ++ ds.map toDeed)
  | [], es, k, hv, _ => by rw [List.map_nil, List.append_nil]; exact hv
  | d :: ds, es, k, hv, h => by
    have e1 : es ++ (d :: ds).map toDeed = (es ++ [toDeed d]) ++ ds.map toDeed := by simp
    rw [e1]
    unfold standF at h
    have hl := hv.ok.len
    by_cases c : isComD d = true
    · rw [if_pos c] at h
      obtain ⟨p, e2, _, _⟩ := comD_toDeed c
      rw [e2]
      refine standF_ok ds (es ++ [.come p]) k (hv.come p) ?_
      rw [stF_snoc]
      have : (stepS (stF es) (.come p)).xs.length = (stF es).xs.length + 1 := by
        obtain ⟨g1, _⟩ := goes_le (stF es).rs.length (stF es).rs
        show (_ ++ _ :: _).length = _
        rw [List.length_append, List.length_cons, List.length_take, List.length_drop]
        omega
      rw [this]
      exact h
    · rw [if_neg c] at h
      by_cases c2 : isDeedD d "serve" 1 = true
      · rw [if_pos c2] at h
        by_cases c3 : 0 < (stF es).xs.length
        · rw [if_pos c3] at h
          have e2 : toDeed d = .serve := by unfold toDeed; rw [if_neg c]
          rw [e2]
          refine standF_ok ds (es ++ [.serve]) k (hv.serve fun z => by rw [z] at c3; exact absurd c3 (by decide)) ?_
          rw [stF_snoc]
          have : (stepS (stF es) .serve).xs.length = (stF es).xs.length - 1 := by
            show (stF es).xs.tail.length = _
            rw [List.length_tail]
          rw [this]
          exact h
        · rw [if_neg c3] at h; cases h
      · rw [if_neg c2] at h; cases h
theorem standF_take : ∀ (ds : List PyData) (n : Nat) (i : Nat), (standF ds n).isSome = true → (standF (ds.take i) n).isSome = true
  | [], n, i, h => by rw [List.take_nil]; exact h
  | d :: ds, n, 0, h => rfl
  | d :: ds, n, i + 1, h => by
    rw [List.take_succ_cons]
    unfold standF at h ⊢
    by_cases c : isComD d = true
    · rw [if_pos c] at h ⊢; exact standF_take ds _ i h
    · rw [if_neg c] at h ⊢
      by_cases c2 : isDeedD d "serve" 1 = true
      · rw [if_pos c2] at h ⊢
        by_cases c3 : 0 < n
        · rw [if_pos c3] at h ⊢; exact standF_take ds _ i h
        · rw [if_neg c3] at h; cases h
      · rw [if_neg c2] at h; cases h
def spLineOf (C : Addr) : Sp := fun vs H Q _ => ∃ (v : V) (d : PyData) (ds : List PyData), vs = [v] ∧ Rp H v d ∧ rowsD d = some ds ∧ (standF ds 0).isSome = true ∧ ds.length ≤ 310 ∧
  ∀ (L : LnA) H', Same H H' → (∀ b, L.has b → H b = none) → LineAt C H' L (stF (ds.map toDeed)) → Vd (ds.map toDeed) → Q (.ref L.o) H'
section
variable {P : Program} {w : World} {K : PySem.W.Frag} {mg : Str → Option Value} {base : Heap} {C : Addr}
theorem ok_row {f : Addr} {fd : FuncData} (F : Fun K "is_row" "is_row" sRow f fd) (T : Nm mg) (htup : mg "tuple" = none) : FnOk P w K mg base CX0 1 f fd ["thing"] (spOne isRow) := by
  refine F.ok scRow spOne_len (fun cdv A outer s H vs Q E hr h => ?_)
  obtain ⟨v, d, rfl, hR, q⟩ := h
  refine ⟨_, pss_one (ps_ret (pe_callB call_isiT (by rfl) T.isi (by decide +kernel) (pa_cons (pv 0) (pa_cons (pe_tup (pa_cons (pe_bltn (v := .ty "list") (by rfl) T.list PyProof.Rows.boot_list rfl) (pa_cons (pe_bltn (v := .ty "tuple") (by rfl) htup PyProof.Rows.boot_tuple rfl) pa_nil))) pa_nil)))), ?_⟩
  refine ⟨v, rfl, by show 2 ≤ sizeLine; decide, fun p np => ⟨v, p, [.ty "list", .ty "tuple"], _, _, isRow d, rfl, upd_same, .cons (.ty _) (.cons (.ty _) .nil), (Rp.ex (Ex.new np) d v hR).ty, kit_rows d, q _ (same_upd np)⟩⟩
theorem ok_isDeed {f : Addr} {fd : FuncData} (F : Fun K "is_deed" "is_deed" sIsDeed f fd) (hT : Nm mg) (hstr : mg "str" = none) (CR : Cal P w K mg base 1 "is_row" ["thing"] (spOne isRow)) : FnOk P w K mg base CX0 2 f fd ["thing", "word", "many"] spIsDeed := by
  refine F.ok scIsDeed (fun vs H Q E ⟨v, d, z, m, e, _⟩ => by rw [e]; rfl) (fun cdv A outer s H vs Q E hr h => ?_)
  obtain ⟨v, d, z, m, rfl, hR, hm, q⟩ := h
  refine ⟨_, pss_one (ps_ret (pe_and (pe_cal CR (hr.mono (by decide)) (by rfl) (pa_cons (pv 0) pa_nil)) (pe_and (pe_cmpR op_eq (pe_callB call_len_seq (by rfl) hT.len PySem.boot_len (pa_cons (pv 0) pa_nil)) (pv 2) (nomark _)) (pe_and (pe_callB call_isi (by rfl) hT.isi (by decide +kernel) (pa_cons (pe_ix ix_seq (pv 0) pe_int (fun _ _ => rfl)) (pa_cons (pe_bltn (v := .ty "str") (by rfl) hstr PyProof.Rows.boot_str rfl) pa_nil))) (pe_one (pe_cmpR op_eq (pe_ix ix_seq (pv 0) pe_int (fun _ _ => rfl)) (pv 1) (nomark _))))))), ?_⟩
  refine ⟨v, rfl, v, d, rfl, hR, fun H1 s1 => ⟨isRow d, rfl, ite2 (fun e => ?_) (fun e => ?_)⟩⟩
  · have q1 := q H1 s1
    have hR1 := Rp.sm s1 hR
    obtain ⟨ds, hds⟩ : ∃ ds, rowsD d = some ds := Option.isSome_iff_exists.mp e
    obtain ⟨a, xs, rfl, hx, hso⟩ := hR1.rows hds
    have hl := hx.length
    have hv : isDeedD d z m = (decide (ds.length = m) && headIs z ds) := by unfold isDeedD; rw [hds]
    rw [hv] at q1
    refine ⟨.ref a, rfl, a, xs, rfl, hso.elim (fun h => .inl (SqL.of h)) (fun h => .inr (SqT.of h)), .int (m : Int), rfl, rfl, _, rfl, ?_⟩
    have ed : decide (V.int (xs.length : Int) = V.int (m : Int)) = decide (ds.length = m) := by
      rw [hl]
      by_cases c : ds.length = m
      · rw [c]; simp
      · have : ¬ (V.int (ds.length : Int) = V.int (m : Int)) := fun z => c (by injection z with z; omega)
        rw [decide_eq_false c, decide_eq_false this]
    rw [ed]
    refine ite2 (fun c => ?_) (fun c => ?_)
    · have c' := of_decide_eq_true c
      rw [c, Bool.true_and] at q1
      obtain ⟨x, xs', rfl⟩ : ∃ x xs', xs = x :: xs' := by
        cases xs with
        | nil =>
          have h0 : ([] : List V).length = 0 := rfl
          omega
        | cons x xs' => exact ⟨x, xs', rfl⟩
      cases hx with
      | @cons _ _ d0 ds0 h0 ht =>
        refine ⟨.ref a, rfl, rix_of (i := 0) hso rfl ⟨x, .ty "str", _, _, isStrB d0, rfl, .ty _, h0.ty, kit_str d0, isStrB d0, rfl, ite2 (fun e2 => ?_) (fun e2 => ?_)⟩⟩
        · cases h0 with
          | str y =>
            refine ⟨.ref a, rfl, rix_of (i := 0) hso rfl ⟨.str z, rfl, rfl, ?_⟩⟩
            have e3 : decide (V.str y = V.str z) = decide (y = z) := by
              by_cases c : y = z
              · rw [c]; simp
              · have : ¬ (V.str y = V.str z) := fun q => c (by injection q)
                rw [decide_eq_false c, decide_eq_false this]
            rw [e3]
            exact q1
          | _ => exact absurd e2 Bool.false_ne_true
        · have e3 : headIs z (d0 :: ds0) = false := by
            cases h0 with
            | str y => exact absurd rfl e2
            | _ => rfl
          rw [e3] at q1
          exact q1
    · have c' : decide (ds.length = m) = false := Bool.eq_false_iff.mpr c
      rw [c', Bool.false_and] at q1
      exact q1
  · have hd : rowsD d = none := by
      cases z : rowsD d with
      | none => rfl
      | some ds => exact absurd (show isRow d = true by unfold isRow; rw [z]; rfl) e
    have q1 := q H1 s1
    have hv : isDeedD d z m = false := by unfold isDeedD; rw [hd]
    rw [hv] at q1
    exact q1
theorem ok_isCom {f : Addr} {fd : FuncData} (F : Fun K "is_coming" "is_coming" sIsCom f fd) (CD : Cal P w K mg base 2 "is_deed" ["thing", "word", "many"] spIsDeed) (CP : Cal P w K mg base 2 "is_patience" ["thing"] (spOne isPatience)) : FnOk P w K mg base CX0 3 f fd ["thing"] (spOne isComD) := by
  refine F.ok scIsCom spOne_len (fun cdv A outer s H vs Q E hr h => ?_)
  obtain ⟨v, d, rfl, hR, q⟩ := h
  refine ⟨_, pss_one (ps_ret (pe_and (pe_cal CD (hr.mono (by decide)) (by rfl) (pa_cons (pv 0) (pa_cons pe_str (pa_cons pe_int pa_nil)))) (pe_one (pe_cal CP (hr.mono (by decide)) (by rfl) (pa_cons (pe_ix ix_seq (pv 0) pe_int (fun _ _ => rfl)) pa_nil))))), ?_⟩
  refine ⟨v, rfl, v, d, "come", 2, rfl, hR, by decide, fun H1 s1 => ⟨_, rfl, ite2 (fun e => ?_) (fun e => ?_)⟩⟩
  · have hR1 := Rp.sm s1 hR
    have h2 : ∃ x p, rowsD d = some [x, p] := by
      unfold isDeedD at e
      cases z : rowsD d with
      | none => rw [z] at e; cases e
      | some ds =>
        rw [z] at e
        simp only [Bool.and_eq_true, decide_eq_true_eq] at e
        match ds, e.1 with
        | [x, p], _ => exact ⟨x, p, rfl⟩
    obtain ⟨x, p, hds⟩ := h2
    obtain ⟨a, xs, rfl, hx, hso⟩ := hR1.rows hds
    cases hx with
    | cons h0 ht =>
      cases ht with
      | cons h1 ht =>
        cases ht
        refine ⟨.ref a, rfl, rix_of (i := 1) hso rfl ⟨_, p, rfl, h1, fun H2 s2 => ?_⟩⟩
        have q2 := q H2 (s1.trans s2)
        have hv : isComD d = isPatience p := by
          unfold isComD
          rw [e, Bool.true_and]
          unfold sndP
          rw [hds]
        rw [hv] at q2
        exact q2
  · have q1 := q H1 s1
    have hv : isComD d = false := by
      unfold isComD
      rw [Bool.eq_false_iff.mpr e, Bool.false_and]
    rw [hv] at q1
    exact q1
theorem ok_isHist {f : Addr} {fd : FuncData} (F : Fun K "is_history" "is_history" sIsHist f fd) (CR : Cal P w K mg base 1 "is_row" ["thing"] (spOne isRow)) (CD : Cal P w K mg base 2 "is_deed" ["thing", "word", "many"] spIsDeed) (CC : Cal P w K mg base 3 "is_coming" ["thing"] (spOne isComD)) : FnOk P w K mg base CX0 4 f fd ["thing"] (spOne isHistD) := by
  refine F.ok scIsHist spOne_len (fun cdv A outer s H vs Q E hr h => ?_)
  obtain ⟨v, d, rfl, hR, q⟩ := h
  have nd := scIsHist.nd
  refine ⟨_, (pss_cons (ps_if (pt_not (pt_val (pe_cal CR (hr.mono (by decide)) (by rfl) (pa_cons (pv 0) pa_nil)))) (pss_one (ps_ret pe_bl)) pss_nil)
      (pss_cons (ps_set (i := 1) nd rfl (.inl rfl) pe_int)
      (pss_cons (ps_for PassesOwn.never rfl (pi_seq (pv 0)) (pg_name (i := 2) nd rfl (.inl rfl)) (pss_one (ps_if (pt_val (pe_cal CC (hr.mono (by decide)) (by rfl) (pa_cons (pv 2) pa_nil))) (pss_one (ps_aug (i := 1) nd rfl (.inl rfl) pe_int ip_add)) (pss_one (ps_if (PW.pt (pw_and (pt_val (pe_cal CD (hr.mono (by decide)) (by rfl) (pa_cons (pv 2) (pa_cons pe_str (pa_cons pe_int pa_nil))))) (pw_and1 (pt_cmpR op_gt (pv 1) pe_int (nomark _))))) (pss_one (ps_aug (i := 1) nd rfl (.inl rfl) pe_int ip_sub)) (pss_one (ps_ret pe_bl)))))))
      (pss_one (ps_ret pe_bl))))), ?_⟩
  refine ⟨v, rfl, v, d, rfl, hR, fun H1 s1 => ⟨isRow d, rfl, ?_⟩⟩
  cases hds : rowsD d with
  | none =>
    have e1 : isRow d = false := by unfold isRow; rw [hds]; rfl
    have e2 : isHistD d = false := by unfold isHistD; rw [hds]
    have q1 := q H1 s1
    rw [e2] at q1
    rw [e1]
    exact iteT q1
  | some ds =>
    have e1 : isRow d = true := by unfold isRow; rw [hds]; rfl
    have e2 : isHistD d = (standF ds 0).isSome := by unfold isHistD; rw [hds]
    rw [e1]
    refine iteF ?_
    have hR1 := Rp.sm s1 hR
    obtain ⟨a, xs, rfl, hx, hso⟩ := hR1.rows hds
    have st : StSeq H1 a xs := ⟨hso⟩
    refine ⟨.ref a, rfl, a, xs, rfl, st, fun J hJ => for_it (walk_seq hJ) (fun i σ G => (∃ (n : Nat) (y2 : Option V), σ = [some (.ref a), some (.int (n : Int)), y2] ∧ standF ds 0 = standF (ds.drop i) n) ∧ Same H1 G) ⟨⟨0, none, rfl, rfl⟩, Same.refl _⟩ (fun i σ G _ hP => Ex.of hP.2) (fun i x σ G G' hi hP hY => ?_) (fun σ G hP => ?_)⟩
    · obtain ⟨⟨n, y2, rfl, hst⟩, sG⟩ := hP
      obtain ⟨rfl, hxi⟩ := hY
      obtain ⟨di, hdi, hRi⟩ := hx.get hxi
      have hdr : ds.drop i = di :: ds.drop (i + 1) := by
        have hil := (List.getElem?_eq_some_iff.mp hdi)
        rw [List.drop_eq_getElem_cons hil.1, hil.2]
      rw [hdr] at hst
      have hRG := Rp.sm sG hRi
      refine ⟨x, rfl, x, di, rfl, hRG, fun H3 s3 => ⟨isComD di, rfl, ite2 (fun e => ?_) (fun e => ?_)⟩⟩
      · refine ⟨.int (n : Int), rfl, (n : Int), 1, rfl, rfl, ⟨n + 1, _, rfl, ?_⟩, sG.trans s3⟩
        rw [hst]
        conv => lhs; unfold standF
        rw [if_pos e]
      · have hRG3 := Rp.sm s3 hRG
        refine ⟨x, rfl, x, di, "serve", 1, rfl, hRG3, by decide, fun H4 s4 => ⟨_, rfl, ite2 (fun e2' => ?_) (fun e2' => ?_)⟩⟩
        · refine ⟨.int (n : Int), rfl, _, _, rfl, rfl, _, rfl, ite2 (fun e3 => ?_) (fun e3 => ?_)⟩
          · have e3 : (0 : Int) < (n : Int) := of_decide_eq_true e3
            refine ⟨.int (n : Int), rfl, (n : Int), 1, rfl, rfl, ⟨n - 1, some x, ?_, ?_⟩, (sG.trans s3).trans s4⟩
            · show [some (.ref a), some (.int ((n : Int) - 1)), some x] = _
              rw [show ((n - 1 : Nat) : Int) = (n : Int) - 1 by omega]
            · rw [hst]
              conv => lhs; unfold standF
              rw [if_neg e, if_pos e2', if_pos (by omega)]
          · have e3 : ¬ (0 : Int) < (n : Int) := fun z => e3 (decide_eq_true z)
            have q1 := q H4 (s1.trans ((sG.trans s3).trans s4))
            have : isHistD d = false := by
              rw [e2, hst]
              unfold standF
              rw [if_neg e, if_pos e2', if_neg (by omega)]
              rfl
            rw [this] at q1
            exact q1
        · have q1 := q H4 (s1.trans ((sG.trans s3).trans s4))
          have : isHistD d = false := by
            rw [e2, hst]
            unfold standF
            rw [if_neg e, if_neg e2']
            rfl
          rw [this] at q1
          exact q1
    · obtain ⟨⟨n, y2, rfl, hst⟩, sG⟩ := hP
      have q1 := q G (s1.trans sG)
      have : isHistD d = true := by
        rw [e2, hst, hx.length, List.drop_length]
        rfl
      rw [this] at q1
      exact q1
theorem Flds.comeX {fs : List (Str × V)} {L : LnA} (h : Flds fs L) : fs.lookup ("come" : Str) = none := h.no _ (by decide +kernel) (by decide +kernel) (by decide +kernel) (by decide +kernel) (by decide +kernel)
theorem Flds.serveX {fs : List (Str × V)} {L : LnA} (h : Flds fs L) : fs.lookup ("serve" : Str) = none := h.no _ (by decide +kernel) (by decide +kernel) (by decide +kernel) (by decide +kernel) (by decide +kernel)
theorem serve_eqX {s : LS} {x : Nat} {xs : List Nat} {r : Option Int} (h1 : s.xs = x :: xs) (h2 : s.rs.head? = some r) : serveS s x r = stepS s .serve := by
  show serveS s x r = serveS s (s.xs.headD 0) (s.rs.headD none)
  rw [h1, List.headD_cons, List.headD_eq_head?_getD, h2]
  rfl
theorem ok_lineOf {f fI fC fS : Addr} {fd fdI fdC fdS : FuncData} (F : Fun K "line_of" "line_of" sLineOf f fd) (T : LnT K mg C) (M : Mk K C fI)
    (GI : FnOk P w K mg base CX0 1 fI fdI ["self"] (spInit C)) (bI : Binds K fdI ["self"] [])
    (mC : Meth K C "come" fC) (GC : FnOk P w K mg base CX0 3 fC fdC ["self", "patience"] (spComeM C)) (bC : Binds K fdC ["self", "patience"] [])
    (mS : Meth K C "serve" fS) (GS : FnOk P w K mg base CX0 1 fS fdS ["self"] (spServeM C)) (bS : Binds K fdS ["self"] [])
    (CH : Cal P w K mg base 4 "is_history" ["thing"] (spOne isHistD)) (CC : Cal P w K mg base 3 "is_coming" ["thing"] (spOne isComD)) : FnOk P w K mg base CX0 5 f fd ["history"] (spLineOf C) := by
  refine F.ok scLineOf (fun vs H Q E ⟨v, d, ds, e, _⟩ => by rw [e]; rfl) (fun cdv A outer s H vs Q E hr h => ?_)
  obtain ⟨v, d, ds, rfl, hR, hds, hst, hl, q⟩ := h
  have nd := scLineOf.nd
  refine ⟨_, (pss_cons (ps_if (pt_not (pt_val (pe_cal CH (hr.mono (by decide)) (by rfl) (pa_cons (pv 0) pa_nil)))) (pss_one ps_never) pss_nil)
      (pss_cons (ps_set (i := 1) nd rfl (.inl rfl) (pe_make0 M GI (hr.mono (by decide)) rfl T.mgC bI .nil pass0))
      (pss_cons (ps_for PassesOwn.never rfl (pi_seqW (pv 0)) (pg_name (i := 2) nd rfl (.inl rfl)) (pss_one (ps_if (pt_val (pe_cal CC (hr.mono (by decide)) (by rfl) (pa_cons (pv 2) pa_nil))) (pss_one (ps_expr (pe_meth (pv 1) T.cl mC GC (hr.mono (by decide)) bC .nil pass0 (pa_cons (pe_ix ix_seq (pv 2) pe_int (fun _ _ => rfl)) pa_nil)))) (pss_one (ps_expr (pe_meth0 (pv 1) T.cl mS GS (hr.mono (by decide)) bS .nil pass0))))))
      (pss_one (ps_ret (pv 1)))))), ?_⟩
  have e2 : isHistD d = true := by unfold isHistD; rw [hds]; exact hst
  refine ⟨v, rfl, v, d, rfl, hR, fun H1 s1 => ⟨isHistD d, rfl, ?_⟩⟩
  rw [e2]
  refine iteF ?_
  refine fun x1 dx1 nx1 nd1 ne1 => ⟨x1, dx1, rfl, upd_same, fun L G1 eA nA lA kA => ⟨rfl, ?_⟩⟩
  have s01 : Same H1 G1 := fun b o e => kA b o (ne_of_none e nx1) (by rw [upd_ne (ne_of_none e nx1), upd_ne (ne_of_none e nd1)]; exact e)
  have nA0 : ∀ b, L.has b → H1 b = none := fun b hb => by
    cases z : H1 b with
    | none => rfl
    | some o =>
      have := nA b hb
      rw [upd_ne (ne_of_none z nx1), upd_ne (ne_of_none z nd1), z] at this
      cases this
  subst eA
  have hR1 := Rp.sm s1 hR
  obtain ⟨a, xs, rfl, hx, hso⟩ := hR1.rows hds
  show tSeq _ _ _ [some (.ref a), some (.ref L.o), none] G1
  have stG : ∀ {G : Hp}, Same H1 G → StSeq G a xs := fun m => ⟨hso.imp (fun h => m _ _ h) (fun h => m _ _ h)⟩
  obtain ⟨kk, hkk⟩ := Option.isSome_iff_exists.mp hst
  have hvd : Vd (ds.map toDeed) := standF_ok ds [] kk vd_nil hkk
  refine ⟨.ref a, rfl, a, xs, rfl, stG s01, fun J hJ => ?_⟩
  have hja : ∀ G : Hp, Same H1 G → (∀ o, G1 a = some o → G a = some o) := fun G m o e => by
    rcases hso with h | h
    · rw [s01 _ _ h] at e; rw [← e]; exact m _ _ h
    · rw [s01 _ _ h] at e; rw [← e]; exact m _ _ h
  refine for_seq (K := K) (a := a) (xs := xs) (fun i σ G => (∃ y, σ = [some (.ref a), some (.ref L.o), y]) ∧ Same H1 G ∧ LineAt C G L (stF ((ds.take i).map toDeed)))
    ⟨⟨none, rfl⟩, s01, lA⟩ (fun i σ G hP => hJ G (hja G hP.2.1)) (fun i x σ G hxi hP => ?_) (fun σ G hP => ?_)
  · obtain ⟨⟨y, rfl⟩, sG, lG⟩ := hP
    obtain ⟨di, hdi, hRi⟩ := hx.get hxi
    have hil := (List.getElem?_eq_some_iff.mp hdi).1
    have hRG := Rp.sm sG hRi
    have hsn : (ds.take (i + 1)).map toDeed = (ds.take i).map toDeed ++ [toDeed di] := by rw [List.take_add_one, hdi, List.map_append]; rfl
    have hvt : ∀ j, Vd ((ds.take j).map toDeed) := fun j => Vd.pre (es := (ds.drop j).map toDeed) (by rw [← List.map_append, List.take_append_drop]; exact hvd)
    have hok := (hvt i).ok
    have hcn : (stF ((ds.take i).map toDeed)).ps.length ≤ 400 := by
      have h1 := hok.dl
      have h2 := hok.tot
      rw [stF_ds, List.length_map, List.length_take] at h1
      omega
    have hv1 := hvt (i + 1)
    rw [hsn] at hv1 ⊢
    rw [stF_snoc]
    have hxs : toDeed di = .serve → (stF ((ds.take i).map toDeed)).xs ≠ [] := fun z => by rw [z] at hv1; exact hv1.last
    generalize stF ((ds.take i).map toDeed) = s at lG hok hcn hxs
    refine ⟨x, rfl, x, di, rfl, hRG, fun H3 s3 => ⟨isComD di, rfl, ite2 (fun e => ?_) (fun e => ?_)⟩⟩
    · obtain ⟨p, e1, e2, e3⟩ := comD_toDeed e
      obtain ⟨w0, pd, hrw, hpd⟩ := comD_rows e
      have hRG3 := Rp.sm s3 hRG
      obtain ⟨t, ys, rfl, hys, hto⟩ := hRG3.rows hrw
      have lG3 := lG.same s3
      cases hys with
      | cons h0 ht =>
        cases ht with
        | @cons v1 _ _ _ h1 ht =>
          cases ht
          rw [← hpd, e3] at h1
          obtain rfl := rp_optV h1
          obtain ⟨dx, fs, hob, hf⟩ := lG3.ob
          refine ⟨.ref L.o, rfl, L.o, dx, fs, rfl, hob, hf.comeX, .ref t, rfl, rix_of (i := 1) hto rfl ⟨L, s, p, rfl, lG3, e2, hcn, fun H4 l4 m4 => ?_⟩⟩
          refine ⟨⟨_, rfl⟩, fun b o eb => m4.keep b o (fun z => by rw [nA0 b z] at eb; cases eb) (s3 _ _ (sG b o eb)), ?_⟩
          rw [e1]
          exact l4
    · have e1 : toDeed di = .serve := by unfold toDeed; rw [if_neg e]
      have hx0 := hxs e1
      rw [e1]
      obtain ⟨x0, xs0, ex⟩ : ∃ x0 xs0, s.xs = x0 :: xs0 := by
        cases z : s.xs with
        | nil => exact absurd z hx0
        | cons x0 xs0 => exact ⟨x0, xs0, rfl⟩
      have lG3 := lG.same s3
      obtain ⟨dx, fs, hob, hf⟩ := lG3.ob
      refine ⟨.ref L.o, rfl, L.o, dx, fs, rfl, hob, hf.serveX, L, s, x0, xs0, rfl, lG3, ex, hcn, fun H4 rr hrr l4 m4 => ?_⟩
      refine ⟨⟨_, rfl⟩, fun b o eb => m4.keep b o (fun z => by rw [nA0 b z] at eb; cases eb) (s3 _ _ (sG b o eb)), ?_⟩
      rw [← serve_eqX ex hrr]
      exact l4
  · obtain ⟨⟨y, rfl⟩, sG, lG⟩ := hP
    rw [hx.length, List.take_length] at lG
    exact ⟨_, rfl, q L G (s1.trans sG) (fun b hb => by
      cases z : H b with
      | none => rfl
      | some o =>
        have := s1 _ _ z
        rw [nA0 b hb] at this
        cases this) lG hvd⟩
end
end CL
set_option Elab.async false
set_option linter.all false
set_option maxRecDepth 100000
set_option maxHeartbeats 4000000
namespace CL
open PySem PySem.Spec PyProof.Rows L2 GE
abbrev sPairs : Stmt := topS 26
theorem scPairs : FnScope ["line", "stand", "spots", "place", "person", "elder", "newer", "last", "in_front"] ["line"] (defScope sPairs) := ⟨rfl, rfl, rfl, by decide +kernel, rfl, by decide +kernel, by decide +kernel⟩
theorem mem_cut {x : V} {xs : List V} {a b : Option Int} (h : x ∈ cutV xs a b) : x ∈ xs := by
  unfold cutV at h
  exact List.mem_of_mem_drop (List.mem_of_mem_take h)
theorem mem_ppl {x : V} {xs : List Nat} (h : x ∈ ppl xs) : ∃ (i n : Nat), xs[i]? = some n ∧ x = .int (n : Int) := by
  unfold ppl at h
  obtain ⟨n, hn, rfl⟩ := List.mem_map.mp h
  obtain ⟨i, hi⟩ := List.getElem?_of_mem hn
  exact ⟨i, n, hi, rfl⟩
theorem pw_get {R : Nat → Nat → Prop} {l : List Nat} (h : l.Pairwise R) {i j a b : Nat} (hi : l[i]? = some a) (hj : l[j]? = some b) (hij : i < j) : R a b := by
  obtain ⟨h1, e1⟩ := List.getElem?_eq_some_iff.mp hi
  obtain ⟨h2, e2⟩ := List.getElem?_eq_some_iff.mp hj
  rw [← e1, ← e2]
  exact List.pairwise_iff_getElem.mp h i j h1 h2 hij
/-- the newer of two is in front just where as many went past the elder one -/
theorem Gd.pair {s : LS} {cw : List (Option Int)} (g : Gd s cw) {i j e n : Nat} (hi : s.xs[i]? = some e) (hj : s.xs[j]? = some n) (hen : e < n) : j < i ↔ n ≤ e + s.past e := by
  rcases Nat.lt_trichotomy j i with h | h | h
  · exact ⟨fun _ => (pw_get g.ord hj hi h).1 hen, fun _ => h⟩
  · subst h
    rw [hi] at hj
    cases hj
    omega
  · have := (pw_get g.ord hi hj h).2 hen
    omega
def spPairs (C : Addr) : Sp := fun vs H Q _ => ∃ (L : LnA) (s : LS) (cw : List (Option Int)), vs = [.ref L.o] ∧ LineAt C H L s ∧ Gd s cw ∧ s.ps.length ≤ 400 ∧ ∀ H', Same H H' → Q (.bl true) H'
section
variable {P : Program} {w : World} {K : PySem.W.Frag} {mg : Str → Option Value} {base : Heap} {C : Addr}
theorem ok_pairs {f fQ fW : Addr} {fd fdQ fdW : FuncData} (F : Fun K "_law_pairs_right" "_law_pairs_right" sPairs f fd) (henum : mg "enumerate" = none) (T : LnT K mg C)
    (mQ : Meth K C "queue" fQ) (GQ : FnOk P w K mg base CX0 1 fQ fdQ ["self"] (spQueM C)) (bQ : Binds K fdQ ["self"] [])
    (mW : Meth K C "went_past" fW) (GW : FnOk P w K mg base CX0 2 fW fdW ["self", "person"] (spWentM C)) (bW : Binds K fdW ["self", "person"] []) : FnOk P w K mg base CX0 3 f fd ["line"] (spPairs C) := by
  refine F.ok scPairs (fun vs H Q E ⟨L, s, cw, e, _⟩ => by rw [e]; rfl) (fun cdv A outer s0 H vs Q E hr h => ?_)
  obtain ⟨L, s, cw, rfl, ln, g, hn, q⟩ := h
  have nd := scPairs.nd
  have hu := hu_of hr
  refine ⟨_, (pss_cons (ps_set (i := 1) nd rfl (.inl rfl) (pe_meth0 (pv 0) T.cl mQ GQ (hr.mono (by decide)) bQ .nil pass0))
      (pss_cons (ps_set (i := 2) nd rfl (.inl rfl) pe_dnewK)
      (pss_cons (ps_for PassesOwn.never rfl (pi_enum (by rfl) henum (pa_cons (pv 1) pa_nil)) (pg_tup rfl (pgs_cons (pg_name (i := 3) nd rfl (.inl rfl)) (pgs_cons (pg_name (i := 4) nd rfl (.inl rfl)) pgs_nil))) (pss_one (ps_dput hu (pv 2) (pv 4) (pv 3) rfl)))
      (pss_cons (ps_for PassesOwn.never rfl (pi_list (pe_slice sl_list (pv 1) po_none (po_some pe_int))) (pg_name (i := 5) nd rfl (.inl rfl)) (pss_one (ps_for PassesOwn.never rfl (pi_list (pe_slice sl_list (pv 1) (po_some (pe_un un_neg pe_int)) po_none)) (pg_name (i := 6) nd rfl (.inl rfl)) (pss_cons (ps_set (i := 7) nd rfl (.inl rfl) (pe_op op_add (pv 5) (pe_meth (pv 0) T.cl mW GW (hr.mono (by decide)) bW .nil pass0 (pa_cons (pv 5) pa_nil))))
      (pss_cons (ps_set (i := 8) nd rfl (.inl rfl) (pe_cmpR op_lt (pe_dget hu (pv 2) (pv 6) (fun _ _ => rfl)) (pe_dget hu (pv 2) (pv 5) (fun _ _ => rfl)) (nomark _)))
      (pss_one (ps_if (PW.pt (pw_and (pt_cmpR op_gt (pv 6) (pv 5) (nomark _)) (pw_and1 (pt_cmpR op_ne (pv 8) (pe_cmpR op_ge (pv 7) (pv 6) (nomark _)) (nomark _))))) (pss_one (ps_ret pe_bl)) pss_nil)))))))
      (pss_one (ps_ret pe_bl)))))), ?_⟩
  have ok := ln.ok
  have hxl : s.xs.length ≤ 400 := by have := ok.tot; omega
  obtain ⟨dx, fs, hob, hf⟩ := ln.ob
  refine ⟨.ref L.o, rfl, L.o, dx, fs, rfl, hob, hf.queue, L, s, rfl, ln, fun p np => ?_⟩
  have s1 : Same H (upd H p (.lst (ppl s.xs))) := same_upd np
  have e1 : (upd H p (.lst (ppl s.xs))) p = some (.lst (ppl s.xs)) := upd_same
  dsimp only [gName]
  show tSeq _ _ _ [some (.ref L.o), some (.ref p), none, none, none, none, none, none, none] (upd H p (.lst (ppl s.xs)))
  generalize upd H p (.lst (ppl s.xs)) = H1 at s1 e1
  refine fun D nD => ?_
  have s2 : Same H1 (upd H1 D (.dK [])) := same_upd nD
  have e2 : (upd H1 D (.dK [])) D = some (.dK []) := upd_same
  have npD : p ≠ D := ne_of_none e1 nD
  have nD0 : H D = none := s1.free nD
  dsimp only [gName]
  show tSeq _ _ _ [some (.ref L.o), some (.ref p), some (.ref D), none, none, none, none, none, none] (upd H1 D (.dK []))
  generalize upd H1 D (.dK []) = H2 at s2 e2
  refine ⟨.ref p, rfl, p, _, rfl, SqL.of (s2 _ _ e1), for_it walk_enum (fun i σ G => (∃ y3 y4, σ = [some (.ref L.o), some (.ref p), some (.ref D), y3, y4, none, none, none, none]) ∧ (∀ b o, b ≠ D → H2 b = some o → G b = some o) ∧ ∃ kvs : List (Key × V), G D = some (.dK kvs) ∧ kvs.length ≤ i ∧ ∀ (j x : Nat), j < i → s.xs[j]? = some x → valV kvs (Sum.inl (x : Int) : Key) = some (.int (j : Int)))
    ⟨⟨none, none, rfl⟩, fun _ _ _ e => e, [], e2, Nat.le_refl _, fun j x h => absurd h (Nat.not_lt_zero j)⟩ (fun i σ G _ ⟨_, m, _⟩ => SqL.of (m _ _ npD (s2 _ _ e1))) (fun i x σ G G' hi hP hY => ?_) (fun σ G hP => ?_)⟩
  · obtain ⟨⟨y3, y4, rfl⟩, mG, kvs, k1, k2, k3⟩ := hP
    obtain ⟨t, x1, y1, rfl, nt, rfl, hx, hy⟩ := hY
    obtain rfl := Option.some.inj hx
    rw [ppl_len] at hi
    have hy : (ppl s.xs)[i]? = some y1 := hy
    rw [ppl_get hi] at hy
    obtain rfl := (Option.some.inj hy).symm
    have st : Same G (upd G t (.tup [.int (i : Int), .int (s.xs[i] : Int)])) := same_upd nt
    refine ⟨t, _, rfl, SqT.of upd_same, rfl, .int (i : Int), _, rfl, .int (s.xs[i] : Int), _, rfl, rfl, ?_⟩
    generalize upd G t (.tup [.int (i : Int), .int (s.xs[i] : Int)]) = G2 at st
    refine ⟨.int (i : Int), rfl, .ref D, rfl, .int (s.xs[i] : Int), rfl, D, _, rfl, DPut.k (k := Sum.inl (s.xs[i] : Int)) (st _ _ k1) (small1000 (by omega)), ⟨_, _, rfl⟩, fun b o nb e => by rw [upd_ne nb]; exact st _ _ (mG b o nb e), _, upd_same, ?_, fun j x hj hjx => ?_⟩
    · have := length_putK kvs (Sum.inl (s.xs[i] : Int) : Key) (V.int (i : Int))
      omega
    · rw [valV_put]
      by_cases e : j = i
      · subst e
        rw [List.getElem?_eq_getElem hi] at hjx
        cases hjx
        rw [if_pos rfl]
      · rw [if_neg (fun z => ?_)]
        · exact k3 j x (by omega) hjx
        · injection z with z
          have z2 : x = s.xs[i] := by omega
          subst z2
          obtain ⟨h1, e1⟩ := List.getElem?_eq_some_iff.mp hjx
          exact e ((List.getElem_inj g.nd).mp e1)
  · obtain ⟨⟨y3, y4, rfl⟩, mG, kvs, k1, k2, k3⟩ := hP
    rw [ppl_len] at k3
    have sG : Same H G := fun b o e => mG b o (fun z => by rw [z, nD0] at e; cases e) (s2 _ _ (s1 _ _ e))
    have eG := mG _ _ npD (s2 _ _ e1)
    have k3 : ∀ (j x : Nat), s.xs[j]? = some x → valV kvs (Sum.inl (x : Int) : Key) = some (.int (j : Int)) := fun j x h => k3 j x (List.getElem?_eq_some_iff.mp h).1 h
    dsimp only []
    show tSeq _ _ _ [some (.ref L.o), some (.ref p), some (.ref D), y3, y4, none, none, none, none] G
    refine ⟨.ref p, rfl, 12, rfl, p, _, rfl, SqL.of eG, fun E1 nE1 => ?_⟩
    have s3 : Same G (upd G E1 (.lst (cutV (ppl s.xs) none (some 12)))) := same_upd nE1
    have e3 : (upd G E1 (.lst (cutV (ppl s.xs) none (some 12)))) E1 = some (.lst (cutV (ppl s.xs) none (some 12))) := upd_same
    generalize upd G E1 (.lst (cutV (ppl s.xs) none (some 12))) = H3 at s3 e3
    refine ⟨E1, rfl, ⟨_, SqL.of e3⟩, for_list (xs := cutV (ppl s.xs) none (some 12)) (fun i σ G' => (∃ y5 y6 y7 y8, σ = [some (.ref L.o), some (.ref p), some (.ref D), y3, y4, y5, y6, y7, y8]) ∧ Same H3 G')
      ⟨⟨_, _, _, _, rfl⟩, Same.refl _⟩ (fun i σ G' _ ⟨_, m⟩ => SqL.of (m _ _ e3)) (fun i x σ G' hx hP => ?_) (fun σ G' hP => ?_)⟩
    · obtain ⟨⟨y5, y6, y7, y8, rfl⟩, m3⟩ := hP
      obtain ⟨ie, en, hie, rfl⟩ := mem_ppl (mem_cut (List.mem_of_getElem? hx))
      refine ⟨.ref p, rfl, 12, rfl, _, rfl, p, _, rfl, SqL.of (m3 _ _ (s3 _ _ eG)), fun E2 nE2 => ?_⟩
      have s4 : Same G' (upd G' E2 (.lst (cutV (ppl s.xs) (some (-12)) none))) := same_upd nE2
      have e4 : (upd G' E2 (.lst (cutV (ppl s.xs) (some (-12)) none))) E2 = some (.lst (cutV (ppl s.xs) (some (-12)) none)) := upd_same
      generalize upd G' E2 (.lst (cutV (ppl s.xs) (some (-12)) none)) = H4 at s4 e4
      refine ⟨E2, rfl, ⟨_, SqL.of e4⟩, for_list (xs := cutV (ppl s.xs) (some (-12)) none) (fun j σ G2 => (∃ y6 y7 y8, σ = [some (.ref L.o), some (.ref p), some (.ref D), y3, y4, some (.int (en : Int)), y6, y7, y8]) ∧ Same H4 G2)
        ⟨⟨_, _, _, rfl⟩, Same.refl _⟩ (fun i σ G' _ ⟨_, m⟩ => SqL.of (m _ _ e4)) (fun j x σ G2 hx2 hP => ?_) (fun σ G2 hP => ?_)⟩
      · obtain ⟨⟨y6, y7, y8, rfl⟩, m4⟩ := hP
        obtain ⟨jn, nn, hjn, rfl⟩ := mem_ppl (mem_cut (List.mem_of_getElem? hx2))
        have sg2 : Same G G2 := ((s3.trans m3).trans s4).trans m4
        have ln2 := ln.same (sG.trans sg2)
        obtain ⟨dx, fs, hob, hf⟩ := ln2.ob
        have hel := ok.lt en (List.mem_of_getElem? hie)
        refine ⟨.int (en : Int), rfl, .ref L.o, rfl, L.o, dx, fs, rfl, hob, hf.went, .int (en : Int), rfl, L, s, en, hel, rfl, ln2, fun H5 s5 => ⟨_, _, rfl, rfl, ?_⟩⟩
        have kd : H5 D = some (.dK kvs) := s5 _ _ (sg2 _ _ k1)
        have dn : DGet H5 D (.int (nn : Int)) (some (.int (jn : Int))) := by rw [← k3 jn nn hjn]; exact DGet.k (k := Sum.inl (nn : Int)) kd
        have de : DGet H5 D (.int (en : Int)) (some (.int (ie : Int))) := by rw [← k3 ie en hie]; exact DGet.k (k := Sum.inl (en : Int)) kd
        refine ⟨.ref D, rfl, .int (nn : Int), rfl, D, _, rfl, dn, .ref D, rfl, .int (en : Int), rfl, D, _, rfl, de, _, _, rfl, rfl, ?_⟩
        refine ⟨.int (nn : Int), rfl, .int (en : Int), rfl, _, _, rfl, rfl, _, rfl, ite2 (fun y => ?_) (fun _ => ⟨⟨_, _, _, rfl⟩, m4.trans s5⟩)⟩
        have hlt : en < nn := by have y := of_decide_eq_true y; omega
        have hp := g.pair hie hjn hlt
        have eg : s.past en = s.ps[en] := by show s.ps.getD en 0 = _; rw [List.getD_eq_getElem?_getD, List.getElem?_eq_getElem hel]; rfl
        refine ⟨_, rfl, _, rfl, .int (nn : Int), rfl, _, _, rfl, rfl, rfl, _, rfl, ite2 (fun y => absurd y ?_) (fun _ => ⟨⟨_, _, _, rfl⟩, m4.trans s5⟩)⟩
        have e5 : decide ((jn : Int) < (ie : Int)) = decide ((nn : Int) ≤ (en : Int) + (s.ps[en] : Int)) := by
          rw [decide_eq_decide, ← eg]
          omega
        show ¬ (!decide (V.bl (decide ((jn : Int) < (ie : Int))) = V.bl (decide ((nn : Int) ≤ (en : Int) + (s.ps[en] : Int))))) = true
        rw [e5]
        simp
      · obtain ⟨⟨y6, y7, y8, rfl⟩, m4⟩ := hP
        exact ⟨⟨_, _, _, _, rfl⟩, (m3.trans s4).trans m4⟩
    · obtain ⟨⟨y5, y6, y7, y8, rfl⟩, m3⟩ := hP
      exact q G' (sG.trans (s3.trans m3))
end
end CL
set_option Elab.async false
set_option linter.all false
set_option maxRecDepth 100000
set_option maxHeartbeats 4000000
namespace CL
open PySem PySem.Spec PyProof.Rows L2 GE
abbrev sCameR : Stmt := topS 27
abbrev sLeftR : Stmt := topS 28
abbrev nCameR : List Str := ["line", "patience", "came_with", "ahead", "person", "past", "number", "stand", "at", "many"]
theorem scCameR : FnScope nCameR ["line", "patience", "came_with"] (defScope sCameR) := ⟨rfl, rfl, rfl, by decide +kernel, rfl, by decide +kernel, by decide +kernel⟩
theorem scLeftR : FnScope ["line", "came_with", "person", "rest", "due"] ["line", "came_with"] (defScope sLeftR) := ⟨rfl, rfl, rfl, by decide +kernel, rfl, by decide +kernel, by decide +kernel⟩
theorem past_get (s : LS) {x : Nat} (h : x < s.ps.length) : s.ps[x] = s.past x := by
  show _ = s.ps.getD x 0
  rw [List.getD_eq_getElem?_getD, List.getElem?_eq_getElem h]
  rfl
theorem nd_ne {l : List Nat} (nd : l.Nodup) {i j x : Nat} (hi : l[i]? = some x) (hj : l[j]? = some x) : i = j := by
  obtain ⟨h1, e1⟩ := List.getElem?_eq_some_iff.mp hi
  obtain ⟨h2, e2⟩ := List.getElem?_eq_some_iff.mp hj
  exact (List.getElem_inj nd).mp (e1.trans e2.symm)
theorem mem_drop_iff {l : List Nat} (nd : l.Nodup) {i x k : Nat} (hi : l[i]? = some x) : x ∈ l.drop k ↔ k ≤ i := by
  refine ⟨fun h => ?_, fun h => ?_⟩
  · obtain ⟨j, hj⟩ := List.getElem?_of_mem h
    rw [List.getElem?_drop] at hj
    have := nd_ne nd hi hj
    omega
  · refine List.mem_of_getElem? (i := i - k) ?_
    rw [List.getElem?_drop, show k + (i - k) = i by omega]
    exact hi
theorem ix1 {l : List Nat} {j x : Nat} (hj : l[j]? = some x) : (ppl l)[j]? = some (.int (x : Int)) := by
  unfold ppl
  rw [List.getElem?_map, hj]
  rfl
theorem ix2 {x : Int} : eqV (.int x) (.int x) = true := by simp [eqV]
theorem ix3 {l : List Nat} {j x : Nat} (nd : l.Nodup) (hj : l[j]? = some x) : ∀ (m : Nat) (z' : V), m < j → (ppl l)[m]? = some z' → eqV z' (.int (x : Int)) = false := fun m z' hm hz => by
  unfold ppl at hz
  rw [List.getElem?_map] at hz
  cases hy : l[m]? with
  | none => rw [hy] at hz; cases hz
  | some y =>
    rw [hy] at hz
    cases hz
    show ((y : Int) == (x : Int)) = false
    rw [beq_eq_false_iff_ne]
    intro z
    have : y = x := by omega
    subst this
    have := nd_ne nd hy hj
    omega
def spCameR (C : Addr) : Sp := fun vs H Q _ => ∃ (L : LnA) (s : LS) (cw : List (Option Int)) (p : Option Int) (B : Addr), vs = [.ref L.o, optV p, .ref B] ∧ LineAt C H L s ∧ Gd s cw ∧ H B = some (.lst (cw.map optV)) ∧ ¬ L.has B ∧ isPatience (optD p) = true ∧ s.ps.length ≤ 350 ∧ ∀ H', LineAt C H' L (comeS s p) → MvL L H H' → Q (.int ((s.xs.drop s.k).length : Int)) H'
def spLeftR (C : Addr) : Sp := fun vs H Q _ => ∃ (L : LnA) (s : LS) (cw : List (Option Int)) (B : Addr), vs = [.ref L.o, .ref B] ∧ LineAt C H L s ∧ Gd s cw ∧ H B = some (.lst (cw.map optV)) ∧ s.ps.length ≤ 400 ∧ ∀ H', Same H H' → Q (.bl true) H'
theorem Flds.lft {fs : List (Str × V)} {L : LnA} (h : Flds fs L) : fs.lookup ("left" : Str) = none := h.no _ (by decide +kernel) (by decide +kernel) (by decide +kernel) (by decide +kernel) (by decide +kernel)
section
variable {P : Program} {w : World} {K : PySem.W.Frag} {mg : Str → Option Value} {base : Heap} {C : Addr}
theorem ok_cameR {f fQ fW fC : Addr} {fd fdQ fdW fdC : FuncData} (F : Fun K "_law_came_right" "_law_came_right" sCameR f fd) (hT : Nm mg) (hzip : mg "zip" = none) (T : LnT K mg C)
    (mQ : Meth K C "queue" fQ) (GQ : FnOk P w K mg base CX0 1 fQ fdQ ["self"] (spQueM C)) (bQ : Binds K fdQ ["self"] [])
    (mW : Meth K C "went_past" fW) (GW : FnOk P w K mg base CX0 2 fW fdW ["self", "person"] (spWentM C)) (bW : Binds K fdW ["self", "person"] [])
    (mC : Meth K C "come" fC) (GC : FnOk P w K mg base CX0 3 fC fdC ["self", "patience"] (spComeM C)) (bC : Binds K fdC ["self", "patience"] []) : FnOk P w K mg base CX0 4 f fd ["line", "patience", "came_with"] (spCameR C) := by
  refine F.ok scCameR (fun vs H Q E ⟨L, s, cw, p, B, e, _⟩ => by rw [e]; rfl) (fun cdv A outer s0 H vs Q E hr h => ?_)
  obtain ⟨L, s, cw, p, B, rfl, ln, g, eB, nLB, hp, hn, q⟩ := h
  have nd := scCameR.nd
  refine ⟨_, (pss_cons (ps_set (i := 3) nd rfl (.inl rfl) (pe_meth0 (pv 0) T.cl mQ GQ (hr.mono (by decide)) bQ .nil pass0))
      (pss_cons (ps_setLc (i := 5) (own := [("person", 4)]) (g := gName 4) (tt := tYes) rfl nd rfl rfl (sw_true rfl rfl rfl (by decide +kernel)) (pi_list (pv 3)) (blkOk_by (own := [("person", 4)]) (N := nCameR) (sc := defScope sCameR) (by decide +kernel)) (fun _ _ _ _ _ => pg_name (i := 4) nd rfl (Or.inl rfl)) (fun _ _ _ _ _ => pts_nil) (fun _ _ _ _ _ => (pe_meth (pv 0) T.cl mW GW (hr.mono (by decide)) bW .nil pass0 (pa_cons (pv 4) pa_nil))))
      (pss_cons (ps_set (i := 6) nd rfl (.inl rfl) (pe_meth (pv 0) T.cl mC GC (hr.mono (by decide)) bC .nil pass0 (pa_cons (pv 1) pa_nil)))
      (pss_cons (ps_set (i := 7) nd rfl (.inl rfl) (pe_meth0 (pv 0) T.cl mQ GQ (hr.mono (by decide)) bQ .nil pass0))
      (pss_cons (ps_set (i := 8) nd rfl (.inl rfl) (pe_bm PySem.F.plainAttrs_list PySem.F.slot_list_index PySem.F.type_list_index mt_index (pv 7) (pa_cons (pv 6) pa_nil)))
      (pss_cons (ps_if (PW.pt (pw_or (pt_cmpR (op_neD hr.units) (pe_op op_cat (pe_slice sl_list (pv 7) po_none (po_some (pv 8))) (pe_slice sl_list (pv 7) (po_some (pe_op op_add (pv 8) pe_int)) po_none)) (pv 3) (nomark _)) (pw_or1 (pt_cmpR op_ne (pv 6) (pe_callB call_len_seq (by rfl) hT.len PySem.boot_len (pa_cons (pv 2) pa_nil)) (nomark _))))) (pss_one (ps_ret pe_non)) pss_nil)
      (pss_cons (ps_for PassesOwn.never rfl (pi_zip (by rfl) hzip (pa_cons (pv 3) (pa_cons (pv 5) pa_nil))) (pg_tup rfl (pgs_cons (pg_name (i := 4) nd rfl (.inl rfl)) (pgs_cons (pg_name (i := 9) nd rfl (.inl rfl)) pgs_nil))) (pss_one (ps_if (pt_cmpR op_ne (pe_meth (pv 0) T.cl mW GW (hr.mono (by decide)) bW .nil pass0 (pa_cons (pv 4) pa_nil)) (pe_op op_add (pv 9) (pe_callTy call_int1 (by rfl) hT.int (by decide +kernel) (pa_cons (pe_cmpR op_gt (pe_bm PySem.F.plainAttrs_list PySem.F.slot_list_index PySem.F.type_list_index mt_index (pv 7) (pa_cons (pv 4) pa_nil)) (pv 8) (nomark _)) pa_nil))) (nomark _)) (pss_one (ps_ret pe_non)) pss_nil)))
      (pss_one (ps_ret (pe_op op_sub (pe_op op_sub (pe_callB call_len_seq (by rfl) hT.len PySem.boot_len (pa_cons (pv 7) pa_nil)) (pv 8)) pe_int)))))))))), ?_⟩
  have ok := ln.ok
  have hxl : s.xs.length ≤ 350 := by have := ok.tot; omega
  obtain ⟨dx, fs, hob, hf⟩ := ln.ob
  -- ahead
  refine ⟨.ref L.o, rfl, L.o, dx, fs, rfl, hob, hf.queue, L, s, rfl, ln, fun a1 n1 => ?_⟩
  have s1 : Same H (upd H a1 (.lst (ppl s.xs))) := same_upd n1
  have e1 : (upd H a1 (.lst (ppl s.xs))) a1 = some (.lst (ppl s.xs)) := upd_same
  dsimp only [gName]
  show tSeq _ _ _ [some (.ref L.o), some (optV p), some (.ref B), some (.ref a1), none, none, none, none, none, none] (upd H a1 (.lst (ppl s.xs)))
  have nLa : ¬ L.has a1 := fun z => by
    obtain ⟨vs, e⟩ := ln.isl z
    rw [n1] at e
    cases e
  generalize upd H a1 (.lst (ppl s.xs)) = H1 at s1 e1
  -- past
  refine ⟨.ref a1, rfl, a1, rfl, ⟨_, SqL.of e1⟩, fun D nD => ?_⟩
  have nDa : a1 ≠ D := ne_of_none e1 nD
  have nLD : ¬ L.has D := fun z => by
    obtain ⟨vs, e⟩ := (ln.same s1).isl z
    rw [nD] at e
    cases e
  refine lc_list (K := K) (a := a1) (xs := ppl s.xs) (fun i G => (∀ b o, b ≠ D → H1 b = some o → G b = some o) ∧ G D = some (.lst (ppl ((s.xs.take i).map s.past))))
    ⟨fun b o nb e => by rw [upd_ne nb]; exact e, upd_same⟩ (fun i G _ ⟨m, _⟩ => SqL.of (m _ _ nDa e1)) (fun i x G hx ⟨m, eD⟩ => ?_) (fun G ⟨m, eD⟩ => ?_)
  · have il : i < s.xs.length := by rw [← ppl_len]; exact (List.getElem?_eq_some_iff.mp hx).1
    rw [ppl_get il] at hx
    obtain rfl := (Option.some.inj hx).symm
    have hlt := ok.lt _ (List.getElem_mem il)
    have lnG := ln.same ((fun b o e => m b o (ne_of_none (s1 _ _ e) nD) (s1 _ _ e)) : Same H G)
    obtain ⟨dx, fs, hob, hf⟩ := lnG.ob
    refine ⟨rfl, yesT ⟨.ref L.o, rfl, L.o, dx, fs, rfl, hob, hf.went, .int (s.xs[i] : Int), rfl, L, s, s.xs[i], hlt, rfl, lnG, fun H5 s5 => ⟨_, s5 _ _ eD, by rw [ppl_len, List.length_map, List.length_take]; exact small1000 (by omega), fun b o nb e => by rw [upd_ne nb]; exact s5 _ _ (m b o nb e), ?_⟩⟩⟩
    rw [upd_same, past_get s hlt, List.take_add_one, List.getElem?_eq_getElem il, List.map_append]
    unfold ppl
    rw [List.map_append]
    rfl
  rw [ppl_len, List.take_length] at eD
  have sG : Same H G := fun b o e => m b o (ne_of_none (s1 _ _ e) nD) (s1 _ _ e)
  have eaG := m _ _ nDa e1
  have lnG := ln.same sG
  obtain ⟨dx, fs, hob, hf⟩ := lnG.ob
  -- number
  refine ⟨.ref L.o, rfl, L.o, dx, fs, rfl, hob, hf.come, optV p, rfl, L, s, p, rfl, lnG, hp, by omega, fun H5 l5 m5 => ?_⟩
  dsimp only [gName]
  show tSeq _ _ _ [some (.ref L.o), some (optV p), some (.ref B), some (.ref a1), none, some (.ref D), some (.int (s.ps.length : Int)), none, none, none] H5
  have ea5 := m5.keep _ _ nLa eaG
  have eD5 := m5.keep _ _ nLD eD
  have eB5 := m5.keep _ _ nLB (sG _ _ eB)
  have mL5 : MvL L H H5 := (MvL.of sG).trans m5
  have hnd := comeS_ndX ok g.nd p
  obtain ⟨g1, g2⟩ := goes_le s.rs.length s.rs
  have hk : s.k ≤ s.xs.length := by rw [ok.len]; exact g1
  have hps := come_ps s p
  have hxs : (comeS s p).xs = s.xs.take s.k ++ s.ps.length :: s.xs.drop s.k := rfl
  have hxl' : (comeS s p).xs.length = s.xs.length + 1 := by rw [hxs, List.length_append, List.length_cons, List.length_take, List.length_drop]; omega
  have hatn : (comeS s p).xs[s.k]? = some s.ps.length := by rw [hxs, ins_get _ _ _ _ hk, if_neg (Nat.lt_irrefl _), if_pos rfl]
  -- stand
  obtain ⟨dx, fs, hob, hf⟩ := l5.ob
  refine ⟨.ref L.o, rfl, L.o, dx, fs, rfl, hob, hf.queue, L, _, rfl, l5, fun a2 n2 => ?_⟩
  have s6 : Same H5 (upd H5 a2 (.lst (ppl (comeS s p).xs))) := same_upd n2
  have e6 : (upd H5 a2 (.lst (ppl (comeS s p).xs))) a2 = some (.lst (ppl (comeS s p).xs)) := upd_same
  generalize upd H5 a2 (.lst (ppl (comeS s p).xs)) = H6 at s6 e6
  dsimp only [gName]
  show tSeq _ _ _ [some (.ref L.o), some (optV p), some (.ref B), some (.ref a1), none, some (.ref D), some (.int (s.ps.length : Int)), some (.ref a2), none, none] H6
  refine ⟨.ref a2, rfl, .inl ⟨rfl, _, SqL.of e6⟩, .int (s.ps.length : Int), rfl, a2, _, _, s.k, _, rfl, rfl, SqL.of e6, rfl, ppl_flat _, ix1 hatn, ix2, ix3 hnd hatn, ?_⟩
  dsimp only [gName]
  show tSeq _ _ _ [some (.ref L.o), some (optV p), some (.ref B), some (.ref a1), none, some (.ref D), some (.int (s.ps.length : Int)), some (.ref a2), some (.int (s.k : Int)), none] H6
  -- stand[:at] + stand[at + 1:] != ahead
  have lt : (s.xs.take s.k).length = s.k := by rw [List.length_take]; omega
  refine ⟨.ref a2, rfl, .int (s.k : Int), rfl, _, rfl, a2, _, rfl, SqL.of e6, fun u1 nu1 => ?_⟩
  rw [cut_to]
  have ec1 : (ppl (comeS s p).xs).take s.k = ppl (s.xs.take s.k) := by
    rw [hxs]
    unfold ppl
    rw [← List.map_take, List.take_append_of_le_length (by omega), List.take_take, Nat.min_self]
  rw [ec1]
  have s7 : Same H6 (upd H6 u1 (.lst (ppl (s.xs.take s.k)))) := same_upd nu1
  have e7 : (upd H6 u1 (.lst (ppl (s.xs.take s.k)))) u1 = some (.lst (ppl (s.xs.take s.k))) := upd_same
  generalize upd H6 u1 (.lst (ppl (s.xs.take s.k))) = H7 at s7 e7
  refine ⟨.ref a2, rfl, .int (s.k : Int), rfl, (s.k : Int), 1, rfl, rfl, _, rfl, a2, _, rfl, SqL.of (s7 _ _ e6), fun u2 nu2 => ?_⟩
  have ec2 : cutV (ppl (comeS s p).xs) (some ((s.k : Int) + 1)) none = ppl (s.xs.drop s.k) := by
    rw [show (s.k : Int) + 1 = ((s.k + 1 : Nat) : Int) from rfl, cut_from, hxs]
    unfold ppl
    rw [← List.map_drop, List.drop_append, lt, List.drop_of_length_le (by omega), show s.k + 1 - s.k = 1 by omega]
    rfl
  rw [ec2]
  have s8 : Same H7 (upd H7 u2 (.lst (ppl (s.xs.drop s.k)))) := same_upd nu2
  have e8 : (upd H7 u2 (.lst (ppl (s.xs.drop s.k)))) u2 = some (.lst (ppl (s.xs.drop s.k))) := upd_same
  generalize upd H7 u2 (.lst (ppl (s.xs.drop s.k))) = H8 at s8 e8
  refine ⟨u1, u2, _, _, rfl, rfl, s8 _ _ e7, e8, small_add (by rw [ppl_len]; omega) (by rw [ppl_len, List.length_drop]; omega), fun u3 nu3 => ?_⟩
  have ec3 : ppl (s.xs.take s.k) ++ ppl (s.xs.drop s.k) = (so s.xs).map optV := by
    rw [← ppl_so]
    unfold ppl
    rw [← List.map_append, List.take_append_drop]
  rw [ec3]
  have s9 : Same H8 (upd H8 u3 (.lst ((so s.xs).map optV))) := same_upd nu3
  have e9 : (upd H8 u3 (.lst ((so s.xs).map optV))) u3 = some (.lst ((so s.xs).map optV)) := upd_same
  generalize upd H8 u3 (.lst ((so s.xs).map optV)) = H9 at s9 e9
  have s69 : Same H6 H9 := (s7.trans s8).trans s9
  have ea9 : H9 a1 = some (.lst ((so s.xs).map optV)) := by rw [← ppl_so]; exact s69 _ _ (s6 _ _ ea5)
  refine ⟨.ref a1, rfl, .list ((so s.xs).map optD), .list ((so s.xs).map optD), .lst (SqL.of e9) (opts_dp _), .lst (SqL.of ea9) (opts_dp _), opts_shaped _, opts_shaped _, _, rfl, ite2 (fun y => absurd y (by rw [eqv_opts]; simp)) (fun _ => ?_)⟩
  refine ⟨.int (s.ps.length : Int), rfl, .ref B, rfl, B, _, rfl, .inl (SqL.of (s69 _ _ (s6 _ _ eB5))), rfl, _, rfl, ite2 (fun y => absurd y (by rw [List.length_map, g.len]; simp)) (fun _ => ?_)⟩
  have l9 := (l5.same s6).same s69
  have m9 : MvL L H H9 := mL5.trans ((MvL.of s6).trans (MvL.of s69))
  have eD9 := s69 _ _ (s6 _ _ eD5)
  have e69 := s69 _ _ e6
  have ea9' : H9 a1 = some (.lst (ppl s.xs)) := by rw [ppl_so]; exact ea9
  -- zip
  refine ⟨.ref a1, rfl, .ref D, rfl, a1, D, _, _, rfl, SqL.of ea9', SqL.of eD9, for_it (walk_zip (n := s.xs.length) (by rw [ppl_len, ppl_len, List.length_map, Nat.min_self])) (fun i σ G' => (∃ y4 y9, σ = [some (.ref L.o), some (optV p), some (.ref B), some (.ref a1), y4, some (.ref D), some (.int (s.ps.length : Int)), some (.ref a2), some (.int (s.k : Int)), y9]) ∧ Same H9 G')
    ⟨⟨_, _, rfl⟩, Same.refl _⟩ (fun i σ G' _ ⟨_, m⟩ => ⟨SqL.of (m _ _ ea9'), SqL.of (m _ _ eD9)⟩) (fun i x σ G' G2 hi hP hY => ?_) (fun σ G' hP => ?_)⟩
  · obtain ⟨⟨y4, y9, rfl⟩, mg'⟩ := hP
    obtain ⟨t, x1, y1, rfl, nt, rfl, hx, hy⟩ := hY
    have hx : (ppl s.xs)[i]? = some x1 := hx
    have hy : (ppl (s.xs.map s.past))[i]? = some y1 := hy
    rw [ppl_get hi] at hx
    rw [ppl_get (by rw [List.length_map]; exact hi)] at hy
    obtain rfl := (Option.some.inj hx).symm
    obtain rfl := (Option.some.inj hy).symm
    rw [List.getElem_map]
    have st : Same G' (upd G' t (.tup [.int (s.xs[i] : Int), .int (s.past s.xs[i] : Int)])) := same_upd nt
    refine ⟨t, _, rfl, SqT.of upd_same, rfl, .int (s.xs[i] : Int), _, rfl, .int (s.past s.xs[i] : Int), _, rfl, rfl, ?_⟩
    generalize upd G' t (.tup [.int (s.xs[i] : Int), .int (s.past s.xs[i] : Int)]) = G3 at st
    have l3 := (l9.same mg').same st
    obtain ⟨dx, fs, hob, hf⟩ := l3.ob
    have hxi : s.xs[i]? = some s.xs[i] := List.getElem?_eq_getElem hi
    have hlt := ok.lt _ (List.getElem_mem hi)
    have hpast := come_past ok g.nd p hlt
    have hmd := mem_drop_iff (k := s.k) g.nd hxi
    have hidx : (comeS s p).xs[if i < s.k then i else i + 1]? = some s.xs[i] := by
      rw [hxs, ins_get _ _ _ _ hk]
      by_cases c : i < s.k
      · rw [if_pos c, if_pos c]; exact hxi
      · rw [if_neg c, if_neg (by omega), if_neg (by omega)]; exact hxi
    generalize s.xs[i] = x at hlt hpast hmd hidx hxi
    show tIfS _ _ _ _ [some (.ref L.o), some (optV p), some (.ref B), some (.ref a1), some (.int (x : Int)), some (.ref D), some (.int (s.ps.length : Int)), some (.ref a2), some (.int (s.k : Int)), some (.int (s.past x : Int))] G3
    refine ⟨.ref L.o, rfl, L.o, dx, fs, rfl, hob, hf.went, .int (x : Int), rfl, L, _, x, by rw [hps]; omega, rfl, l3, fun H10 s10 => ?_⟩
    have e10 := s10 _ _ (st _ _ (mg' _ _ e69))
    refine ⟨.int (s.past x : Int), rfl, .ref a2, rfl, .inl ⟨rfl, _, SqL.of e10⟩, .int (x : Int), rfl, a2, _, _, _, _, rfl, rfl, SqL.of e10, rfl, ppl_flat _, ix1 hidx, ix2, ix3 hnd hidx, .int (s.k : Int), rfl, _, _, rfl, rfl, .inr ⟨_, rfl, ?_⟩⟩
    have fin : Same H9 H10 := (mg'.trans st).trans s10
    have ev : (comeS s p).past x = s.past x + (if s.k ≤ i then 1 else 0) := by
      rw [hpast]
      congr 1
      by_cases c : s.k ≤ i
      · rw [if_pos c, if_pos (hmd.mpr c)]
      · rw [if_neg c, if_neg (fun z => c (hmd.mp z))]
    refine ⟨_, _, rfl, rfl, rfl, _, rfl, ite2 (fun y => absurd y ?_) (fun _ => ⟨⟨_, _, rfl⟩, fin⟩)⟩
    show ¬ (!decide (V.int ((comeS s p).ps[x]'(by rw [hps]; omega) : Int) = V.int ((s.past x : Int) + b2i (decide ((s.k : Int) < ((if i < s.k then i else i + 1 : Nat) : Int)))))) = true
    rw [past_get (comeS s p) (by rw [hps]; omega), ev]
    have e11 : (((s.past x + if s.k ≤ i then 1 else 0) : Nat) : Int) = (s.past x : Int) + b2i (decide ((s.k : Int) < ((if i < s.k then i else i + 1 : Nat) : Int))) := by
      by_cases c : i < s.k
      · rw [if_pos c, if_neg (by omega), decide_eq_false (by omega)]
        show _ = _ + (0 : Int)
        omega
      · rw [if_neg c, if_pos (by omega), decide_eq_true (by omega)]
        show _ = _ + (1 : Int)
        omega
    rw [e11]
    simp
  · obtain ⟨⟨y4, y9, rfl⟩, mg'⟩ := hP
    dsimp only []
    show tRet _ _ [some (.ref L.o), some (optV p), some (.ref B), some (.ref a1), y4, some (.ref D), some (.int (s.ps.length : Int)), some (.ref a2), some (.int (s.k : Int)), y9] G'
    refine ⟨.ref a2, rfl, a2, _, rfl, .inl (SqL.of (mg' _ _ e69)), .int (s.k : Int), rfl, _, _, rfl, rfl, _, 1, rfl, rfl, ?_⟩
    have ee : (((ppl (comeS s p).xs).length : Int) - (s.k : Int)) - 1 = ((s.xs.drop s.k).length : Int) := by
      rw [ppl_len, hxl', List.length_drop]
      omega
    have qq := q G' (l9.same mg') (m9.trans (MvL.of mg'))
    rw [← ee] at qq
    exact qq
theorem ok_leftR {f fQ fW fL : Addr} {fd fdQ fdW fdL : FuncData} (F : Fun K "_law_left_right" "_law_left_right" sLeftR f fd) (hzip : mg "zip" = none) (T : LnT K mg C)
    (mQ : Meth K C "queue" fQ) (GQ : FnOk P w K mg base CX0 1 fQ fdQ ["self"] (spQueM C)) (bQ : Binds K fdQ ["self"] [])
    (mL : Meth K C "left" fL) (GL : FnOk P w K mg base CX0 1 fL fdL ["self"] (spLeftM C)) (bL : Binds K fdL ["self"] [])
    (mW : Meth K C "went_past" fW) (GW : FnOk P w K mg base CX0 2 fW fdW ["self", "person"] (spWentM C)) (bW : Binds K fdW ["self", "person"] []) : FnOk P w K mg base CX0 3 f fd ["line", "came_with"] (spLeftR C) := by
  refine F.ok scLeftR (fun vs H Q E ⟨L, s, cw, B, e, _⟩ => by rw [e]; rfl) (fun cdv A outer s0 H vs Q E hr h => ?_)
  obtain ⟨L, s, cw, B, rfl, ln, g, eB, hn, q⟩ := h
  have nd := scLeftR.nd
  refine ⟨_, (pss_cons (ps_for PassesOwn.never rfl (pi_zip (by rfl) hzip (pa_cons (pe_meth0 (pv 0) T.cl mQ GQ (hr.mono (by decide)) bQ .nil pass0) (pa_cons (pe_meth0 (pv 0) T.cl mL GL (hr.mono (by decide)) bL .nil pass0) pa_nil))) (pg_tup rfl (pgs_cons (pg_name (i := 2) nd rfl (.inl rfl)) (pgs_cons (pg_name (i := 3) nd rfl (.inl rfl)) pgs_nil))) (pss_cons (ps_set (i := 4) nd rfl (.inl rfl) (pe_ix ix_list (pv 1) (pv 2) (fun _ _ => rfl)))
      (pss_one (ps_if (PW.pt (pw_or (pt_cmpR op_ne (pe_cmp (pc_isN (pv 3)) rfl) (pe_cmp (pc_isN (pv 4)) rfl) (nomark _)) (pw_or1 (PW.pt (pw_and (pt_cmp (pc_notN (pv 3))) (pw_and1 (pt_cmpR op_ne (pe_op op_add (pv 3) (pe_meth (pv 0) T.cl mW GW (hr.mono (by decide)) bW .nil pass0 (pa_cons (pv 2) pa_nil))) (pv 4) (nomark _)))))))) (pss_one (ps_ret pe_bl)) pss_nil))))
      (pss_one (ps_ret pe_bl))), ?_⟩
  have ok := ln.ok
  obtain ⟨dx, fs, hob, hf⟩ := ln.ob
  refine ⟨.ref L.o, rfl, L.o, dx, fs, rfl, hob, hf.queue, L, s, rfl, ln, fun a1 n1 => ?_⟩
  have s1 : Same H (upd H a1 (.lst (ppl s.xs))) := same_upd n1
  have e1 : (upd H a1 (.lst (ppl s.xs))) a1 = some (.lst (ppl s.xs)) := upd_same
  generalize upd H a1 (.lst (ppl s.xs)) = H1 at s1 e1
  refine ⟨.ref L.o, rfl, L.o, dx, fs, rfl, s1 _ _ hob, hf.lft, L, s, rfl, ln.same s1, fun a2 n2 => ?_⟩
  have s2 : Same H1 (upd H1 a2 (.lst (s.rs.map optV))) := same_upd n2
  have e2 : (upd H1 a2 (.lst (s.rs.map optV))) a2 = some (.lst (s.rs.map optV)) := upd_same
  generalize upd H1 a2 (.lst (s.rs.map optV)) = H2 at s2 e2
  have e1 := s2 _ _ e1
  have sH := s1.trans s2
  refine ⟨a1, a2, _, _, rfl, SqL.of e1, SqL.of e2, for_it (walk_zip (n := s.xs.length) (by rw [ppl_len, List.length_map, ← ok.len, Nat.min_self])) (fun i σ G' => (∃ y2 y3 y4, σ = [some (.ref L.o), some (.ref B), y2, y3, y4]) ∧ Same H2 G')
    ⟨⟨_, _, _, rfl⟩, Same.refl _⟩ (fun i σ G' _ ⟨_, m⟩ => ⟨SqL.of (m _ _ e1), SqL.of (m _ _ e2)⟩) (fun i x σ G' G2 hi hP hY => ?_) (fun σ G' hP => ?_)⟩
  · obtain ⟨⟨y2, y3, y4, rfl⟩, mg'⟩ := hP
    obtain ⟨t, x1, y1, rfl, nt, rfl, hx, hy⟩ := hY
    have hx : (ppl s.xs)[i]? = some x1 := hx
    have hy : (s.rs.map optV)[i]? = some y1 := hy
    have hi2 : i < s.rs.length := by rw [← ok.len]; exact hi
    rw [ppl_get hi] at hx
    rw [List.getElem?_map, List.getElem?_eq_getElem hi2] at hy
    obtain rfl := (Option.some.inj hx).symm
    obtain rfl := (Option.some.inj hy).symm
    obtain ⟨wv, hw, ho⟩ := g.left i s.xs[i] s.rs[i] (List.getElem?_eq_getElem hi) (List.getElem?_eq_getElem hi2)
    have hlt := ok.lt _ (List.getElem_mem hi)
    generalize s.xs[i] = x at hlt hw ho
    generalize s.rs[i] = o at ho
    have st : Same G' (upd G' t (.tup [.int (x : Int), optV o])) := same_upd nt
    refine ⟨t, _, rfl, SqT.of upd_same, rfl, .int (x : Int), _, rfl, optV o, _, rfl, rfl, ?_⟩
    generalize upd G' t (.tup [.int (x : Int), optV o]) = G3 at st
    have sG3 := sH.trans (mg'.trans st)
    have l3 := ln.same sG3
    refine ⟨.ref B, rfl, .int (x : Int), rfl, B, _, (x : Int), optV wv, rfl, rfl, SqL.of (sG3 _ _ eB), atI_nat (by rw [List.getElem?_map, hw]; rfl), ?_⟩
    subst ho
    dsimp only [gName]
    show tIfS _ _ _ _ [some (.ref L.o), some (.ref B), some (.int (x : Int)), some (optV (wv.map (· - ((s.past x : Nat) : Int)))), some (optV wv)] G3
    cases wv with
    | none =>
      refine ⟨.non, rfl, .non, rfl, rfl, _, rfl, ite2 (fun y => absurd y (by decide)) (fun _ => ?_)⟩
      exact ⟨.non, rfl, _, rfl, iteF ⟨⟨_, _, _, rfl⟩, mg'.trans st⟩⟩
    | some v =>
      refine ⟨.int (v - (s.past x : Int)), rfl, .int v, rfl, rfl, _, rfl, ite2 (fun y => absurd y (by rw [decide_eq_false (show ¬ (V.int (v - (s.past x : Int)) = V.non) from nofun), decide_eq_false (show ¬ (V.int v = V.non) from nofun)]; simp)) (fun _ => ?_)⟩
      refine ⟨.int (v - (s.past x : Int)), rfl, _, rfl, iteT ?_⟩
      obtain ⟨dx, fs, hob, hf⟩ := l3.ob
      refine ⟨.int (v - (s.past x : Int)), rfl, .ref L.o, rfl, L.o, dx, fs, rfl, hob, hf.went, .int (x : Int), rfl, L, s, x, hlt, rfl, l3, fun H10 s10 => ⟨_, _, rfl, rfl, .int v, rfl, rfl, _, rfl, ite2 (fun y => absurd y ?_) (fun _ => ⟨⟨_, _, _, rfl⟩, (mg'.trans st).trans s10⟩)⟩⟩
      show ¬ (!decide (V.int (v - (s.past x : Int) + (s.ps[x] : Int)) = V.int v)) = true
      rw [past_get s hlt, Int.sub_add_cancel]
      simp
  · obtain ⟨⟨y2, y3, y4, rfl⟩, mg'⟩ := hP
    exact q G' (sH.trans mg')
end
end CL
set_option Elab.async false
set_option linter.all false
set_option pp.maxSteps 600
set_option maxRecDepth 100000
set_option maxHeartbeats 4000000
namespace CL
open PySem PySem.Spec PyProof.Rows L2 GE
abbrev sLaw : Stmt := topS 29
abbrev nLaw : List Str := ["script", "bag", "turn", "line", "came_with", "all_past", "time", "patience", "many", "other", "person"]
theorem scLaw : FnScope nLaw ["script"] (defScope sLaw) := ⟨rfl, rfl, rfl, by decide +kernel, rfl, by decide +kernel, by decide +kernel⟩
def spLaw (K : PySem.W.Frag) : Sp := fun vs H Q _ => ∃ (a : Addr) (ns : List Int), vs = [.ref a] ∧ SqL K H a (ns.map V.int) ∧ ns.length ≤ 63 ∧ ∀ H', Q (.bl true) H'
theorem set_c {v : V} {i : Nat} {A : TS} {D : Ends} {σ : L2.St} {H : Hp} (h : A D (σ.set i (some v)) H) : tSeq (tAsg (tC v) (gName i)) A D σ H := h
/-- an if whose one way is open from several places of its test -/
theorem if_mk {c : TT} {t u : TS} {D : Ends} {σ : L2.St} {H : Hp} (P : Hp → Prop) (hu : ∀ H1, P H1 → u D σ H1) (h : ∀ Q : Bool → Hp → Prop, (∀ H1, P H1 → Q false H1) → (∀ H1, t D σ H1 → Q true H1) → c σ H Q) : tIfS c t u D σ H :=
  h _ (fun H1 p => by show (if false = true then _ else _); exact iteF (hu H1 p)) (fun H1 q => by show (if true = true then _ else _); exact iteT q)
theorem pick2 {K : PySem.W.Frag} {σ : L2.St} {H : Hp} {Q : VK} {r : Bg} {n k : Nat} {a b : Int} (h : σ[k]? = some (some (.ref r.a))) (hb : BagAt n H r) (hn : n < M60) (q : ∀ w H', (w = a ∨ w = b) → BagAt (n + 1) H' r → Mv r H H' → Q (.int w) H') :
    tOp (rIxL K) (tLst (tCons (tC (.int a)) (tCons (tC (.int b)) tNil))) (tCall (spE spDraw) [] E0 (tCons (tVar k) (tCons (tC (.int 2)) tNil))) σ H Q := by
  refine ⟨small_le (by show 2 ≤ 1000; decide), fun p np => ?_⟩
  have s4 : Same H (upd H p (.lst [.int a, .int b])) := same_upd np
  have e4 : (upd H p (.lst [.int a, .int b])) p = some (.lst [.int a, .int b]) := upd_same
  have npr := hb.new np
  generalize upd H p (.lst [.int a, .int b]) = H4 at s4 e4
  refine ⟨.ref r.a, h, r, 2, n, rfl, hb.same s4, hn, by decide, by decide, fun x5 H5 b5 v5 a5 c5 => ?_⟩
  obtain ⟨j, rfl⟩ : ∃ j : Nat, x5 = (j : Int) := ⟨x5.toNat, by omega⟩
  have hj : j < 2 := by omega
  have key : ∃ w, [V.int a, .int b][j]? = some (.int w) ∧ (w = a ∨ w = b) := by
    match j, hj with
    | 0, _ => exact ⟨a, rfl, .inl rfl⟩
    | 1, _ => exact ⟨b, rfl, .inr rfl⟩
  obtain ⟨w, hw, hw2⟩ := key
  exact ⟨p, _, j, .int w, rfl, rfl, SqL.of (v5.keep p _ npr.a e4), atI_nat hw, q w H5 hw2 b5 ((Mv.of s4).trans v5)⟩
theorem pick3p {K : PySem.W.Frag} {σ : L2.St} {H : Hp} {Q : VK} {r : Bg} {n k : Nat} {a b : Int} (h : σ[k]? = some (some (.ref r.a))) (hb : BagAt n H r) (hn : n < M60) (q : ∀ w H', (w = a ∨ w = b ∨ w = GREAT) → BagAt (n + 1) H' r → Mv r H H' → Q (.int w) H') :
    tOp (rIxL K) (tLst (tCons (tC (.int a)) (tCons (tC (.int b)) (tCons (tOp (rI CPow fun i j => .int (i ^ j.toNat)) (tC (.int 10)) (tC (.int 30))) tNil)))) (tCall (spE spDraw) [] E0 (tCons (tVar k) (tCons (tC (.int 3)) tNil))) σ H Q := by
  refine ⟨10, 30, rfl, rfl, ⟨by decide, by decide, by decide⟩, small_le (by show 3 ≤ 1000; decide), fun p np => ?_⟩
  have s4 : Same H (upd H p (.lst [.int a, .int b, .int ((10 : Int) ^ (30 : Int).toNat)])) := same_upd np
  have e4 : (upd H p (.lst [.int a, .int b, .int ((10 : Int) ^ (30 : Int).toNat)])) p = some (.lst [.int a, .int b, .int GREAT]) := by rw [upd_same, p30]
  have npr := hb.new np
  generalize upd H p (.lst [.int a, .int b, .int ((10 : Int) ^ (30 : Int).toNat)]) = H4 at s4 e4
  refine ⟨.ref r.a, h, r, 3, n, rfl, hb.same s4, hn, by decide, by decide, fun x5 H5 b5 v5 a5 c5 => ?_⟩
  obtain ⟨j, rfl⟩ : ∃ j : Nat, x5 = (j : Int) := ⟨x5.toNat, by omega⟩
  have hj : j < 3 := by omega
  have key : ∃ w, [V.int a, .int b, .int GREAT][j]? = some (.int w) ∧ (w = a ∨ w = b ∨ w = GREAT) := by
    match j, hj with
    | 0, _ => exact ⟨a, rfl, .inl rfl⟩
    | 1, _ => exact ⟨b, rfl, .inr (.inl rfl)⟩
    | 2, _ => exact ⟨GREAT, rfl, .inr (.inr rfl)⟩
  obtain ⟨w, hw, hw2⟩ := key
  exact ⟨p, _, j, .int w, rfl, rfl, SqL.of (v5.keep p _ npr.a e4), atI_nat hw, q w H5 hw2 b5 ((Mv.of s4).trans v5)⟩
/-! ### what is told, as data -/
def deedD : Deed → PyData
  | .come p => .tuple [.str "come", optD p]
  | .serve => .tuple [.str "serve"]
theorem opts_rp {H : Hp} : ∀ os : List (Option Int), RpAll H (os.map optV) (os.map optD)
  | [] => .nil
  | o :: os => .cons (rp_opt2 o) (opts_rp os)
theorem deeds_rp {H : Hp} : ∀ {ws : List V} {ds : List Deed}, All2 (DeedV H) ws ds → RpAll H ws (ds.map deedD)
  | _, _, .nil => .nil
  | _, d :: _, .cons h t => by
    refine .cons ?_ (deeds_rp t)
    cases d with
    | come p =>
      obtain ⟨t, rfl, e⟩ := h
      exact .tup e (.cons (.str _) (.cons (rp_opt2 p) .nil))
    | serve =>
      obtain ⟨t, rfl, e⟩ := h
      exact .tup e (.cons (.str _) .nil)
theorem deeds_dp {K : PySem.W.Frag} {H : Hp} : ∀ {ws : List V} {ds : List Deed}, All2 (DeedV H) ws ds → DpAll K H ws (ds.map deedD)
  | _, _, .nil => .nil
  | _, d :: _, .cons h t => by
    refine .cons ?_ (deeds_dp t)
    cases d with
    | come p =>
      obtain ⟨t, rfl, e⟩ := h
      exact .tup (SqT.of e) (.cons (.str _) (.cons (optV_dp p) .nil))
    | serve =>
      obtain ⟨t, rfl, e⟩ := h
      exact .tup (SqT.of e) (.cons (.str _) .nil)
def dataS (s : LS) : PyData := .list [.list ((so s.xs).map optD), .list (s.rs.map optD), .list (s.ds.map deedD)]
theorem deed_lay (d : Deed) : PyData.canLay0 (deedD d) = true ∧ (deedD d).depth ≤ 1 := by
  cases d with
  | serve => exact ⟨by decide +kernel, by decide +kernel⟩
  | come p =>
    cases p with
    | none => exact ⟨by decide +kernel, by decide +kernel⟩
    | some i =>
      refine ⟨?_, Nat.le_refl _⟩
      have h : PyData.strOk "come" = true := by decide +kernel
      show PyData.canLay0 (.tuple [.str "come", .int i]) = true
      simp [PyData.canLay0, PyData.canLayAll0, h]
theorem deeds_lay : ∀ ds : List Deed, PyData.canLayAll0 (ds.map deedD) = true ∧ PyData.depthAll (ds.map deedD) ≤ 1
  | [] => ⟨by simp [PyData.canLayAll0], Nat.zero_le _⟩
  | d :: ds => by
    obtain ⟨h1, h2⟩ := deeds_lay ds
    obtain ⟨h3, h4⟩ := deed_lay d
    refine ⟨by simp [PyData.canLayAll0, h1, h3], ?_⟩
    show max (deedD d).depth (PyData.depthAll (ds.map deedD)) ≤ 1
    omega
theorem dataS_lay (s : LS) : PyData.canLay0 (dataS s) = true := by
  have h1 := opts_lay (so s.xs)
  have h2 := opts_lay s.rs
  have h3 := (deeds_lay s.ds).1
  simp [dataS, PyData.canLay0, PyData.canLayAll0, h1, h2, h3]
theorem dataS_shaped (s : LS) : SeqAt.shaped (dataS s) = true := by
  unfold SeqAt.shaped
  rw [dataS_lay]
  have h1 := opts_depth (so s.xs)
  have h2 := opts_depth s.rs
  have h3 := (deeds_lay s.ds).2
  have hd : (dataS s).depth ≤ 64 := by
    show max (PyData.depthAll ((so s.xs).map optD) + 1) (max (PyData.depthAll (s.rs.map optD) + 1) (max (PyData.depthAll (s.ds.map deedD) + 1) 0)) + 1 ≤ 64
    omega
  rw [decide_eq_true hd]
  rfl
theorem dataS_eqv (s : LS) : PyData.eqv (dataS s) (dataS s) = true := SeqAt.eqv_refl_plain _ (PyData.plain_of_canLay0 _ (dataS_lay s))
theorem dataS_dp {K : PySem.W.Frag} {H : Hp} {s : LS} {a q l h : Addr} {ws : List V} (ea : H a = some (.lst [.ref q, .ref l, .ref h])) (eq : H q = some (.lst (ppl s.xs))) (el : H l = some (.lst (s.rs.map optV))) (eh : H h = some (.lst ws)) (aw : All2 (DeedV H) ws s.ds) : Dp K H (.ref a) (dataS s) := by
  rw [ppl_so] at eq
  exact .lst (SqL.of ea) (.cons (.lst (SqL.of eq) (opts_dp _)) (.cons (.lst (SqL.of el) (opts_dp _)) (.cons (.lst (SqL.of eh) (deeds_dp aw)) .nil)))
def OkD (d : Deed) : Prop := ∀ p, d = .come p → isPatience (optD p) = true
theorem deed_is {d : Deed} (h : OkD d) : toDeed (deedD d) = d ∧ (isComD (deedD d) = true ↔ ∃ p, d = .come p) ∧ (d = .serve → isDeedD (deedD d) "serve" 1 = true) := by
  cases d with
  | serve =>
    have h1 : isComD (deedD .serve) = false := by decide +kernel
    exact ⟨by unfold toDeed; rw [h1]; rfl, ⟨(fun z => by rw [h1] at z; cases z), (fun ⟨p, z⟩ => by cases z)⟩, fun _ => by decide +kernel⟩
  | come p =>
    have hp := h p rfl
    have h0 : headIs "come" [.str "come", optD p] = true := by
      show decide (("come" : Str) = "come") = true
      exact decide_eq_true rfl
    have h1 : isComD (deedD (.come p)) = true := by
      show ((decide (2 = 2) && headIs "come" [.str "come", optD p]) && isPatience (optD p)) = true
      rw [h0, hp]
      rfl
    have h2 : patOf (optD p) = p := by cases p <;> rfl
    refine ⟨?_, ⟨fun _ => ⟨p, rfl⟩, fun _ => h1⟩, fun z => by cases z⟩
    unfold toDeed
    rw [if_pos h1]
    show Deed.come (patOf (optD p)) = _
    rw [h2]
theorem stand_deeds : ∀ (es ds : List Deed), Vd (ds ++ es) → (∀ d ∈ es, OkD d) → (standF (es.map deedD) (stF ds).xs.length).isSome = true
  | [], ds, _, _ => rfl
  | e :: es, ds, hv, ho => by
    have he := ho e List.mem_cons_self
    obtain ⟨h1, h2, h3⟩ := deed_is he
    have hv1 : Vd ((ds ++ [e]) ++ es) := by
      have z : ds ++ e :: es = (ds ++ [e]) ++ es := by simp
      rw [← z]; exact hv
    have ih := stand_deeds es (ds ++ [e]) hv1 fun d hd => ho d (List.mem_cons_of_mem _ hd)
    have hds : Vd ds := hv.pre
    have ok := hds.ok
    rw [List.map_cons]
    unfold standF
    cases e with
    | come p =>
      rw [if_pos (h2.mpr ⟨p, rfl⟩)]
      have : (stF (ds ++ [.come p])).xs.length = (stF ds).xs.length + 1 := by
        rw [stF_snoc]
        obtain ⟨g1, _⟩ := goes_le (stF ds).rs.length (stF ds).rs
        have := ok.len
        show (_ ++ _ :: _).length = _
        rw [List.length_append, List.length_cons, List.length_take, List.length_drop]
        omega
      rw [← this]
      exact ih
    | serve =>
      rw [if_neg (fun z => by obtain ⟨p, q⟩ := h2.mp z; cases q), if_pos (h3 rfl)]
      have hx : (stF ds).xs ≠ [] := hv1.pre.last
      have hl : 0 < (stF ds).xs.length := List.length_pos_iff.mpr hx
      rw [if_pos hl]
      have : (stF (ds ++ [.serve])).xs.length = (stF ds).xs.length - 1 := by
        rw [stF_snoc]
        show (stF ds).xs.tail.length = _
        rw [List.length_tail]
      rw [← this]
      exact ih
theorem map_toDeed : ∀ ds : List Deed, (∀ d ∈ ds, OkD d) → (ds.map deedD).map toDeed = ds
  | [], _ => rfl
  | d :: ds, h => by
    rw [List.map_cons, List.map_cons, (deed_is (h d List.mem_cons_self)).1, map_toDeed ds fun e he => h e (List.mem_cons_of_mem _ he)]
theorem Flds.undo {fs : List (Str × V)} {L : LnA} (h : Flds fs L) : fs.lookup ("undo" : Str) = none := h.no _ (by decide +kernel) (by decide +kernel) (by decide +kernel) (by decide +kernel) (by decide +kernel)
theorem Flds.hist {fs : List (Str × V)} {L : LnA} (h : Flds fs L) : fs.lookup ("history" : Str) = none := h.no _ (by decide +kernel) (by decide +kernel) (by decide +kernel) (by decide +kernel) (by decide +kernel)
/-- three lists of a line told -/
theorem told3 {X : Cx} {C fQ fL fH : Addr} : True := trivial
section
variable {P : Program} {w : World} {K : PySem.W.Frag} {mg : Str → Option Value} {base : Heap} {C : Addr}
theorem ok_law {f fI fQ fL fH fW fC fS fU fLN : Addr} {fd fdI fdQ fdL fdH fdW fdC fdS fdU fdLN : FuncData} (F : Fun K "law" "law" sLaw f fd) (hT : Nm mg) (hsum : mg "sum" = none) (T : LnT K mg C) (M : Mk K C fI)
    (GI : FnOk P w K mg base CX0 1 fI fdI ["self"] (spInit C)) (bI : Binds K fdI ["self"] [])
    (mQ : Meth K C "queue" fQ) (GQ : FnOk P w K mg base CX0 1 fQ fdQ ["self"] (spQueM C)) (bQ : Binds K fdQ ["self"] [])
    (mL : Meth K C "left" fL) (GL : FnOk P w K mg base CX0 1 fL fdL ["self"] (spLeftM C)) (bL : Binds K fdL ["self"] [])
    (mH : Meth K C "history" fH) (GH : FnOk P w K mg base CX0 1 fH fdH ["self"] (spHistM C)) (bH : Binds K fdH ["self"] [])
    (mW : Meth K C "went_past" fW) (GW : FnOk P w K mg base CX0 2 fW fdW ["self", "person"] (spWentM C)) (bW : Binds K fdW ["self", "person"] [])
    (mC : Meth K C "come" fC) (GC : FnOk P w K mg base CX0 3 fC fdC ["self", "patience"] (spComeM C)) (bC : Binds K fdC ["self", "patience"] [])
    (mS : Meth K C "serve" fS) (GS : FnOk P w K mg base CX0 1 fS fdS ["self"] (spServeM C)) (bS : Binds K fdS ["self"] [])
    (mU : Meth K C "undo" fU) (GU : FnOk P w K mg base CX0 2 fU fdU ["self"] (spUndoM C)) (bU : Binds K fdU ["self"] [])
    (hLs : PySem.W.findIn K (.ref C) "__len__" = some (some (.ref fLN))) (hLf : PySem.W.isFn K (.ref fLN) = true) (GLN : FnOk P w K mg base CX0 1 fLN fdLN ["self"] (spLenM C)) (bLN : Binds K fdLN ["self"] [])
    (CB : Cal P w K mg base 5 "_law_bag" ["script"] (spBag K)) (CD : Cal P w K mg base 5 "_law_draw" ["bag", "many"] (spE spDraw)) (CPL : Cal P w K mg base 5 "_law_patience" ["bag", "most"] (spE spPatL))
    (CCR : Cal P w K mg base 5 "_law_came_right" ["line", "patience", "came_with"] (spCameR C)) (CLR : Cal P w K mg base 5 "_law_left_right" ["line", "came_with"] (spLeftR C)) (CPR : Cal P w K mg base 5 "_law_pairs_right" ["line"] (spPairs C)) (CLO : Cal P w K mg base 5 "line_of" ["history"] (spLineOf C)) : FnOk P w K mg base CX0 6 f fd ["script"] (spLaw K) := by
  refine F.ok scLaw (fun vs H Q E ⟨a, ns, e, _⟩ => by rw [e]; rfl) (fun cdv A outer s0 H vs Q E hr h => ?_)
  obtain ⟨a, ns, rfl, hS, h63, q⟩ := h
  have nd := scLaw.nd
  refine ⟨_, (pss_cons (ps_set (i := 1) nd rfl (.inl rfl) (pe_cal CB (hr.mono (by decide)) (by rfl) (pa_cons (pv 0) pa_nil)))
      (pss_cons (ps_for PassesOwn.never rfl (pi_range1 (by rfl) hT.range (pa_cons (pe_op op_add pe_int (pe_callB (call_min2 rfl) (by rfl) hT.min (by decide +kernel) (pa_cons pe_int (pa_cons (pe_callB call_len_seq (by rfl) hT.len PySem.boot_len (pa_cons (pv 0) pa_nil)) pa_nil)))) pa_nil)) (pg_name (i := 2) nd rfl (.inl rfl)) (pss_cons (ps_set (i := 3) nd rfl (.inr rfl) (pe_make0 M GI (hr.mono (by decide)) rfl T.mgC bI .nil pass0))
      (pss_cons (ps_set (i := 4) nd rfl (.inl rfl) (pe_lst pa_nil))
      (pss_cons (ps_set (i := 5) nd rfl (.inl rfl) pe_int)
      (pss_cons (ps_for PassesOwn.never rfl (pi_range1 (by rfl) hT.range (pa_cons (pe_cal CD (hr.mono (by decide)) (by rfl) (pa_cons (pv 1) (pa_cons (pe_ix ix_list (pe_lst (pa_cons pe_int (pa_cons pe_int pa_nil))) (pe_cal CD (hr.mono (by decide)) (by rfl) (pa_cons (pv 1) (pa_cons pe_int pa_nil))) (fun _ _ => rfl)) pa_nil))) pa_nil)) (pg_name (i := 6) nd rfl (.inl rfl)) (pss_one (ps_if (PW.pt (pw_and (pt_cmpR op_gt (pe_callB (call_lenOwn GLN (hr.mono (by decide)) hLs hLf bLN pass0) (by rfl) hT.len PySem.boot_len (pa_cons (pv 3) pa_nil)) pe_int (nomark _)) (pw_and1 (pt_cmpR op_eq (pe_cal CD (hr.mono (by decide)) (by rfl) (pa_cons (pv 1) (pa_cons pe_int pa_nil))) pe_int (nomark _))))) (pss_one (ps_expr (pe_meth0 (pv 3) T.cl mS GS (hr.mono (by decide)) bS .nil pass0))) (pss_cons (ps_set (i := 7) nd rfl (.inl rfl) (pe_cal CPL (hr.mono (by decide)) (by rfl) (pa_cons (pv 1) (pa_cons (pe_ix ix_list (pe_lst (pa_cons pe_int (pa_cons pe_int (pa_cons (pe_op op_pow pe_int pe_int) pa_nil)))) (pe_cal CD (hr.mono (by decide)) (by rfl) (pa_cons (pv 1) (pa_cons pe_int pa_nil))) (fun _ _ => rfl)) pa_nil))))
      (pss_cons (ps_set (i := 8) nd rfl (.inl rfl) (pe_cal CCR (hr.mono (by decide)) (by rfl) (pa_cons (pv 3) (pa_cons (pv 7) (pa_cons (pv 4) pa_nil)))))
      (pss_cons (ps_if (pt_cmp (pc_isN (pv 8))) (pss_one (ps_ret pe_bl)) pss_nil)
      (pss_cons (ps_expr (pe_bm PySem.F.plainAttrs_list PySem.F.slot_list_append PySem.F.type_list_append mt_append (pv 4) (pa_cons (pv 7) pa_nil)))
      (pss_one (ps_set (i := 5) nd rfl (.inl rfl) (pe_op op_add (pv 5) (pv 8)))))))))))
      (pss_cons (ps_if (PW.pt (pw_or (pt_not (pt_val (pe_cal CLR (hr.mono (by decide)) (by rfl) (pa_cons (pv 3) (pa_cons (pv 4) pa_nil))))) (pw_or1 (pt_not (pt_val (pe_cal CPR (hr.mono (by decide)) (by rfl) (pa_cons (pv 3) pa_nil))))))) (pss_one (ps_ret pe_bl)) pss_nil)
      (pss_cons (ps_if (pt_cmpR op_ne (pe_callB (cr_sum rfl) (by rfl) hsum (by decide +kernel) (pa_cons (pe_lc (own := [("person", 10)]) (g := gName 10) (tt := tYes) rfl nd (pi_range1 (by rfl) hT.range (pa_cons (pe_callB call_len_seq (by rfl) hT.len PySem.boot_len (pa_cons (pv 4) pa_nil)) pa_nil)) (blkOk_by (own := [("person", 10)]) (N := nLaw) (sc := defScope sLaw) (by decide +kernel)) (fun _ _ _ _ _ => pg_name (i := 10) nd rfl (Or.inl rfl)) (fun _ _ _ _ _ => pts_nil) (fun _ _ _ _ _ => (pe_meth (pv 3) T.cl mW GW (hr.mono (by decide)) bW .nil pass0 (pa_cons (pv 10) pa_nil)))) pa_nil)) (pv 5) (nomark _)) (pss_one (ps_ret pe_bl)) pss_nil)
      (pss_cons (ps_set (i := 9) nd rfl (.inr rfl) (pe_cal CLO (hr.mono (by decide)) (by rfl) (pa_cons (pe_meth0 (pv 3) T.cl mH GH (hr.mono (by decide)) bH .nil pass0) pa_nil)))
      (pss_cons (ps_expr (pe_meth (pv 9) T.cl mC GC (hr.mono (by decide)) bC .nil pass0 (pa_cons pe_int pa_nil)))
      (pss_cons (ps_expr (pe_meth0 (pv 9) T.cl mU GU (hr.mono (by decide)) bU .nil pass0))
      (pss_cons (ps_if (pt_cmpR (op_neD hr.units) (pe_lst (pa_cons (pe_meth0 (pv 9) T.cl mQ GQ (hr.mono (by decide)) bQ .nil pass0) (pa_cons (pe_meth0 (pv 9) T.cl mL GL (hr.mono (by decide)) bL .nil pass0) (pa_cons (pe_meth0 (pv 9) T.cl mH GH (hr.mono (by decide)) bH .nil pass0) pa_nil)))) (pe_lst (pa_cons (pe_meth0 (pv 3) T.cl mQ GQ (hr.mono (by decide)) bQ .nil pass0) (pa_cons (pe_meth0 (pv 3) T.cl mL GL (hr.mono (by decide)) bL .nil pass0) (pa_cons (pe_meth0 (pv 3) T.cl mH GH (hr.mono (by decide)) bH .nil pass0) pa_nil)))) (nomark _)) (pss_one (ps_ret pe_bl)) pss_nil)
      (pss_one (ps_if (pt_cmpR (op_neE hr.units0) (pe_lc (own := [("person", 10)]) (g := gName 10) rfl nd (pi_range1 (by rfl) hT.range (pa_cons (pe_callB call_len_seq (by rfl) hT.len PySem.boot_len (pa_cons (pv 4) pa_nil)) pa_nil)) (blkOk_by (own := [("person", 10)]) (N := nLaw) (sc := defScope sLaw) (by decide +kernel)) (fun _ _ _ _ _ => pg_name (i := 10) nd rfl (Or.inl rfl)) (fun _ _ _ _ _ => pts_one (pt_cmpR op_ne (pe_meth (pv 9) T.cl mW GW (hr.mono (by decide)) bW .nil pass0 (pa_cons (pv 10) pa_nil)) (pe_meth (pv 3) T.cl mW GW (hr.mono (by decide)) bW .nil pass0 (pa_cons (pv 10) pa_nil)) (nomark _))) (fun _ _ _ _ _ => pv 10)) (pe_lst pa_nil) (nomark _)) (pss_one (ps_ret pe_bl)) pss_nil)))))))))))))
      (pss_one (ps_ret pe_bl)))), ?_⟩
  have hM : M60 = 1000000000000000000 := rfl
  have hGr : (1000000000000000000000000000000 : Int) = GREAT := rfl
  refine ⟨.ref a, rfl, a, ns, rfl, hS, fun r H1 s1 nr b1 => ?_⟩
  have lm : (ns.map V.int).length = ns.length := List.length_map ..
  refine ⟨.ref a, rfl, a, ns.map V.int, rfl, .inl (s1.seq hS), 2, (ns.map V.int).length, rfl, 1, _, rfl, rfl, _, rfl, by split <;> omega, by split <;> omega, ?_⟩
  refine for_range (lo := 0) (n := ((1 : Int) + (if ((ns.map V.int).length : Int) < 2 then ((ns.map V.int).length : Int) else 2)).toNat) (fun i σ H2 => ∃ y2 y3 y4 y5 y6 y7 y8 y9, σ = [some (.ref a), some (.ref r.a), y2, y3, y4, y5, y6, y7, y8, y9, none] ∧ BagAt (3000 * i) H2 r)
    ⟨none, none, none, none, none, none, none, none, rfl, b1.mono (Nat.zero_le _)⟩ (fun i0 σ H2 hi hP => ?_) (fun σ H2 _ => q H2)
  obtain ⟨y2, y3, y4, y5, y6, y7, y8, y9, rfl, b2⟩ := hP
  have hi5 : i0 < 5 := by split at hi <;> omega
  clear hi
  -- line
  refine fun x1 dx1 nx1 nd1 ne1 => ⟨x1, dx1, rfl, upd_same, fun L G1 eA nA lA kA => ⟨rfl, ?_⟩⟩
  have s01 : Same H2 G1 := fun b o e => kA b o (ne_of_none e nx1) (by rw [upd_ne (ne_of_none e nx1), upd_ne (ne_of_none e nd1)]; exact e)
  have nA0 : ∀ b, L.has b → H2 b = none := fun b hb => by
    cases z : H2 b with
    | none => rfl
    | some o =>
      have := nA b hb
      rw [upd_ne (ne_of_none z nx1), upd_ne (ne_of_none z nd1), z] at this
      cases this
  subst eA
  show tSeq _ _ _ [some (.ref a), some (.ref r.a), some (.int (0 + (i0 : Int))), some (.ref L.o), y4, y5, y6, y7, y8, y9, none] G1
  refine ⟨Nat.zero_le _, fun B nB => ?_⟩
  have s12 : Same G1 (upd G1 B (.lst (([] : List (Option Int)).map optV))) := same_upd nB
  have eB : (upd G1 B (.lst (([] : List (Option Int)).map optV))) B = some (.lst (([] : List (Option Int)).map optV)) := upd_same
  show tSeq _ _ _ [some (.ref a), some (.ref r.a), some (.int (0 + (i0 : Int))), some (.ref L.o), some (.ref B), y5, y6, y7, y8, y9, none] (upd G1 B (.lst (([] : List (Option Int)).map optV)))
  have nLB : ¬ L.has B := fun z => by
    obtain ⟨vs, e⟩ := lA.isl z
    rw [nB] at e
    cases e
  have b3 := b2.same s01
  have offB : Off r B := b3.new nB
  have nLa : ¬ L.has r.a := fun z => b2.some (nA0 _ z)
  have nLc : ¬ L.has r.c := fun z => b2.someC (nA0 _ z)
  generalize upd G1 B (.lst (([] : List (Option Int)).map optV)) = G2 at s12 eB
  have b4 := b3.same s12
  have l4 := lA.same s12
  refine set_c ?_
  show tSeq _ _ _ [some (.ref a), some (.ref r.a), some (.int (0 + (i0 : Int))), some (.ref L.o), some (.ref B), some (.int ((LS.nil.ps.sum : Nat) : Int)), y6, y7, y8, y9, none] G2
  -- time
  refine ⟨.ref r.a, rfl, ?_⟩
  refine pick2 (k := 1) rfl b4 (by omega) fun wd H5 hw b5 v5 => ?_
  refine ⟨r, wd, 3000 * i0 + 1, rfl, b5, by omega, by omega, by omega, fun m H6 b6 v6 m0 m1 => ⟨m, rfl, by omega, by omega, ?_⟩⟩
  have mv := v5.trans v6
  have l6 : LineAt C H6 L LS.nil := l4.mv b4 nLa mv
  have eB6 := mv.keep _ _ offB.a eB
  have hm : m.toNat ≤ 299 := by omega
  clear b5 v5 v6 mv b4 l4 eB s12 s01 nA nA0 kA lA b3 nB nx1 nd1 b2
  refine for_range (lo := 0) (n := m.toNat) (fun i σ G => ∃ (ds : List Deed) (cw : List (Option Int)) (y6 y7 y8 : Option V), σ = [some (.ref a), some (.ref r.a), some (.int (0 + (i0 : Int))), some (.ref L.o), some (.ref B), some (.int (((stF ds).ps.sum : Nat) : Int)), y6, y7, y8, y9, none] ∧ BagAt (3000 * i0 + 2 + 7 * i) G r ∧ LineAt C G L (stF ds) ∧ G B = some (.lst (cw.map optV)) ∧ Gd (stF ds) cw ∧ Vd ds ∧ (∀ d ∈ ds, OkD d) ∧ ds.length ≤ i)
    ⟨[], [], y6, y7, y8, rfl, b6, l6, eB6, gd_nil, vd_nil, (fun _ h => nomatch h), Nat.le_refl _⟩ (fun i σ G hi hP => ?_) (fun σ G hP => ?_)
  · clear b6 l6 eB6
    obtain ⟨ds, cw, y6, y7, y8, rfl, bg, lg, eB, gd, hv, ho, hl⟩ := hP
    have ok := hv.ok
    have hn : (stF ds).ps.length ≤ 300 := by
      have h1 := ok.dl
      rw [stF_ds] at h1
      omega
    refine if_mk (fun G' => ∃ k, k ≤ 3000 * i0 + 2 + 7 * i + 1 ∧ BagAt k G' r ∧ LineAt C G' L (stF ds) ∧ G' B = some (.lst (cw.map optV))) (fun G' hG' => ?_) fun Q2 hQf hQt => ?_
    · obtain ⟨k, hk, bg, lg, eB⟩ := hG'
      -- patience
      refine ⟨.ref r.a, rfl, ?_⟩
      refine pick3p (k := 1) rfl bg (by omega) fun wd2 H7 hw2 b7 v7 => ?_
      refine ⟨r, wd2, k + 1, rfl, b7, by omega, by omega, by omega, fun o H8 b8 v8 hp _ => ?_⟩
      have mv := v7.trans v8
      have l8 := lg.mv bg nLa mv
      have eB8 := mv.keep _ _ offB.a eB
      dsimp only [gName]
      show tSeq _ _ _ [some (.ref a), some (.ref r.a), some (.int (0 + (i0 : Int))), some (.ref L.o), some (.ref B), some (.int (((stF ds).ps.sum : Nat) : Int)), some (.int (0 + (i : Int))), some (optV o), y8, y9, none] H8
      refine ⟨.ref L.o, rfl, optV o, rfl, .ref B, rfl, L, _, cw, o, B, rfl, l8, gd, eB8, nLB, hp, by omega, fun H9 l9 m9 => ?_⟩
      have b9 := b8.mvL nLa nLc m9
      have eB9 := m9.keep _ _ nLB eB8
      dsimp only [gName]
      show tSeq _ _ _ [some (.ref a), some (.ref r.a), some (.int (0 + (i0 : Int))), some (.ref L.o), some (.ref B), some (.int (((stF ds).ps.sum : Nat) : Int)), some (.int (0 + (i : Int))), some (optV o), some (.int (((stF ds).xs.drop (stF ds).k).length : Int)), y9, none] H9
      refine ⟨.int (((stF ds).xs.drop (stF ds).k).length : Int), rfl, _, rfl, ite2 (fun z => absurd (of_decide_eq_true z) nofun) (fun _ => ?_)⟩
      have hcl := gd.len
      refine ⟨.ref B, rfl, .inl ⟨rfl, _, SqL.of eB9⟩, optV o, rfl, B, _, _, rfl, rfl, eB9, by rw [List.length_map]; exact small1000 (by omega), ?_⟩
      refine ⟨.int (((stF ds).ps.sum : Nat) : Int), rfl, .int (((stF ds).xs.drop (stF ds).k).length : Int), rfl, _, _, rfl, rfl, ?_⟩
      have es : stF (ds ++ [.come o]) = comeS (stF ds) o := stF_snoc _ _
      refine ⟨ds ++ [.come o], cw ++ [o], some (.int (0 + (i : Int))), some (optV o), some (.int (((stF ds).xs.drop (stF ds).k).length : Int)), ?_, (b9.store offB).mono (by omega), ?_, ?_, ?_, hv.come o, fun d hd => ?_, by rw [List.length_append, List.length_singleton]; omega⟩
      · rw [es]
        have e1 : ((((stF ds).ps.sum : Nat) : Int) + (((stF ds).xs.drop (stF ds).k).length : Int)) = (((comeS (stF ds) o).ps.sum : Nat) : Int) := by
          show _ = (((bump (stF ds).ps ((stF ds).xs.drop (stF ds).k) ++ [0]).sum : Nat) : Int)
          rw [List.sum_append, bump_sum _ _ fun z hz => ok.lt z (List.mem_of_mem_drop hz)]
          simp
        rw [← e1]
        rfl
      · rw [es]
        exact l9.store eB9 nLB
      · rw [upd_same, List.map_append]
        rfl
      · rw [es]
        exact gd.come ok o
      · rcases List.mem_append.mp hd with z | z
        · exact ho d z
        · rw [List.mem_singleton.mp z]
          intro p e
          cases e
          exact hp
    · obtain ⟨dx, fs, hob, hf⟩ := lg.ob
      refine ⟨.ref L.o, rfl, L.o, dx, fs, rfl, hob, L, _, rfl, lg, (stF ds).xs.length, rfl, by have := ok.tot; omega, _, _, rfl, rfl, _, rfl, ite2 (fun y => ?_) (fun _ => hQf G ⟨_, Nat.le_succ _, bg, lg, eB⟩)⟩
      refine ⟨.ref r.a, rfl, r, 4, _, rfl, bg, by omega, by decide, by decide, fun x H7 b7 v7 _ _ => ⟨rfl, _, rfl, ?_⟩⟩
      have QF := hQf H7 ⟨_, Nat.le_refl _, b7, lg.mv bg nLa v7, v7.keep _ _ offB.a eB⟩
      cases decide (V.int x = V.int 0) with
      | false => exact QF
      | true =>
      refine hQt H7 ?_
      have hx : (stF ds).xs ≠ [] := fun z => by
        have y := of_decide_eq_true y
        rw [z] at y
        exact absurd y (by decide)
      obtain ⟨x0, xs0, ex⟩ : ∃ x0 xs0, (stF ds).xs = x0 :: xs0 := by
        cases z : (stF ds).xs with
        | nil => exact absurd z hx
        | cons x0 xs0 => exact ⟨x0, xs0, rfl⟩
      have l7 := lg.mv bg nLa v7
      have eB7 := v7.keep _ _ offB.a eB
      obtain ⟨dx, fs, hob, hf⟩ := l7.ob
      refine ⟨.ref L.o, rfl, L.o, dx, fs, rfl, hob, hf.serve, L, _, x0, xs0, rfl, l7, ex, by omega, fun H8 rr hrr l8 m8 => ?_⟩
      have es : stF (ds ++ [.serve]) = serveS (stF ds) x0 rr := by rw [stF_snoc, serve_eqX ex hrr]
      refine ⟨ds ++ [.serve], cw, some (.int (0 + (i : Int))), y7, y8, ?_, (b7.mvL nLa nLc m8).mono (by omega), ?_, m8.keep _ _ nLB eB7, ?_, hv.serve hx, fun d hd => ?_, by rw [List.length_append, List.length_singleton]; omega⟩
      · rw [es]
        rfl
      · rw [es]; exact l8
      · rw [es]; exact gd.serve x0 rr
      · rcases List.mem_append.mp hd with z | z
        · exact ho d z
        · rw [List.mem_singleton.mp z]
          intro p e
          cases e
  · clear b6 l6 eB6
    obtain ⟨ds, cw, y6, y7, y8, rfl, bg, lg, eB, gd, hv, ho, hl⟩ := hP
    have ok := hv.ok
    have hn : (stF ds).ps.length ≤ 300 := by
      have h1 := ok.dl
      rw [stF_ds] at h1
      omega
    have hcl := gd.len
    dsimp only []
    show tSeq _ _ _ [some (.ref a), some (.ref r.a), some (.int (0 + (i0 : Int))), some (.ref L.o), some (.ref B), some (.int (((stF ds).ps.sum : Nat) : Int)), y6, y7, y8, y9, none] G
    refine ⟨.ref L.o, rfl, .ref B, rfl, L, _, cw, B, rfl, lg, gd, eB, by omega, fun H7 s7 => ⟨true, rfl, iteF ?_⟩⟩
    have l7 := lg.same s7
    refine ⟨.ref L.o, rfl, L, _, cw, rfl, l7, gd, by omega, fun H8 s8 => ⟨true, rfl, iteF ?_⟩⟩
    have l8 := l7.same s8
    have eB8 := s8 _ _ (s7 _ _ eB)
    have b8 := (bg.same s7).same s8
    -- sum
    refine ⟨.ref B, rfl, B, _, rfl, .inl (SqL.of eB8), _, rfl, by rw [List.length_map]; omega, by rw [List.length_map]; omega, fun D nD => ?_⟩
    refine lc_range (lo := 0) (n := (((cw.map optV).length : Nat) : Int).toNat) (fun i G' => (∀ b o, b ≠ D → H8 b = some o → G' b = some o) ∧ G' D = some (.lst ((((stF ds).ps.take i).map fun v : Nat => (v : Int)).map V.int)))
      ⟨fun b o nb e => by rw [upd_ne nb]; exact e, upd_same⟩ (fun i G' hi ⟨m, eD⟩ => ?_) (fun G' ⟨m, eD⟩ => ?_)
    · have hi : i < (stF ds).ps.length := by rw [List.length_map] at hi; omega
      have lG := l8.same ((fun b o e => m b o (ne_of_none e nD) e) : Same H8 G')
      obtain ⟨dx, fs, hob, hf⟩ := lG.ob
      rw [Int.zero_add]
      refine ⟨rfl, yesT ⟨.ref L.o, rfl, L.o, dx, fs, rfl, hob, hf.went, .int (i : Int), rfl, L, _, i, hi, rfl, lG, fun H9 s9 => ⟨_, s9 _ _ eD, by rw [List.length_map, List.length_map, List.length_take]; exact small1000 (by omega), fun b o nb e => by rw [upd_ne nb]; exact s9 _ _ (m b o nb e), ?_⟩⟩⟩
      rw [upd_same, List.take_add_one, List.getElem?_eq_getElem hi, List.map_append, List.map_append]
      rfl
    have en : (((cw.map optV).length : Nat) : Int).toNat = (stF ds).ps.length := by rw [List.length_map]; omega
    rw [en, List.take_length] at eD
    refine ⟨D, _, rfl, SqL.of eD, .int (((stF ds).ps.sum : Nat) : Int), rfl, rfl, _, rfl, ite2 (fun y => absurd y ?_) (fun _ => ?_)⟩
    · have e1 : ∀ l : List Nat, (l.map fun v : Nat => (v : Int)).sum = ((l.sum : Nat) : Int) := fun l => by
        induction l with
        | nil => rfl
        | cons v l ih => rw [List.map_cons, List.sum_cons, List.sum_cons, ih]; omega
      show ¬ (!decide (V.int ((stF ds).ps.map fun v : Nat => (v : Int)).sum = V.int (((stF ds).ps.sum : Nat) : Int))) = true
      rw [e1]
      simp
    have s9 : Same H8 G' := fun b o e => m b o (ne_of_none e nD) e
    have l9 := l8.same s9
    have eB9 := s9 _ _ eB8
    have b9 := b8.same s9
    clear m eD nD
    -- other = line_of(line.history())
    obtain ⟨dx, fs, hob, hf⟩ := l9.ob
    refine ⟨.ref L.o, rfl, L.o, dx, fs, rfl, hob, hf.hist, L, _, rfl, l9, fun hh ws nh aw => ?_⟩
    rw [stF_ds] at aw
    have s10 : Same G' (upd G' hh (.lst ws)) := same_upd nh
    have eh : (upd G' hh (.lst ws)) hh = some (.lst ws) := upd_same
    generalize upd G' hh (.lst ws) = H10 at s10 eh
    have aw10 : All2 (DeedV H10) ws ds := aw.imp fun _ _ => DeedV.kx fun t ys e => s10 _ _ e
    refine ⟨.ref hh, .list (ds.map deedD), ds.map deedD, rfl, .lst eh (deeds_rp aw10), rfl, stand_deeds ds [] (by exact hv) ho, by rw [List.length_map]; omega, fun O H11 s11 nO lO vO => ?_⟩
    rw [map_toDeed ds ho] at lO
    have l11 := (l9.same s10).same s11
    have disOL : ∀ b, L.has b → ¬ O.has b := fun b hb ho => by
      obtain ⟨vs, e⟩ := (l9.same s10).isl hb
      rw [nO b ho] at e
      cases e
    have b11 := (b9.same s10).same s11
    have nOa : ¬ O.has r.a := fun z => (b9.same s10).some (nO _ z)
    have nOc : ¬ O.has r.c := fun z => (b9.same s10).someC (nO _ z)
    have nOB : ¬ O.has B := fun z => by
      have := s10 _ _ eB9
      rw [nO _ z] at this
      cases this
    have eB11 := s11 _ _ (s10 _ _ eB9)
    dsimp only [gName]
    show tSeq _ _ _ [some (.ref a), some (.ref r.a), some (.int (0 + (i0 : Int))), some (.ref L.o), some (.ref B), some (.int (((stF ds).ps.sum : Nat) : Int)), y6, y7, y8, some (.ref O.o), none] H11
    clear s10 s11 eh aw aw10 nh nO l9 s9 b9 eB9 l8 s8 l7 s7 eB8 b8
    -- other.come(5)
    obtain ⟨dx, fs, hob, hf⟩ := lO.ob
    have h5 : isPatience (optD (some 5)) = true := pat_some (by decide) (by decide)
    refine ⟨.ref O.o, rfl, O.o, dx, fs, rfl, hob, hf.come, O, _, some 5, rfl, lO, h5, by omega, fun H12 l12 m12 => ?_⟩
    have lL12 := l11.other lO disOL m12
    have eB12 := m12.keep _ _ nOB eB11
    have b12 := b11.mvL nOa nOc m12
    -- other.undo()
    obtain ⟨dx, fs, hob, hf⟩ := l12.ob
    refine ⟨.ref O.o, rfl, O.o, dx, fs, rfl, hob, hf.undo, O, stF ds, .come (some 5), rfl, l12, ok, (fun z => by cases z), by omega, fun H13 l13 m13 => ?_⟩
    have lL13 := lL12.other l12 disOL m13
    have eB13 := m13.keep _ _ nOB eB12
    have b13 := b12.mvL nOa nOc m13
    clear l12 m12 lL12 eB12 b12 l11 eB11 b11 m13
    -- told by both
    obtain ⟨dx, fs, hob, hf⟩ := l13.ob
    refine ⟨.ref O.o, rfl, O.o, dx, fs, rfl, hob, hf.queue, O, _, rfl, l13, fun q1 n1 => ?_⟩
    have s2 : Same H13 (upd H13 q1 (.lst (ppl (stF ds).xs))) := same_upd n1
    have e1 : (upd H13 q1 (.lst (ppl (stF ds).xs))) q1 = some (.lst (ppl (stF ds).xs)) := upd_same
    generalize upd H13 q1 (.lst (ppl (stF ds).xs)) = K2 at s2 e1
    refine ⟨.ref O.o, rfl, O.o, dx, fs, rfl, s2 _ _ hob, hf.left, O, _, rfl, l13.same s2, fun q2 n2 => ?_⟩
    have s3 : Same K2 (upd K2 q2 (.lst ((stF ds).rs.map optV))) := same_upd n2
    have e2 : (upd K2 q2 (.lst ((stF ds).rs.map optV))) q2 = some (.lst ((stF ds).rs.map optV)) := upd_same
    generalize upd K2 q2 (.lst ((stF ds).rs.map optV)) = K3 at s3 e2
    refine ⟨.ref O.o, rfl, O.o, dx, fs, rfl, s3 _ _ (s2 _ _ hob), hf.hist, O, _, rfl, (l13.same s2).same s3, fun q3 ws3 n3 aw3 => ?_⟩
    have s4 : Same K3 (upd K3 q3 (.lst ws3)) := same_upd n3
    have e3 : (upd K3 q3 (.lst ws3)) q3 = some (.lst ws3) := upd_same
    generalize upd K3 q3 (.lst ws3) = K4 at s4 e3
    refine ⟨small_le (by show 3 ≤ 1000; decide), fun TO nTO => ?_⟩
    have s5 : Same K4 (upd K4 TO (.lst [.ref q1, .ref q2, .ref q3])) := same_upd nTO
    have eTO : (upd K4 TO (.lst [.ref q1, .ref q2, .ref q3])) TO = some (.lst [.ref q1, .ref q2, .ref q3]) := upd_same
    generalize upd K4 TO (.lst [.ref q1, .ref q2, .ref q3]) = K5 at s5 eTO
    have sK5 : Same H13 K5 := (s2.trans s3).trans (s4.trans s5)
    have e1 := s5 _ _ (s4 _ _ (s3 _ _ e1))
    have e2 := s5 _ _ (s4 _ _ e2)
    have e3 := s5 _ _ e3
    have aw3' : All2 (DeedV K5) ws3 (stF ds).ds := aw3.imp fun _ _ => DeedV.kx fun t ys e => s5 _ _ (s4 _ _ e)
    have lLK := lL13.same sK5
    obtain ⟨dx', fs', hob', hf'⟩ := lLK.ob
    refine ⟨.ref L.o, rfl, L.o, dx', fs', rfl, hob', hf'.queue, L, _, rfl, lLK, fun p1 m1' => ?_⟩
    have t2 : Same K5 (upd K5 p1 (.lst (ppl (stF ds).xs))) := same_upd m1'
    have f1 : (upd K5 p1 (.lst (ppl (stF ds).xs))) p1 = some (.lst (ppl (stF ds).xs)) := upd_same
    generalize upd K5 p1 (.lst (ppl (stF ds).xs)) = K6 at t2 f1
    refine ⟨.ref L.o, rfl, L.o, dx', fs', rfl, t2 _ _ hob', hf'.left, L, _, rfl, lLK.same t2, fun p2 m2' => ?_⟩
    have t3 : Same K6 (upd K6 p2 (.lst ((stF ds).rs.map optV))) := same_upd m2'
    have f2 : (upd K6 p2 (.lst ((stF ds).rs.map optV))) p2 = some (.lst ((stF ds).rs.map optV)) := upd_same
    generalize upd K6 p2 (.lst ((stF ds).rs.map optV)) = K7 at t3 f2
    refine ⟨.ref L.o, rfl, L.o, dx', fs', rfl, t3 _ _ (t2 _ _ hob'), hf'.hist, L, _, rfl, (lLK.same t2).same t3, fun p3 us3 m3' au3 => ?_⟩
    have t4 : Same K7 (upd K7 p3 (.lst us3)) := same_upd m3'
    have f3 : (upd K7 p3 (.lst us3)) p3 = some (.lst us3) := upd_same
    generalize upd K7 p3 (.lst us3) = K8 at t4 f3
    refine ⟨small_le (by show 3 ≤ 1000; decide), fun TL nTL => ?_⟩
    have t5 : Same K8 (upd K8 TL (.lst [.ref p1, .ref p2, .ref p3])) := same_upd nTL
    have fTL : (upd K8 TL (.lst [.ref p1, .ref p2, .ref p3])) TL = some (.lst [.ref p1, .ref p2, .ref p3]) := upd_same
    generalize upd K8 TL (.lst [.ref p1, .ref p2, .ref p3]) = K9 at t5 fTL
    have tK9 : Same K5 K9 := (t2.trans t3).trans (t4.trans t5)
    have dpL : Dp K K9 (.ref TL) (dataS (stF ds)) := dataS_dp fTL (t5 _ _ (t4 _ _ (t3 _ _ f1))) (t5 _ _ (t4 _ _ f2)) (t5 _ _ f3) (au3.imp fun _ _ => DeedV.kx fun t ys e => t5 _ _ (t4 _ _ e))
    have dpO : Dp K K9 (.ref TO) (dataS (stF ds)) := dataS_dp (tK9 _ _ eTO) (tK9 _ _ e1) (tK9 _ _ e2) (tK9 _ _ e3) (aw3'.imp fun _ _ => DeedV.kx fun t ys e => tK9 _ _ e)
    refine ⟨dataS (stF ds), dataS (stF ds), dpO, dpL, dataS_shaped _, dataS_shaped _, _, rfl, ite2 (fun y => absurd y (by rw [dataS_eqv]; simp)) (fun _ => ?_)⟩
    have lO9 := (l13.same sK5).same tK9
    have lL9 := lLK.same tK9
    have eB9 := tK9 _ _ (sK5 _ _ eB13)
    have b9 := (b13.same sK5).same tK9
    -- went past, by both
    refine ⟨.ref B, rfl, B, _, rfl, .inl (SqL.of eB9), _, rfl, by rw [List.length_map]; omega, by rw [List.length_map]; omega, fun D nD => ?_⟩
    refine lc_range (lo := 0) (n := (((cw.map optV).length : Nat) : Int).toNat) (fun i G' => Same K9 G' ∧ G' D = some (.lst []))
      ⟨same_upd nD, upd_same⟩ (fun i G' hi ⟨m, eD⟩ => ?_) (fun G' ⟨m, eD⟩ => ?_)
    · have hi : i < (stF ds).ps.length := by rw [List.length_map] at hi; omega
      have lG := lO9.same m
      obtain ⟨dx, fs, hob, hf⟩ := lG.ob
      rw [Int.zero_add]
      refine ⟨rfl, .ref O.o, rfl, O.o, dx, fs, rfl, hob, hf.went, .int (i : Int), rfl, O, _, i, hi, rfl, lG, fun H4 s4 => ?_⟩
      have lG2 := (lL9.same m).same s4
      obtain ⟨dx, fs, hob, hf⟩ := lG2.ob
      refine ⟨.ref L.o, rfl, L.o, dx, fs, rfl, hob, hf.went, .int (i : Int), rfl, L, _, i, hi, rfl, lG2, fun H5 s5 => ⟨rfl, _, rfl, ?_⟩⟩
      exact ite2 (fun y => absurd y (by simp)) (fun _ => ⟨(m.trans s4).trans s5, s5 _ _ (s4 _ _ eD)⟩)
    · refine ⟨Nat.zero_le _, fun Z nZ => ⟨D, Z, [], rfl, rfl, (same_upd nZ) _ _ eD, upd_same, _, rfl, iteF ?_⟩⟩
      exact ⟨_, _, _, _, _, _, _, _, rfl, ((b9.same m).same (same_upd nZ)).mono (by omega)⟩
end
end CL
set_option Elab.async false
set_option linter.all false
set_option maxRecDepth 100000
set_option maxHeartbeats 4000000
namespace CL
open PySem PySem.Spec PyProof.Rows L2 GE
/-! ### a def that is called where no repr is under way -/
structure FnG (P : Program) (w : World) (K : PySem.W.Frag) (mg : Str → Option Value) (base : Heap) (k : Nat) (f : Addr) (fd : FuncData) (ps : List Str) (sp : Sp) : Prop where
  run : ∀ (A : Around) (outer : List Env) (s : Shared) (H : Hp) (args : Args) (us : List Value) (vs : List V) (Q : VK) (E : XK), A.guards = some [] → Room k A → Env0 P w K mg base A outer s H → BindsTo s fd args (ps.zip us) → Vals vs us → sp vs H Q E →
    codeAny (model P w) A (.call (.ref f) args) (CR CX0 outer P w H s Q E) s
end CL
set_option Elab.async false
set_option linter.all false
set_option maxRecDepth 100000
set_option maxHeartbeats 4000000
namespace CL
open PySem PySem.Spec PyProof.Rows L2 GE
/-! ### the end: what is tracked when the law is called, and that the run leaves the heap as it was but for the tables -/
def H0 (ts : List Addr) (K : PySem.W.Frag) (a : Addr) (vs : List Value) (ns : List Int) : Hp := fun b =>
  if b ∈ ts then some (.tbl #[]) else if b = a ∧ (K.lookup a).isNone = true then some (.frz { cls := .type "list", data := .seq vs.toArray } (.lst (ns.map V.int))) else none
section
variable {ts : List Addr} {K : PySem.W.Frag} {a : Addr} {vs : List Value} {ns : List Int} {h : Heap}
theorem H0.tab {b : Addr} (m : b ∈ ts) : H0 ts K a vs ns b = some (.tbl #[]) := if_pos m
theorem H0.cases {b : Addr} {u : HO} (e : H0 ts K a vs ns b = some u) : (b ∈ ts ∧ u = .tbl #[]) ∨ (b = a ∧ K.lookup a = none ∧ u = .frz { cls := .type "list", data := .seq vs.toArray } (.lst (ns.map V.int))) := by
  unfold H0 at e
  split at e
  · rename_i m
    exact .inl ⟨m, (Option.some.inj e).symm⟩
  · split at e
    · rename_i z
      exact .inr ⟨z.1, Option.isNone_iff_eq_none.mp z.2, (Option.some.inj e).symm⟩
    · cases e
/-- an object that is no list and no empty table is not tracked -/
theorem H0.other (hT : ∀ b ∈ ts, h.get? b = some { cls := .none, data := .fields #[] }) (ha : h.get? a = some { cls := .type "list", data := .seq vs.toArray }) {b : Addr} {o : Obj} (e : h.get? b = some o) (h1 : o.data ≠ .seq vs.toArray) (h2 : o.data ≠ .fields #[]) :
    H0 ts K a vs ns b = none := by
  cases q : H0 ts K a vs ns b with
  | none => rfl
  | some u =>
    rcases H0.cases q with ⟨m, _⟩ | ⟨rfl, _, _⟩
    · rw [hT b m] at e
      cases e
      exact absurd rfl h2
    · rw [ha] at e
      cases e
      exact absurd rfl h1
end
theorem end_own {P : Program} {w : World} {K : PySem.W.Frag} {mg mb : Str → Option Value} {q : Program} {loose : List Str} {mean : ExcName → Option Value} {k : Nat} {fa a : Addr} {fd : FuncData} {x : Str} {sp : Sp} {s₁ : Shared} {vs : List Value} {ns : List Int} (ts : List Addr)
    (KX : K.In s₁.heap) (T : Top q loose mean mg mb s₁.heap) (hi0 : importsNone q = true) (hg : s₁.gens = #[])
    (hT : ∀ b ∈ ts, s₁.heap.get? b = some { cls := .none, data := .fields #[] }) (hC : ∀ b ∈ ts, ∃ c, PySem.W.codeHdIn K c b = true) (nT : ∀ b ∈ ts, K.lookup b = none)
    (ha : s₁.heap.get? a = some { cls := .type "list", data := .seq vs.toArray }) (hi : IntsAre vs ns) (hl : ns.length ≤ sizeLine) (hr : Room k callerA)
    (F : ∀ base : Heap, K.In base → base.Ns mainGlobals mg → (∃ o, base.get? sysModules = some o) → (∀ b ∈ ts, base.BuiltinsAt mg b ∧ mainGlobals ≠ b) → FnG P w K mg base k fa fd [x] sp)
    (hbind : ∀ (s : Shared) (u : Value), BindsTo s fd ⟨[u], []⟩ [(x, u)])
    (hsp : ∀ H : Hp, (∀ b ∈ ts, H b = some (.tbl #[])) → SqL K H a (ns.map V.int) → sp [.ref a] H (fun v _ => v = .bl true) fun _ _ _ => False) :
    codeAny (model P w) callerA (.call (.ref fa) ⟨[.ref a], []⟩) (fun r s' => r = .ok (.ret (.bool true)) ∧ OldK s₁.heap s'.heap ∧ s'.os = s₁.os ∧ AllBare s'.gens) s₁ := by
  have rv := vals_ints hi
  have aT : a ∉ ts := fun m => by
    have z := hT a m
    rw [ha] at z
    cases z
  generalize hH : H0 ts K a vs ns = H
  have tabs : ∀ b ∈ ts, H b = some (.tbl #[]) := fun b m => by rw [← hH]; exact H0.tab m
  have cs : ∀ {b : Addr} {u : HO}, H b = some u → (b ∈ ts ∧ u = .tbl #[]) ∨ (b = a ∧ K.lookup a = none ∧ u = .frz { cls := .type "list", data := .seq vs.toArray } (.lst (ns.map V.int))) := fun e => by
    rw [← hH] at e
    exact H0.cases e
  have oth : ∀ {b : Addr} {o : Obj}, s₁.heap.get? b = some o → o.data ≠ .seq vs.toArray → o.data ≠ .fields #[] → H b = none := fun e h1 h2 => by
    rw [← hH]
    exact H0.other hT ha e h1 h2
  have inB : ∀ {b : Addr} {o : Obj}, s₁.heap.get? b = some o → H b = none → (hidT s₁.heap H).get? b = some o := fun e n => hidT_get e n
  have nsB : ∀ {b : Addr} {m : Str → Option Value}, s₁.heap.Ns b m → (hidT s₁.heap H).Ns b m := fun ⟨o, es, ep, e, d, r⟩ => ⟨o, es, ep, inB e (oth e (by rw [d]; exact nofun) (by rw [d]; exact nofun)), d, r⟩
  have hok : HOk P w H s₁.heap := fun b u e => by
    rcases cs e with ⟨m, rfl⟩ | ⟨rfl, _, rfl⟩
    · exact hT b m
    · exact ⟨ha, by rw [List.length_map]; exact hl, vs, _, rv, ha⟩
  have hS : SqL K H a (ns.map V.int) := by
    cases hk : K.lookup a with
    | some o =>
      have e := KX a o hk
      rw [ha] at e
      cases e
      exact .inr ⟨_, vs.toArray, _, hk, rfl, rfl, rfl, by rw [List.size_toArray, hi.length]; exact hl, by simpa using rv⟩
    | none =>
      have e : H a = some (.frz { cls := .type "list", data := .seq vs.toArray } (.lst (ns.map V.int))) := by
        rw [← hH]
        unfold H0
        rw [if_neg aT, if_pos ⟨rfl, by rw [hk]; rfl⟩]
      exact .inl (.inr ⟨_, e⟩)
  have KB : K.In (hidT s₁.heap H) := fun b o e => inB (KX b o e) (by
    cases z : H b with
    | none => rfl
    | some u =>
      rcases cs z with ⟨m, _⟩ | ⟨rfl, n, _⟩
      · rw [nT b m] at e; cases e
      · rw [n] at e; cases e)
  have hM : L2.Mod K mg (hidT s₁.heap H) := ⟨KB, nsB T.g, ⟨mb, nsB T.b, T.builtins⟩, let ⟨mc, h1, h2⟩ := T.nolimit; ⟨mc, nsB h1, h2⟩⟩
  have sysB : ∃ o, (hidT s₁.heap H).get? sysModules = some o := by
    obtain ⟨mm, ⟨o, es, ep, e, d, _⟩, _⟩ := (T.seer hi0).mods
    exact ⟨o, inB e (oth e (by rw [d]; exact nofun) (by rw [d]; exact nofun))⟩
  have gB : ∀ b ∈ ts, mainGlobals ≠ b := fun b m z => by
    obtain ⟨o, es, ep, e, d, _⟩ := T.g
    rw [z, hT b m] at e
    cases e
    cases d
  have bB : ∀ b ∈ ts, (hidT s₁.heap H).BuiltinsAt mg b := fun b m => by
    obtain ⟨bm, ob, b1, b2, b3, b4, b5, b6⟩ := T.bmain
    refine ⟨bm, ob, b1, b2, fun z => ?_, fun z => ?_, inB b3 (oth b3 (by rw [b6]; exact nofun) (by rw [b6]; exact nofun)), b4, b5, b6⟩
    · obtain ⟨o, es, ep, e, d, _⟩ := T.g
      rw [z, e] at b3
      cases b3
      rw [d] at b6
      cases b6
    · rw [z, hT b m] at b3
      cases b3
      cases b6
  have e0 : Env0 P w K mg (hidT s₁.heap H) callerA [] s₁ H := ⟨rfl, hM, fun b o e => of_hidT e, Nat.le_of_eq (hidT_size _ _), trivial, fun b hb => absurd (show b ∈ ([] : List Addr) from hb) (by simp), hok, .of_eq hg⟩
  have G := F _ KB (nsB T.g) sysB fun b m => ⟨bB b m, gB b m⟩
  refine codeAny_mono (G.run callerA [] s₁ H ⟨[.ref a], []⟩ [.ref a] [.ref a] _ _ rfl hr e0 (hbind s₁ (.ref a)) (.cons rfl .nil) (hsp H tabs hS)) fun r s' z => ?_
  cases r with
  | error e => exact False.elim z
  | ok fl =>
    cases fl with
    | next => exact False.elim z
    | brk => exact False.elim z
    | cont => exact False.elim z
    | ret u =>
      obtain ⟨v, H', os, bare, un, hok', r', e'⟩ := z
      obtain rfl : v = .bl true := e'
      obtain rfl : u = Value.bool true := r'
      have stays : ∀ b o, b ∉ ts → s₁.heap.get? b = some o → s'.heap.get? b = some o := fun b o nb e => by
        cases z : H b with
        | none => exact un.keep b o e z (fun y => absurd (show b ∈ ([] : List Addr) from y) (by simp)) (by simp)
        | some u =>
          rcases cs z with ⟨m, _⟩ | ⟨rfl, _, rfl⟩
          · exact absurd m nb
          · rw [ha] at e
            cases e
            exact (hok' _ _ (un.frzs _ _ _ z)).1
      have grow : ∀ b ∈ ts, ∃ more : Array Value, s'.heap.get? b = some { cls := .none, data := .fields more } := fun b m => by
        obtain ⟨more, e⟩ := un.tbls b #[] (tabs b m)
        exact ⟨_, hok' b _ e⟩
      refine ⟨rfl, ⟨fun b o e => ?_, fun b o e => ?_⟩, os, bare⟩
      · by_cases m : b ∈ ts
        · obtain ⟨c, hc⟩ := hC b m
          obtain ⟨more, hm⟩ := grow b m
          rw [hT b m] at e
          cases e
          exact .inr (.inl ⟨((PySem.W.codeHd_of_K KX hc).tab (hT b m)).isCodeTable, rfl, #[], more, rfl, by rw [Array.empty_append]; exact hm⟩)
        · exact .inl (stays b o m e)
      · by_cases m : b ∈ ts
        · obtain ⟨more, hm⟩ := grow b m
          exact ⟨_, hm⟩
        · exact ⟨o, stays b o m e⟩
end CL
set_option Elab.async false
set_option linter.all false
set_option maxRecDepth 100000
set_option maxHeartbeats 4000000
namespace CL
open PySem PySem.Spec PyProof.Rows L2 GE
theorem fnE {P : Program} {w : World} {K : PySem.W.Frag} {mg : Str → Option Value} {base : Heap} {k : Nat} {f : Addr} {fd : FuncData} {ps : List Str} {sp : Bg → Sp} (F : ∀ r, FnOk P w K mg base CX0 k f fd ps (sp r)) : FnOk P w K mg base CX0 k f fd ps (spE sp) :=
  ⟨fun vs H Q E ⟨r, h⟩ => (F r).len vs H Q E h, fun A outer s H args us vs Q E hr e0 hb rv ⟨r, h⟩ => (F r).run A outer s H args us vs Q E hr e0 hb rv h⟩
/-- the table of a def of the program is empty when the law is called -/
theorem tab_of {q : Program} {loose : List Str} {mean : ExcName → Option Value} {mg mb : Str → Option Value} {h : Heap} {K : PySem.W.Frag} {n : Str} {f c P : Addr} {o : Obj} {fd : FuncData} (T : Top q loose mean mg mb h) (KX : K.In h) (hr : ((recsOf q).any fun e => e.name == n) = true)
    (hm : mg n = some (.ref f)) (k1 : K.lookup f = some o) (k2 : o.data = .func fd) (k3 : fd.code = .ref c) (hh : PySem.W.codeHdIn K c P = true) : h.get? P = some { cls := .none, data := .fields #[] } := by
  obtain ⟨d, hd, e⟩ := List.any_eq_true.mp hr
  have e' : d.name = n := beq_iff_eq.mp e
  obtain ⟨a', o', fd', c', P', t1, t2, t3, t4, t5, t6⟩ := T.tab d hd
  rw [e', hm] at t1
  cases t1
  rw [KX _ _ k1] at t2
  cases t2
  rw [k2] at t3
  cases t3
  rw [k3] at t4
  cases t4
  obtain ⟨⟨oc, vc, g1, _, g3, g4⟩, g5⟩ := t6
  obtain ⟨oh, uh, _, _, _, _, _, _, _, i1, _, i2, i3, _⟩ := PySem.W.codeHd_of_K KX hh
  rw [g1] at i1
  cases i1
  rw [g3] at i2
  cases i2
  rw [g4] at i3
  cases i3
  exact g5
/-- what the head must know of the law's def -/
def AtLaw (l : PySem.W.OpenLaw) (w : World) (K : PySem.W.Frag) (mg : Str → Option Value) (fa : Addr) (h : Heap) : Prop :=
  ∃ (fd : FuncData), (∀ b ∈ ([] : List Addr), h.get? b = some { cls := .none, data := .fields #[] }) ∧ (∀ b ∈ ([] : List Addr), ∃ c, PySem.W.codeHdIn K c b = true) ∧ (∀ b ∈ ([] : List Addr), K.lookup b = none) ∧ (∀ (s : Shared) (u : Value), BindsTo s fd ⟨[u], []⟩ [("script", u)]) ∧
    ∀ base : Heap, K.In base → base.Ns mainGlobals mg → (∃ o, base.get? sysModules = some o) → (∀ b ∈ ([] : List Addr), base.BuiltinsAt mg b ∧ mainGlobals ≠ b) → FnG l.prog w K mg base 6 fa fd ["script"] (spLaw K )
theorem walk {l : PySem.W.OpenLaw} {q : Program} {loose : List Str} {XP : (Str → Option Value) → Heap → Prop} {YP : World → Heap → Prop} {d : DefRec} {K : Params → PySem.W.Frag} (hn : l.most = some 63) (hdf : d.params.defaults = []) (hi0 : importsNone q = true)
    (hY : ∀ (w : World) (h : Heap), YP w h → (K w.params).In h)
    (F : ∀ (w : World) (mg mb : Str → Option Value) (mean : ExcName → Option Value) (lo : List Str) (fa : Addr) (h : Heap), (K w.params).In h → Top q lo mean mg mb h → mg d.name = some (.ref fa) → AtLaw l w (K w.params) mg fa h) :
    PySem.W.WalkO q loose XP YP l.row.toRowW d [] (fun f vs => PySem.call f vs) := by
  refine Att.attach_callB hn hdf fun w s₀ s₁ mg mb fa o pm cd doc a vs ns G Y ho hd hcd hmg hobj hints hlen _ hg => ?_
  obtain ⟨fd, h1, h2, h3, h4, h5⟩ := F w mg mb _ _ fa s₁.heap (hY w _ Y) G.T hmg
  exact end_own [] (hY w _ Y) G.T hi0 hg h1 h2 h3 hobj hints (Nat.le_trans hlen (by decide)) ⟨rfl, by decide, by decide⟩ h5 h4 fun H t hS => ⟨a, ns, rfl, hS, hlen, fun _ => rfl⟩
theorem all_mk {l : PySem.W.OpenLaw} {w : World} {K : PySem.W.Frag} {q : Program} {lo : List Str} {mean : ExcName → Option Value} {h : Heap} {mg mb : Str → Option Value} {fa fMI fMC fMS fMU fMT fMQ fML fMW fMH fMN fW fRW fP fLP fID fIC fIH fLO fBG fSR fDR fPA fPR fCR fLR fZ   cLN : Addr} (X : K.In h) (G : Top q lo mean mg mb h) (hfa : mg "law" = some (.ref fa))
    {odMI anMI : Option Addr} {slMI : Array (Option Value)} {ocMI kVMI dcMI pmMI cdMI ctMI : Value}
    {odMC anMC : Option Addr} {slMC : Array (Option Value)} {ocMC kVMC dcMC pmMC cdMC ctMC : Value}
    {odMS anMS : Option Addr} {slMS : Array (Option Value)} {ocMS kVMS dcMS pmMS cdMS ctMS : Value}
    {odMU anMU : Option Addr} {slMU : Array (Option Value)} {ocMU kVMU dcMU pmMU cdMU ctMU : Value}
    {odMT anMT : Option Addr} {slMT : Array (Option Value)} {ocMT kVMT dcMT pmMT cdMT ctMT : Value}
    {odMQ anMQ : Option Addr} {slMQ : Array (Option Value)} {ocMQ kVMQ dcMQ pmMQ cdMQ ctMQ : Value}
    {odML anML : Option Addr} {slML : Array (Option Value)} {ocML kVML dcML pmML cdML ctML : Value}
    {odMW anMW : Option Addr} {slMW : Array (Option Value)} {ocMW kVMW dcMW pmMW cdMW ctMW : Value}
    {odMH anMH : Option Addr} {slMH : Array (Option Value)} {ocMH kVMH dcMH pmMH cdMH ctMH : Value}
    {odMN anMN : Option Addr} {slMN : Array (Option Value)} {ocMN kVMN dcMN pmMN cdMN ctMN : Value}
    {odW anW : Option Addr} {slW : Array (Option Value)} {ocW kVW dcW pmW cdW ctW : Value}
    {odRW anRW : Option Addr} {slRW : Array (Option Value)} {ocRW kVRW dcRW pmRW cdRW ctRW : Value}
    {odP anP : Option Addr} {slP : Array (Option Value)} {ocP kVP dcP pmP cdP ctP : Value}
    {odLP anLP : Option Addr} {slLP : Array (Option Value)} {ocLP kVLP dcLP pmLP cdLP ctLP : Value}
    {odID anID : Option Addr} {slID : Array (Option Value)} {ocID kVID dcID pmID cdID ctID : Value}
    {odIC anIC : Option Addr} {slIC : Array (Option Value)} {ocIC kVIC dcIC pmIC cdIC ctIC : Value}
    {odIH anIH : Option Addr} {slIH : Array (Option Value)} {ocIH kVIH dcIH pmIH cdIH ctIH : Value}
    {odLO anLO : Option Addr} {slLO : Array (Option Value)} {ocLO kVLO dcLO pmLO cdLO ctLO : Value}
    {odBG anBG : Option Addr} {slBG : Array (Option Value)} {ocBG kVBG dcBG pmBG cdBG ctBG : Value}
    {odSR anSR : Option Addr} {slSR : Array (Option Value)} {ocSR kVSR dcSR pmSR cdSR ctSR : Value}
    {odDR anDR : Option Addr} {slDR : Array (Option Value)} {ocDR kVDR dcDR pmDR cdDR ctDR : Value}
    {odPA anPA : Option Addr} {slPA : Array (Option Value)} {ocPA kVPA dcPA pmPA cdPA ctPA : Value}
    {odPR anPR : Option Addr} {slPR : Array (Option Value)} {ocPR kVPR dcPR pmPR cdPR ctPR : Value}
    {odCR anCR : Option Addr} {slCR : Array (Option Value)} {ocCR kVCR dcCR pmCR cdCR ctCR : Value}
    {odLR anLR : Option Addr} {slLR : Array (Option Value)} {ocLR kVLR dcLR pmLR cdLR ctLR : Value}
    {odZ anZ : Option Addr} {slZ : Array (Option Value)} {ocZ kVZ dcZ pmZ cdZ ctZ : Value} {tgM : Tok}
    (aMI : PySem.W.findIn K (.ref cLN) "__init__" = some (some (.ref fMI))) (lMI : K.lookup fMI = some ⟨ocMI, odMI, .func (PySem.W.fnOf "__init__" "Line.__init__" (defArgs sInit) (defBody sInit) (defScope sInit) .none kVMI dcMI pmMI anMI cdMI ctMI), slMI⟩) (MIc : PySem.W.codeIn K cdMI "Line.__init__" = true) (kMI : PySem.W.keepIn K (.ref fMI) = true) (iMI : PySem.W.isFn K (.ref fMI) = true)
    (aMC : PySem.W.findIn K (.ref cLN) "come" = some (some (.ref fMC))) (lMC : K.lookup fMC = some ⟨ocMC, odMC, .func (PySem.W.fnOf "come" "Line.come" (defArgs sComeM) (defBody sComeM) (defScope sComeM) .none kVMC dcMC pmMC anMC cdMC ctMC), slMC⟩) (MCc : PySem.W.codeIn K cdMC "Line.come" = true) (kMC : PySem.W.keepIn K (.ref fMC) = true) (iMC : PySem.W.isFn K (.ref fMC) = true)
    (aMS : PySem.W.findIn K (.ref cLN) "serve" = some (some (.ref fMS))) (lMS : K.lookup fMS = some ⟨ocMS, odMS, .func (PySem.W.fnOf "serve" "Line.serve" (defArgs sServeM) (defBody sServeM) (defScope sServeM) .none kVMS dcMS pmMS anMS cdMS ctMS), slMS⟩) (MSc : PySem.W.codeIn K cdMS "Line.serve" = true) (kMS : PySem.W.keepIn K (.ref fMS) = true) (iMS : PySem.W.isFn K (.ref fMS) = true)
    (aMU : PySem.W.findIn K (.ref cLN) "undo" = some (some (.ref fMU))) (lMU : K.lookup fMU = some ⟨ocMU, odMU, .func (PySem.W.fnOf "undo" "Line.undo" (defArgs sUndoM) (defBody sUndoM) (defScope sUndoM) .none kVMU dcMU pmMU anMU cdMU ctMU), slMU⟩) (MUc : PySem.W.codeIn K cdMU "Line.undo" = true) (kMU : PySem.W.keepIn K (.ref fMU) = true) (iMU : PySem.W.isFn K (.ref fMU) = true)
    (aMT : PySem.W.findIn K (.ref cLN) "take_newcomer" = some (some (.ref fMT))) (lMT : K.lookup fMT = some ⟨ocMT, odMT, .func (PySem.W.fnOf "take_newcomer" "Line.take_newcomer" (defArgs sTakeM) (defBody sTakeM) (defScope sTakeM) .none kVMT dcMT pmMT anMT cdMT ctMT), slMT⟩) (MTc : PySem.W.codeIn K cdMT "Line.take_newcomer" = true) (kMT : PySem.W.keepIn K (.ref fMT) = true) (iMT : PySem.W.isFn K (.ref fMT) = true)
    (aMQ : PySem.W.findIn K (.ref cLN) "queue" = some (some (.ref fMQ))) (lMQ : K.lookup fMQ = some ⟨ocMQ, odMQ, .func (PySem.W.fnOf "queue" "Line.queue" (defArgs sQueM) (defBody sQueM) (defScope sQueM) .none kVMQ dcMQ pmMQ anMQ cdMQ ctMQ), slMQ⟩) (MQc : PySem.W.codeIn K cdMQ "Line.queue" = true) (kMQ : PySem.W.keepIn K (.ref fMQ) = true) (iMQ : PySem.W.isFn K (.ref fMQ) = true)
    (aML : PySem.W.findIn K (.ref cLN) "left" = some (some (.ref fML))) (lML : K.lookup fML = some ⟨ocML, odML, .func (PySem.W.fnOf "left" "Line.left" (defArgs sLeftM) (defBody sLeftM) (defScope sLeftM) .none kVML dcML pmML anML cdML ctML), slML⟩) (MLc : PySem.W.codeIn K cdML "Line.left" = true) (kML : PySem.W.keepIn K (.ref fML) = true) (iML : PySem.W.isFn K (.ref fML) = true)
    (aMW : PySem.W.findIn K (.ref cLN) "went_past" = some (some (.ref fMW))) (lMW : K.lookup fMW = some ⟨ocMW, odMW, .func (PySem.W.fnOf "went_past" "Line.went_past" (defArgs sWentM) (defBody sWentM) (defScope sWentM) .none kVMW dcMW pmMW anMW cdMW ctMW), slMW⟩) (MWc : PySem.W.codeIn K cdMW "Line.went_past" = true) (kMW : PySem.W.keepIn K (.ref fMW) = true) (iMW : PySem.W.isFn K (.ref fMW) = true)
    (aMH : PySem.W.findIn K (.ref cLN) "history" = some (some (.ref fMH))) (lMH : K.lookup fMH = some ⟨ocMH, odMH, .func (PySem.W.fnOf "history" "Line.history" (defArgs sHistM) (defBody sHistM) (defScope sHistM) .none kVMH dcMH pmMH anMH cdMH ctMH), slMH⟩) (MHc : PySem.W.codeIn K cdMH "Line.history" = true) (kMH : PySem.W.keepIn K (.ref fMH) = true) (iMH : PySem.W.isFn K (.ref fMH) = true)
    (aMN : PySem.W.findIn K (.ref cLN) "__len__" = some (some (.ref fMN))) (lMN : K.lookup fMN = some ⟨ocMN, odMN, .func (PySem.W.fnOf "__len__" "Line.__len__" (defArgs sLenM) (defBody sLenM) (defScope sLenM) .none kVMN dcMN pmMN anMN cdMN ctMN), slMN⟩) (MNc : PySem.W.codeIn K cdMN "Line.__len__" = true) (kMN : PySem.W.keepIn K (.ref fMN) = true) (iMN : PySem.W.isFn K (.ref fMN) = true)
    (aW : PySem.W.nsIn K mainGlobals "is_whole" = some (some (.ref fW))) (lW : K.lookup fW = some ⟨ocW, odW, .func (PySem.W.fnOf "is_whole" "is_whole" (defArgs sWhole) (defBody sWhole) (defScope sWhole) .none kVW dcW pmW anW cdW ctW), slW⟩) (Wc : PySem.W.codeIn K cdW "is_whole" = true) (kW : PySem.W.keepIn K (.ref fW) = true)
    (aRW : PySem.W.nsIn K mainGlobals "is_row" = some (some (.ref fRW))) (lRW : K.lookup fRW = some ⟨ocRW, odRW, .func (PySem.W.fnOf "is_row" "is_row" (defArgs sRow) (defBody sRow) (defScope sRow) .none kVRW dcRW pmRW anRW cdRW ctRW), slRW⟩) (RWc : PySem.W.codeIn K cdRW "is_row" = true) (kRW : PySem.W.keepIn K (.ref fRW) = true)
    (aP : PySem.W.nsIn K mainGlobals "is_patience" = some (some (.ref fP))) (lP : K.lookup fP = some ⟨ocP, odP, .func (PySem.W.fnOf "is_patience" "is_patience" (defArgs sPat) (defBody sPat) (defScope sPat) .none kVP dcP pmP anP cdP ctP), slP⟩) (Pc : PySem.W.codeIn K cdP "is_patience" = true) (kP : PySem.W.keepIn K (.ref fP) = true)
    (aLP : PySem.W.nsIn K mainGlobals "let_past" = some (some (.ref fLP))) (lLP : K.lookup fLP = some ⟨ocLP, odLP, .func (PySem.W.fnOf "let_past" "let_past" (defArgs sLet) (defBody sLet) (defScope sLet) .none kVLP dcLP pmLP anLP cdLP ctLP), slLP⟩) (LPc : PySem.W.codeIn K cdLP "let_past" = true) (kLP : PySem.W.keepIn K (.ref fLP) = true)
    (aID : PySem.W.nsIn K mainGlobals "is_deed" = some (some (.ref fID))) (lID : K.lookup fID = some ⟨ocID, odID, .func (PySem.W.fnOf "is_deed" "is_deed" (defArgs sIsDeed) (defBody sIsDeed) (defScope sIsDeed) .none kVID dcID pmID anID cdID ctID), slID⟩) (IDc : PySem.W.codeIn K cdID "is_deed" = true) (kID : PySem.W.keepIn K (.ref fID) = true)
    (aIC : PySem.W.nsIn K mainGlobals "is_coming" = some (some (.ref fIC))) (lIC : K.lookup fIC = some ⟨ocIC, odIC, .func (PySem.W.fnOf "is_coming" "is_coming" (defArgs sIsCom) (defBody sIsCom) (defScope sIsCom) .none kVIC dcIC pmIC anIC cdIC ctIC), slIC⟩) (ICc : PySem.W.codeIn K cdIC "is_coming" = true) (kIC : PySem.W.keepIn K (.ref fIC) = true)
    (aIH : PySem.W.nsIn K mainGlobals "is_history" = some (some (.ref fIH))) (lIH : K.lookup fIH = some ⟨ocIH, odIH, .func (PySem.W.fnOf "is_history" "is_history" (defArgs sIsHist) (defBody sIsHist) (defScope sIsHist) .none kVIH dcIH pmIH anIH cdIH ctIH), slIH⟩) (IHc : PySem.W.codeIn K cdIH "is_history" = true) (kIH : PySem.W.keepIn K (.ref fIH) = true)
    (aLO : PySem.W.nsIn K mainGlobals "line_of" = some (some (.ref fLO))) (lLO : K.lookup fLO = some ⟨ocLO, odLO, .func (PySem.W.fnOf "line_of" "line_of" (defArgs sLineOf) (defBody sLineOf) (defScope sLineOf) .none kVLO dcLO pmLO anLO cdLO ctLO), slLO⟩) (LOc : PySem.W.codeIn K cdLO "line_of" = true) (kLO : PySem.W.keepIn K (.ref fLO) = true)
    (aBG : PySem.W.nsIn K mainGlobals "_law_bag" = some (some (.ref fBG))) (lBG : K.lookup fBG = some ⟨ocBG, odBG, .func (PySem.W.fnOf "_law_bag" "_law_bag" (defArgs sBag) (defBody sBag) (defScope sBag) .none kVBG dcBG pmBG anBG cdBG ctBG), slBG⟩) (BGc : PySem.W.codeIn K cdBG "_law_bag" = true) (kBG : PySem.W.keepIn K (.ref fBG) = true)
    (aSR : PySem.W.nsIn K mainGlobals "_law_stir" = some (some (.ref fSR))) (lSR : K.lookup fSR = some ⟨ocSR, odSR, .func (PySem.W.fnOf "_law_stir" "_law_stir" (defArgs sStir) (defBody sStir) (defScope sStir) .none kVSR dcSR pmSR anSR cdSR ctSR), slSR⟩) (SRc : PySem.W.codeIn K cdSR "_law_stir" = true) (kSR : PySem.W.keepIn K (.ref fSR) = true)
    (aDR : PySem.W.nsIn K mainGlobals "_law_draw" = some (some (.ref fDR))) (lDR : K.lookup fDR = some ⟨ocDR, odDR, .func (PySem.W.fnOf "_law_draw" "_law_draw" (defArgs sDraw) (defBody sDraw) (defScope sDraw) .none kVDR dcDR pmDR anDR cdDR ctDR), slDR⟩) (DRc : PySem.W.codeIn K cdDR "_law_draw" = true) (kDR : PySem.W.keepIn K (.ref fDR) = true)
    (aPA : PySem.W.nsIn K mainGlobals "_law_patience" = some (some (.ref fPA))) (lPA : K.lookup fPA = some ⟨ocPA, odPA, .func (PySem.W.fnOf "_law_patience" "_law_patience" (defArgs sPatL) (defBody sPatL) (defScope sPatL) .none kVPA dcPA pmPA anPA cdPA ctPA), slPA⟩) (PAc : PySem.W.codeIn K cdPA "_law_patience" = true) (kPA : PySem.W.keepIn K (.ref fPA) = true)
    (aPR : PySem.W.nsIn K mainGlobals "_law_pairs_right" = some (some (.ref fPR))) (lPR : K.lookup fPR = some ⟨ocPR, odPR, .func (PySem.W.fnOf "_law_pairs_right" "_law_pairs_right" (defArgs sPairs) (defBody sPairs) (defScope sPairs) .none kVPR dcPR pmPR anPR cdPR ctPR), slPR⟩) (PRc : PySem.W.codeIn K cdPR "_law_pairs_right" = true) (kPR : PySem.W.keepIn K (.ref fPR) = true)
    (aCR : PySem.W.nsIn K mainGlobals "_law_came_right" = some (some (.ref fCR))) (lCR : K.lookup fCR = some ⟨ocCR, odCR, .func (PySem.W.fnOf "_law_came_right" "_law_came_right" (defArgs sCameR) (defBody sCameR) (defScope sCameR) .none kVCR dcCR pmCR anCR cdCR ctCR), slCR⟩) (CRc : PySem.W.codeIn K cdCR "_law_came_right" = true) (kCR : PySem.W.keepIn K (.ref fCR) = true)
    (aLR : PySem.W.nsIn K mainGlobals "_law_left_right" = some (some (.ref fLR))) (lLR : K.lookup fLR = some ⟨ocLR, odLR, .func (PySem.W.fnOf "_law_left_right" "_law_left_right" (defArgs sLeftR) (defBody sLeftR) (defScope sLeftR) .none kVLR dcLR pmLR anLR cdLR ctLR), slLR⟩) (LRc : PySem.W.codeIn K cdLR "_law_left_right" = true) (kLR : PySem.W.keepIn K (.ref fLR) = true)
    (aZ : PySem.W.nsIn K mainGlobals "law" = some (some (.ref fZ))) (lZ : K.lookup fZ = some ⟨ocZ, odZ, .func (PySem.W.fnOf "law" "law" (defArgs sLaw) (defBody sLaw) (defScope sLaw) .none kVZ dcZ pmZ anZ cdZ ctZ), slZ⟩) (Zc : PySem.W.codeIn K cdZ "law" = true) (kZ : PySem.W.keepIn K (.ref fZ) = true)
    (z_isinstance : PySem.W.nsIn K mainGlobals "isinstance" = some none) (z_len : PySem.W.nsIn K mainGlobals "len" = some none) (z_int : PySem.W.nsIn K mainGlobals "int" = some none) (z_bool : PySem.W.nsIn K mainGlobals "bool" = some none) (z_list : PySem.W.nsIn K mainGlobals "list" = some none) (z_range : PySem.W.nsIn K mainGlobals "range" = some none) (z_min : PySem.W.nsIn K mainGlobals "min" = some none) (z_tuple : PySem.W.nsIn K mainGlobals "tuple" = some none) (z_str : PySem.W.nsIn K mainGlobals "str" = some none) (z_enumerate : PySem.W.nsIn K mainGlobals "enumerate" = some none) (z_zip : PySem.W.nsIn K mainGlobals "zip" = some none) (z_sum : PySem.W.nsIn K mainGlobals "sum" = some none)
    
    (aCLS : PySem.W.nsIn K mainGlobals "Line" = some (some (.ref cLN))) (pgC : PySem.W.plainGet K cLN Str.empty = true) (hdC : PySem.W.hasDictIn K cLN = true) (poC : PySem.W.plainOver K cLN = true) (saC : PySem.W.findIn K (.ref cLN) "__setattr__" = some (some (.builtin "object.__setattr__"))) (mkC : PySem.W.makesIn K cLN = true) (kcC : PySem.W.keepIn K (.ref cLN) = true)
    (nF0 : PySem.W.findIn K (.ref cLN) "people" = some none) (nF1 : PySem.W.findIn K (.ref cLN) "rest" = some none) (nF2 : PySem.W.findIn K (.ref cLN) "past" = some none) (nF3 : PySem.W.findIn K (.ref cLN) "served" = some none) (nF4 : PySem.W.findIn K (.ref cLN) "deeds" = some none)
    
    (gM : PySem.W.nsIn K mainGlobals "GREATEST" = some (some (.int 1000000000000000000000000000000 tgM))) : AtLaw l w K mg fa h := by
  have e := hfa.symm.trans (PySem.W.mg_of X G.g aZ)
  cases e
  have FMI := fun_mk (st := sInit) lMI MIc kMI
  have FMC := fun_mk (st := sComeM) lMC MCc kMC
  have FMS := fun_mk (st := sServeM) lMS MSc kMS
  have FMU := fun_mk (st := sUndoM) lMU MUc kMU
  have FMT := fun_mk (st := sTakeM) lMT MTc kMT
  have FMQ := fun_mk (st := sQueM) lMQ MQc kMQ
  have FML := fun_mk (st := sLeftM) lML MLc kML
  have FMW := fun_mk (st := sWentM) lMW MWc kMW
  have FMH := fun_mk (st := sHistM) lMH MHc kMH
  have FMN := fun_mk (st := sLenM) lMN MNc kMN
  have FW := fun_mk (st := sWhole) lW Wc kW
  have FRW := fun_mk (st := sRow) lRW RWc kRW
  have FP := fun_mk (st := sPat) lP Pc kP
  have FLP := fun_mk (st := sLet) lLP LPc kLP
  have FID := fun_mk (st := sIsDeed) lID IDc kID
  have FIC := fun_mk (st := sIsCom) lIC ICc kIC
  have FIH := fun_mk (st := sIsHist) lIH IHc kIH
  have FLO := fun_mk (st := sLineOf) lLO LOc kLO
  have FBG := fun_mk (st := sBag) lBG BGc kBG
  have FSR := fun_mk (st := sStir) lSR SRc kSR
  have FDR := fun_mk (st := sDraw) lDR DRc kDR
  have FPA := fun_mk (st := sPatL) lPA PAc kPA
  have FPR := fun_mk (st := sPairs) lPR PRc kPR
  have FCR := fun_mk (st := sCameR) lCR CRc kCR
  have FLR := fun_mk (st := sLeftR) lLR LRc kLR
  have FZ := fun_mk (st := sLaw) lZ Zc kZ
  have bMI := FMI.binds (ps := ["self"]) fun _ _ _ _ _ _ us hl => match us, hl with | [_], _ => rfl
  have bMC := FMC.binds (ps := ["self", "patience"]) fun _ _ _ _ _ _ us hl => match us, hl with | [_, _], _ => rfl
  have bMS := FMS.binds (ps := ["self"]) fun _ _ _ _ _ _ us hl => match us, hl with | [_], _ => rfl
  have bMU := FMU.binds (ps := ["self"]) fun _ _ _ _ _ _ us hl => match us, hl with | [_], _ => rfl
  have bMT := FMT.binds (ps := ["self"]) fun _ _ _ _ _ _ us hl => match us, hl with | [_], _ => rfl
  have bMQ := FMQ.binds (ps := ["self"]) fun _ _ _ _ _ _ us hl => match us, hl with | [_], _ => rfl
  have bML := FML.binds (ps := ["self"]) fun _ _ _ _ _ _ us hl => match us, hl with | [_], _ => rfl
  have bMW := FMW.binds (ps := ["self", "person"]) fun _ _ _ _ _ _ us hl => match us, hl with | [_, _], _ => rfl
  have bMH := FMH.binds (ps := ["self"]) fun _ _ _ _ _ _ us hl => match us, hl with | [_], _ => rfl
  have bMN := FMN.binds (ps := ["self"]) fun _ _ _ _ _ _ us hl => match us, hl with | [_], _ => rfl
  have bW := FW.binds (ps := ["thing"]) fun _ _ _ _ _ _ us hl => match us, hl with | [_], _ => rfl
  have bRW := FRW.binds (ps := ["thing"]) fun _ _ _ _ _ _ us hl => match us, hl with | [_], _ => rfl
  have bP := FP.binds (ps := ["thing"]) fun _ _ _ _ _ _ us hl => match us, hl with | [_], _ => rfl
  have bLP := FLP.binds (ps := ["left"]) fun _ _ _ _ _ _ us hl => match us, hl with | [_], _ => rfl
  have bID := FID.binds (ps := ["thing", "word", "many"]) fun _ _ _ _ _ _ us hl => match us, hl with | [_, _, _], _ => rfl
  have bIC := FIC.binds (ps := ["thing"]) fun _ _ _ _ _ _ us hl => match us, hl with | [_], _ => rfl
  have bIH := FIH.binds (ps := ["thing"]) fun _ _ _ _ _ _ us hl => match us, hl with | [_], _ => rfl
  have bLO := FLO.binds (ps := ["history"]) fun _ _ _ _ _ _ us hl => match us, hl with | [_], _ => rfl
  have bBG := FBG.binds (ps := ["script"]) fun _ _ _ _ _ _ us hl => match us, hl with | [_], _ => rfl
  have bSR := FSR.binds (ps := ["number", "place"]) fun _ _ _ _ _ _ us hl => match us, hl with | [_, _], _ => rfl
  have bDR := FDR.binds (ps := ["bag", "many"]) fun _ _ _ _ _ _ us hl => match us, hl with | [_, _], _ => rfl
  have bPA := FPA.binds (ps := ["bag", "most"]) fun _ _ _ _ _ _ us hl => match us, hl with | [_, _], _ => rfl
  have bPR := FPR.binds (ps := ["line"]) fun _ _ _ _ _ _ us hl => match us, hl with | [_], _ => rfl
  have bCR := FCR.binds (ps := ["line", "patience", "came_with"]) fun _ _ _ _ _ _ us hl => match us, hl with | [_, _, _], _ => rfl
  have bLR := FLR.binds (ps := ["line", "came_with"]) fun _ _ _ _ _ _ us hl => match us, hl with | [_, _], _ => rfl
  have bZ := FZ.binds (ps := ["script"]) fun _ _ _ _ _ _ us hl => match us, hl with | [_], _ => rfl
  have m := fun {n : Str} (e : PySem.W.nsIn K mainGlobals n = some none) => PySem.W.mg_none_of X G.g e
  have g := fun {n : Str} {v : Value} (e : PySem.W.nsIn K mainGlobals n = some (some v)) => PySem.W.mg_of X G.g e
  have T : Nm mg := ⟨m z_isinstance, m z_len, m z_int, m z_bool, m z_list, m z_range, m z_min, ⟨_, g gM⟩⟩
  have TL : LnT K mg cLN := ⟨⟨pgC, hdC, poC, saC⟩, nF0, nF1, nF2, nF3, nF4, g aCLS⟩
  refine ⟨PySem.W.fnOf "law" "law" (defArgs sLaw) (defBody sLaw) (defScope sLaw) .none kVZ dcZ pmZ anZ cdZ ctZ, fun b hb => ?_, fun b hb => ?_, fun b hb => ?_, fun s v => .of_eq rfl, fun base _ _ hsys hB => ?_⟩
  · exact absurd hb (by simp)
  · exact absurd hb (by simp)
  · exact absurd hb (by simp)
  · have XB : K.In base := ‹K.In base›
    have KW : Cal l.prog w K mg base 1 "is_whole" ["thing"] (spOne isWhole) := ⟨fW, _, g aW, kW, bW, ok_whole FW T⟩
    have KRW : Cal l.prog w K mg base 1 "is_row" ["thing"] (spOne isRow) := ⟨fRW, _, g aRW, kRW, bRW, ok_row FRW T (m z_tuple)⟩
    have KP : Cal l.prog w K mg base 2 "is_patience" ["thing"] (spOne isPatience) := ⟨fP, _, g aP, kP, bP, ok_pat FP T KW⟩
    have KLP : Cal l.prog w K mg base 1 "let_past" ["left"] (spLet) := ⟨fLP, _, g aLP, kLP, bLP, ok_let FLP T⟩
    have KID : Cal l.prog w K mg base 2 "is_deed" ["thing", "word", "many"] (spIsDeed) := ⟨fID, _, g aID, kID, bID, ok_isDeed FID T (m z_str) KRW⟩
    have KIC : Cal l.prog w K mg base 3 "is_coming" ["thing"] (spOne isComD) := ⟨fIC, _, g aIC, kIC, bIC, ok_isCom FIC KID KP⟩
    have KIH : Cal l.prog w K mg base 4 "is_history" ["thing"] (spOne isHistD) := ⟨fIH, _, g aIH, kIH, bIH, ok_isHist FIH KRW KID KIC⟩
    have KBG : Cal l.prog w K mg base 1 "_law_bag" ["script"] (spBag K) := ⟨fBG, _, g aBG, kBG, bBG, ok_bag FBG T.list⟩
    have KSR : Cal l.prog w K mg base 1 "_law_stir" ["number", "place"] (spStir) := ⟨fSR, _, g aSR, kSR, bSR, ok_stir FSR⟩
    have KDR : ∀ r, Cal l.prog w K mg base 2 "_law_draw" ["bag", "many"] (spDraw r) := fun r => ⟨fDR, _, g aDR, kDR, bDR, ok_draw FDR T.len KSR⟩
    have KDE : Cal l.prog w K mg base 2 "_law_draw" ["bag", "many"] (spE spDraw) := ⟨fDR, _, g aDR, kDR, bDR, fnE fun r => ok_draw FDR T.len KSR⟩
    have KPA : Cal l.prog w K mg base 3 "_law_patience" ["bag", "most"] (spE spPatL) := ⟨fPA, _, g aPA, kPA, bPA, fnE fun r => ok_patL FPA (KDR r)⟩
    have GMI := ok_init (P := l.prog) (w := w) (mg := mg) (base := base) FMI TL
    have GMC := ok_comeM (P := l.prog) (w := w) (base := base) FMC T TL KP KLP
    have GMS := ok_serveM (P := l.prog) (w := w) (mg := mg) (base := base) FMS TL
    have GMT := ok_takeM (P := l.prog) (w := w) (base := base) FMT T TL
    have GMU := ok_undoM (P := l.prog) (w := w) (base := base) FMU T TL ⟨aMT, iMT, kMT⟩ GMT bMT
    have GMQ := ok_queM (P := l.prog) (w := w) (base := base) FMQ T TL
    have GML := ok_leftM (P := l.prog) (w := w) (base := base) FML T TL
    have GMW := ok_wentM (P := l.prog) (w := w) (base := base) FMW T TL KW
    have GMH := ok_histM (P := l.prog) (w := w) (base := base) FMH T TL
    have GMN := ok_lenM (P := l.prog) (w := w) (base := base) FMN T TL
    have KLO : Cal l.prog w K mg base 5 "line_of" ["history"] (spLineOf cLN) := ⟨fLO, _, g aLO, kLO, bLO, ok_lineOf FLO TL ⟨mkC, aMI, iMI, kcC⟩ GMI bMI ⟨aMC, iMC, kMC⟩ GMC bMC ⟨aMS, iMS, kMS⟩ GMS bMS KIH KIC⟩
    have KPR : Cal l.prog w K mg base 3 "_law_pairs_right" ["line"] (spPairs cLN) := ⟨fPR, _, g aPR, kPR, bPR, ok_pairs FPR (m z_enumerate) TL ⟨aMQ, iMQ, kMQ⟩ GMQ bMQ ⟨aMW, iMW, kMW⟩ GMW bMW⟩
    have KCR : Cal l.prog w K mg base 4 "_law_came_right" ["line", "patience", "came_with"] (spCameR cLN) := ⟨fCR, _, g aCR, kCR, bCR, ok_cameR FCR T (m z_zip) TL ⟨aMQ, iMQ, kMQ⟩ GMQ bMQ ⟨aMW, iMW, kMW⟩ GMW bMW ⟨aMC, iMC, kMC⟩ GMC bMC⟩
    have KLR : Cal l.prog w K mg base 3 "_law_left_right" ["line", "came_with"] (spLeftR cLN) := ⟨fLR, _, g aLR, kLR, bLR, ok_leftR FLR (m z_zip) TL ⟨aMQ, iMQ, kMQ⟩ GMQ bMQ ⟨aML, iML, kML⟩ GML bML ⟨aMW, iMW, kMW⟩ GMW bMW⟩
    exact ⟨fun A outer s H args us vs Q E _ hr e0 hb r h => (ok_law FZ T (m z_sum) TL ⟨mkC, aMI, iMI, kcC⟩ GMI bMI ⟨aMQ, iMQ, kMQ⟩ GMQ bMQ ⟨aML, iML, kML⟩ GML bML ⟨aMH, iMH, kMH⟩ GMH bMH ⟨aMW, iMW, kMW⟩ GMW bMW ⟨aMC, iMC, kMC⟩ GMC bMC ⟨aMS, iMS, kMS⟩ GMS bMS ⟨aMU, iMU, kMU⟩ GMU bMU aMN iMN GMN bMN (KBG.mono (by decide)) (KDE.mono (by decide)) (KPA.mono (by decide)) (KCR.mono (by decide)) (KLR.mono (by decide)) (KPR.mono (by decide)) (KLO.mono (by decide))).run A outer s H args us vs Q E hr e0 hb r h⟩
end CL
open PySem PySem.W PyProof.Rows
set_option maxRecDepth 100000 in
set_option maxHeartbeats 0 in
theorem PySem.Challenge.cw_comersline_k44_whole_goings_past_counted_holds : PySem.Challenge.rw_comersline_k44_whole_goings_past_counted.Holds := by
  w_on; o_law; k_head; (case hw => w_witness2)
  k_fill
  refine CL.walk (l := PySem.Challenge.rw_comersline_k44_whole_goings_past_counted) rfl rfl (by decide +kernel) (fun w h Y => PySem.W.kIn_of Y) ?F
  case F =>
    intro w mg mb mean lo fa h KX G hmg
    refine' CL.all_mk KX G hmg ?aMI ?lMI ?MIc ?kMI ?iMI ?aMC ?lMC ?MCc ?kMC ?iMC ?aMS ?lMS ?MSc ?kMS ?iMS ?aMU ?lMU ?MUc ?kMU ?iMU ?aMT ?lMT ?MTc ?kMT ?iMT ?aMQ ?lMQ ?MQc ?kMQ ?iMQ ?aML ?lML ?MLc ?kML ?iML ?aMW ?lMW ?MWc ?kMW ?iMW ?aMH ?lMH ?MHc ?kMH ?iMH ?aMN ?lMN ?MNc ?kMN ?iMN ?aW ?lW ?Wc ?kW ?aRW ?lRW ?RWc ?kRW ?aP ?lP ?Pc ?kP ?aLP ?lLP ?LPc ?kLP ?aID ?lID ?IDc ?kID ?aIC ?lIC ?ICc ?kIC ?aIH ?lIH ?IHc ?kIH ?aLO ?lLO ?LOc ?kLO ?aBG ?lBG ?BGc ?kBG ?aSR ?lSR ?SRc ?kSR ?aDR ?lDR ?DRc ?kDR ?aPA ?lPA ?PAc ?kPA ?aPR ?lPR ?PRc ?kPR ?aCR ?lCR ?CRc ?kCR ?aLR ?lLR ?LRc ?kLR ?aZ ?lZ ?Zc ?kZ ?z_isinstance ?z_len ?z_int ?z_bool ?z_list ?z_range ?z_min ?z_tuple ?z_str ?z_enumerate ?z_zip ?z_sum ?aCLS ?pgC ?hdC ?poC ?saC ?mkC ?kcC ?nF0 ?nF1 ?nF2 ?nF3 ?nF4 ?gM
    (case aCLS => k_is)
    (case aMI => k_is)
    (case lMI => k_is)
    (case MIc => k_is)
    (case kMI => k_is)
    (case iMI => k_is)
    (case aMC => k_is)
    (case lMC => k_is)
    (case MCc => k_is)
    (case kMC => k_is)
    (case iMC => k_is)
    (case aMS => k_is)
    (case lMS => k_is)
    (case MSc => k_is)
    (case kMS => k_is)
    (case iMS => k_is)
    (case aMU => k_is)
    (case lMU => k_is)
    (case MUc => k_is)
    (case kMU => k_is)
    (case iMU => k_is)
    (case aMT => k_is)
    (case lMT => k_is)
    (case MTc => k_is)
    (case kMT => k_is)
    (case iMT => k_is)
    (case aMQ => k_is)
    (case lMQ => k_is)
    (case MQc => k_is)
    (case kMQ => k_is)
    (case iMQ => k_is)
    (case aML => k_is)
    (case lML => k_is)
    (case MLc => k_is)
    (case kML => k_is)
    (case iML => k_is)
    (case aMW => k_is)
    (case lMW => k_is)
    (case MWc => k_is)
    (case kMW => k_is)
    (case iMW => k_is)
    (case aMH => k_is)
    (case lMH => k_is)
    (case MHc => k_is)
    (case kMH => k_is)
    (case iMH => k_is)
    (case aMN => k_is)
    (case lMN => k_is)
    (case MNc => k_is)
    (case kMN => k_is)
    (case iMN => k_is)
    (case aW => k_is)
    (case lW => k_is)
    (case Wc => k_is)
    (case kW => k_is)
    (case aRW => k_is)
    (case lRW => k_is)
    (case RWc => k_is)
    (case kRW => k_is)
    (case aP => k_is)
    (case lP => k_is)
    (case Pc => k_is)
    (case kP => k_is)
    (case aLP => k_is)
    (case lLP => k_is)
    (case LPc => k_is)
    (case kLP => k_is)
    (case aID => k_is)
    (case lID => k_is)
    (case IDc => k_is)
    (case kID => k_is)
    (case aIC => k_is)
    (case lIC => k_is)
    (case ICc => k_is)
    (case kIC => k_is)
    (case aIH => k_is)
    (case lIH => k_is)
    (case IHc => k_is)
    (case kIH => k_is)
    (case aLO => k_is)
    (case lLO => k_is)
    (case LOc => k_is)
    (case kLO => k_is)
    (case aBG => k_is)
    (case lBG => k_is)
    (case BGc => k_is)
    (case kBG => k_is)
    (case aSR => k_is)
    (case lSR => k_is)
    (case SRc => k_is)
    (case kSR => k_is)
    (case aDR => k_is)
    (case lDR => k_is)
    (case DRc => k_is)
    (case kDR => k_is)
    (case aPA => k_is)
    (case lPA => k_is)
    (case PAc => k_is)
    (case kPA => k_is)
    (case aPR => k_is)
    (case lPR => k_is)
    (case PRc => k_is)
    (case kPR => k_is)
    (case aCR => k_is)
    (case lCR => k_is)
    (case CRc => k_is)
    (case kCR => k_is)
    (case aLR => k_is)
    (case lLR => k_is)
    (case LRc => k_is)
    (case kLR => k_is)
    (case aZ => k_is)
    (case lZ => k_is)
    (case Zc => k_is)
    (case kZ => k_is)
    (case z_isinstance => k_is)
    (case z_len => k_is)
    (case z_int => k_is)
    (case z_bool => k_is)
    (case z_list => k_is)
    (case z_range => k_is)
    (case z_min => k_is)
    (case z_tuple => k_is)
    (case z_str => k_is)
    (case z_enumerate => k_is)
    (case z_zip => k_is)
    (case z_sum => k_is)
    (case pgC => k_is)
    (case hdC => k_is)
    (case poC => k_is)
    (case saC => k_is)
    (case mkC => k_is)
    (case kcC => k_is)
    (case nF0 => k_is)
    (case nF1 => k_is)
    (case nF2 => k_is)
    (case nF3 => k_is)
    (case nF4 => k_is)
    (case gM => k_is)
