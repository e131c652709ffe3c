import PyProof.Rows.All
import Wide.All
import OpenK.AllK
import Wide.FinOn
import HandS.ForMost
import HandS.ForExc
import HandS.AnyAll
import HandS.GenBody
import HandS.IsInst
import HandS.TupAny
import HandS.Wide
import HandS.Codes
import HandS.Conv
import HandS.Text
import HandS.More
import HandS.Flow
import HandS.Walk
import HandS.Style
import HandS.EndTab
import HandS.NestedK
import PySem.Challenge.RW_comersline_k39_lines_deed_by_deed
namespace GE
end GE
set_option Elab.async false
set_option linter.all false
set_option maxRecDepth 100000
set_option maxHeartbeats 1000000
namespace CL
open PySem PySem.Spec PyProof.Rows L2 GE
/-! ### what a value is worth, as data -/
mutual
inductive Rp (H : Hp) : V → PyData → Prop
  | non : Rp H .non .none
  | bl (b : Bool) : Rp H (.bl b) (.bool b)
  | int (i : Int) : Rp H (.int i) (.int i)
  | str (x : Str) : Rp H (.str x) (.str x)
  | lst {a : Addr} {xs : List V} {ds : List PyData} : H a = some (.lst xs) → RpAll H xs ds → Rp H (.ref a) (.list ds)
  | tup {a : Addr} {xs : List V} {ds : List PyData} : H a = some (.tup xs) → RpAll H xs ds → Rp H (.ref a) (.tuple ds)
  | dct {a : Addr} : H a = some (.dK []) → Rp H (.ref a) (.dict [])
inductive RpAll (H : Hp) : List V → List PyData → Prop
  | nil : RpAll H [] []
  | cons {v : V} {vs : List V} {d : PyData} {ds : List PyData} : Rp H v d → RpAll H vs ds → RpAll H (v :: vs) (d :: ds)
end
/-- all stays but tables, which may grow -/
def Ex (H H' : Hp) : Prop := ∀ b o, H b = some o → H' b = some o ∨ ∃ ps qs, o = .tbl ps ∧ H' b = some (.tbl qs) ∧ TriplesOk qs.toList
theorem Ex.refl (H : Hp) : Ex H H := fun _ _ h => .inl h
theorem Ex.of {H H' : Hp} (s : Same H H') : Ex H H' := fun b o h => .inl (s b o h)
theorem Ex.trans {H H1 H2 : Hp} (a : Ex H H1) (b : Ex H1 H2) : Ex H H2 := fun c o h => by
  rcases a c o h with q | ⟨ps, qs, e, q⟩
  · exact b c o q
  · rcases b c _ q.1 with r | ⟨ps', qs', _, r⟩
    · exact .inr ⟨ps, qs, e, r, q.2⟩
    · exact .inr ⟨ps, qs', e, r⟩
theorem Ex.keep {H H' : Hp} (e : Ex H H') {b : Addr} {o : HO} (h : H b = some o) (n : ∀ ps, o ≠ .tbl ps) : H' b = some o := by
  rcases e b o h with q | ⟨ps, _, z, _⟩
  · exact q
  · exact absurd z (n ps)
theorem Ex.lst {H H' : Hp} (e : Ex H H') {b : Addr} {xs : List V} (h : H b = some (.lst xs)) : H' b = some (.lst xs) := e.keep h fun _ => nofun
theorem Ex.tup {H H' : Hp} (e : Ex H H') {b : Addr} {xs : List V} (h : H b = some (.tup xs)) : H' b = some (.tup xs) := e.keep h fun _ => nofun
theorem Ex.free {H H' : Hp} (e : Ex H H') {l : Addr} (h : H' l = none) : H l = none := by
  cases q : H l with
  | none => rfl
  | some o =>
    rcases e l o q with r | ⟨_, _, _, r, _⟩
    · rw [h] at r; cases r
    · rw [h] at r; cases r
theorem Ex.new {H : Hp} {p : Addr} {o : HO} (h : H p = none) : Ex H (upd H p o) := fun b x e => .inl (by rw [upd_ne (ne_of_none e h)]; exact e)
theorem same_upd {H : Hp} {p : Addr} {o : HO} (h : H p = none) : Same H (upd H p o) := fun b x e => by
  rw [upd_ne (ne_of_none e h)]
  exact e
mutual
theorem Rp.ex {H H' : Hp} (e : Ex H H') : ∀ (d : PyData) (v : V), Rp H v d → Rp H' v d
  | .none, _, h => by cases h; exact .non
  | .bool b, _, h => by cases h; exact .bl b
  | .int i, _, h => by cases h; exact .int i
  | .str x, _, h => by cases h; exact .str x
  | .list ds, _, h => by
    cases h with
    | lst h1 h2 => exact .lst (e.lst h1) (RpAll.ex e ds _ h2)
  | .tuple ds, _, h => by
    cases h with
    | tup h1 h2 => exact .tup (e.tup h1) (RpAll.ex e ds _ h2)
  | .dict _, _, h => by
    cases h with
    | dct h1 => exact .dct (e.keep h1 fun _ => nofun)
theorem RpAll.ex {H H' : Hp} (e : Ex H H') : ∀ (ds : List PyData) (vs : List V), RpAll H vs ds → RpAll H' vs ds
  | [], _, h => by cases h; exact .nil
  | d :: ds, _, h => by
    cases h with
    | cons h1 h2 => exact .cons (Rp.ex e d _ h1) (RpAll.ex e ds _ h2)
end
theorem RpAll.length {H : Hp} : ∀ {vs : List V} {ds : List PyData}, RpAll H vs ds → vs.length = ds.length
  | _, _, .nil => rfl
  | _, _, .cons _ t => congrArg (· + 1) (RpAll.length t)
theorem RpAll.get {H : Hp} : ∀ {vs : List V} {ds : List PyData} {i : Nat} {v : V}, RpAll H vs ds → vs[i]? = some v → ∃ d, ds[i]? = some d ∧ Rp H v d
  | _, _, _, _, .nil, e => by simp at e
  | _, _, 0, _, .cons r _, e => by simp at e; subst e; exact ⟨_, rfl, r⟩
  | _, _, i + 1, _, .cons _ t, e => by
    obtain ⟨d, h1, h2⟩ := RpAll.get (i := i) t (by simpa using e)
    exact ⟨d, by simpa using h1, h2⟩
theorem RpAll.take {H : Hp} : ∀ {vs : List V} {ds : List PyData} (n : Nat), RpAll H vs ds → RpAll H (vs.take n) (ds.take n)
  | _, _, 0, _ => .nil
  | _, _, _ + 1, .nil => .nil
  | _, _, n + 1, .cons r t => .cons r (RpAll.take n t)
theorem RpAll.append {H : Hp} : ∀ {vs ws : List V} {ds es : List PyData}, RpAll H vs ds → RpAll H ws es → RpAll H (vs ++ ws) (ds ++ es)
  | _, _, _, _, .nil, s => s
  | _, _, _, _, .cons r t, s => .cons r (RpAll.append t s)
/-! ### plans, as the document tells -/
def tyName : PyData → String
  | .none => "NoneType" | .bool _ => "bool" | .int _ => "int" | .str _ => "str" | .list _ => "list" | .tuple _ => "tuple" | .dict _ => "dict"
def rowsD : PyData → Option (List PyData)
  | .list xs => some xs
  | .tuple xs => some xs
  | _ => none
def isRow (d : PyData) : Bool := (rowsD d).isSome
def isWhole : PyData → Bool
  | .int _ => true
  | _ => false
def isIntB : PyData → Bool
  | .int _ => true
  | .bool _ => true
  | _ => false
def isBoolB : PyData → Bool
  | .bool _ => true
  | _ => false
def isNone : PyData → Bool
  | .none => true
  | _ => false
abbrev GREAT : Int := 1000000000000000000000000000000
def isPatience : PyData → Bool
  | .none => true
  | .int i => decide (0 ≤ i) && decide (i ≤ GREAT)
  | _ => false
def isTurns (d : PyData) : Bool := match rowsD d with
  | some ds => decide (1 ≤ ds.length) && decide (ds.length ≤ 8) && ds.all isPatience
  | none => false
def isMany : PyData → Bool
  | .none => true
  | .int i => decide (0 ≤ i)
  | _ => false
def isPiece (d : PyData) : Bool := match rowsD d with
  | some [t, m] => isTurns t && isMany m
  | _ => false
def sndD (d : PyData) : PyData := match rowsD d with
  | some [_, m] => m
  | _ => .none
def worth : PyData → Int
  | .int i => i
  | _ => 0
def sumSnd (ds : List PyData) : Int := (ds.map fun d => worth (sndD d)).sum
def isPlanL (ds : List PyData) : Bool := decide (1 ≤ ds.length) && decide (ds.length ≤ 8) && ds.all isPiece && !((ds.take (ds.length - 1)).any fun d => isNone (sndD d)) && decide (sumSnd ds ≤ GREAT)
def isPlan (d : PyData) : Bool := match rowsD d with
  | some ds => isPlanL ds
  | none => false
theorem Rp.ty {K : PySem.W.Frag} {H : Hp} {v : V} {d : PyData} (h : Rp H v d) : TyX K H v (.type (tyName d)) := by
  cases h with
  | non => exact .base .non
  | bl b => exact .base (.bl b)
  | int i => exact .base (.int i)
  | str x => exact .base (.str x)
  | lst h _ => exact .base (.lst h)
  | tup h _ => exact .base (.tup h)
  | dct h => exact .base (.dK h)
theorem kit_int {K : PySem.W.Frag} (d : PyData) : PySem.W.kitOne K (.type (tyName d)) (.type "int") = some (isIntB d) := by cases d <;> (refine kit_ty ?_; dsimp only [tyName, isIntB]; decide +kernel)
theorem kit_bool {K : PySem.W.Frag} (d : PyData) : PySem.W.kitOne K (.type (tyName d)) (.type "bool") = some (isBoolB d) := by cases d <;> (refine kit_ty ?_; dsimp only [tyName, isBoolB]; decide +kernel)
theorem kit_list {K : PySem.W.Frag} (d : PyData) : PySem.W.kitOne K (.type (tyName d)) (.type "list") = some (match d with | .list _ => true | _ => false) := by cases d <;> (refine kit_ty ?_; dsimp only [tyName]; decide +kernel)
theorem kit_tuple {K : PySem.W.Frag} (d : PyData) : PySem.W.kitOne K (.type (tyName d)) (.type "tuple") = some (match d with | .tuple _ => true | _ => false) := by cases d <;> (refine kit_ty ?_; dsimp only [tyName]; decide +kernel)
theorem kit_rows {K : PySem.W.Frag} (d : PyData) : PySem.W.kitAny K (.type (tyName d)) [.type "list", .type "tuple"] = some (isRow d) := by
  refine kitAny_cons (kit_list d) (fun h => kitAny_cons (kit_tuple d) (fun h2 => ?_) fun h2 => ?_) fun h => ?_
  · cases d <;> first | exact kitAny_nil | (simp at h; done) | (simp at h2; done)
  · cases d <;> first | rfl | (simp at h; done) | (simp at h2; done)
  · cases d <;> first | rfl | (simp at h; done)
/-- a row's things -/
theorem Rp.rows {H : Hp} {v : V} {d : PyData} {ds : List PyData} (h : Rp H v d) (e : rowsD d = some ds) : ∃ a xs, v = .ref a ∧ RpAll H xs ds ∧ (H a = some (.lst xs) ∨ H a = some (.tup xs)) := by
  cases h with
  | lst h1 h2 => cases e; exact ⟨_, _, rfl, h2, .inl h1⟩
  | tup h1 h2 => cases e; exact ⟨_, _, rfl, h2, .inr h1⟩
  | _ => cases e
/-! ### for x in a list or a tuple -/
structure StSeq (H : Hp) (a : Addr) (xs : List V) : Prop where
  or : H a = some (.lst xs) ∨ H a = some (.tup xs)
theorem StSeq.ex {H H' : Hp} {a : Addr} {xs : List V} (s : StSeq H a xs) (e : Ex H H') : StSeq H' a xs := ⟨s.or.elim (fun h => .inl (e.lst h)) fun h => .inr (e.tup h)⟩
theorem StSeq.sq {K : PySem.W.Frag} {H : Hp} {a : Addr} {xs : List V} (s : StSeq H a xs) : SqL K H a xs ∨ SqT K H a xs := s.or.elim (fun h => .inl (SqL.of h)) fun h => .inr (SqT.of h)
/-- the thing that is walked stands -/
def StandsAs (K : PySem.W.Frag) (a : Addr) (xs : List V) (J : It) (H : Hp) : Prop := (J = Itl K a ∧ SqL K H a xs) ∨ (J = Itt K a ∧ SqT K H a xs)
section
variable {X : Cx} {tg : Expr}
def iSeq (K : PySem.W.Frag) (tl : TE) : TI := fun σ H R => tl σ H fun x H1 => ∃ a xs, x = .ref a ∧ StSeq H1 a xs ∧ ∀ J, (∀ H2, Ex H1 H2 → StandsAs K a xs J H2) → R J H1
theorem pi_seq {l : Expr} {tl : TE} (hl : PE X l tl) : PI X tg l (iSeq X.K tl) := by
  refine ⟨fun pins s σ H R I h => ?_⟩
  refine thn (hl.run pins s σ H _ I h) fun v s1 ⟨x, H1, I1, r1, q1⟩ => ?_
  obtain ⟨a, xs, e, st, q⟩ := q1
  subst e
  cases r1
  have new : ∀ b ∈ [s1.heap.objs.size], FpOk X pins H1 b := fun b hb => by
    rw [List.mem_singleton.mp hb]
    exact I1.fpOk (Nat.le_refl _) (I1.hok.fresh (Nat.le_refl _))
  rcases st.or with hq | hq
  · obtain ⟨its, rv, p, hz⟩ := I1.list (SqL.of hq)
    exact wpAny_pyIter_list p.isList ⟨s1.heap.objs.size, [s1.heap.objs.size], _, _, H1, rfl, I1.kept (t' := s1.toks) fun b o e => Heap.get?_push_of_some _ e, turn_list a _, ⟨_, Heap.get?_push_size _ rfl, rfl, rfl⟩, new, q _ fun H2 e => .inl ⟨rfl, SqL.of (e.lst hq)⟩⟩
  · obtain ⟨its, rv, p, hz⟩ := I1.tuple (SqT.of hq)
    exact wpAny_pyIter_tuple (show s1.heap.IsTuple a its.toArray from p) ⟨s1.heap.objs.size, [s1.heap.objs.size], _, _, H1, rfl, I1.kept (t' := s1.toks) fun b o e => Heap.get?_push_of_some _ e, turn_tuple a _, ⟨_, Heap.get?_push_size _ rfl, rfl, rfl⟩, new, q _ fun H2 e => .inr ⟨rfl, SqT.of (e.tup hq)⟩⟩
end
theorem StandsAs.go {K : PySem.W.Frag} {a : Addr} {xs : List V} {J : It} {H : Hp} {i : Nat} {x : V} (s : StandsAs K a xs J H) (h : xs[i]? = some x) : J.go i H := by
  rcases s with ⟨rfl, q⟩ | ⟨rfl, q⟩ <;> exact ⟨xs, x, q, h⟩
theorem StandsAs.stop {K : PySem.W.Frag} {a : Addr} {xs : List V} {J : It} {H : Hp} {i : Nat} (s : StandsAs K a xs J H) (h : xs.length ≤ i) : J.stop i H := by
  rcases s with ⟨rfl, q⟩ | ⟨rfl, q⟩ <;> exact ⟨xs, q, h⟩
theorem StandsAs.yld {K : PySem.W.Frag} {a : Addr} {xs : List V} {J : It} {H H' : Hp} {i : Nat} {x : V} (s : StandsAs K a xs J H) (h : J.yld i H x H') : H' = H ∧ xs[i]? = some x := by
  rcases s with ⟨rfl, q⟩ | ⟨rfl, q⟩ <;> exact ⟨h.1, h.2 xs q⟩
end CL
set_option Elab.async false
set_option linter.all false
set_option maxRecDepth 100000
set_option maxHeartbeats 4000000
namespace CL
open PySem PySem.Spec PyProof.Rows L2 GE
def topS (i : Nat) : Stmt := PySem.Challenge.pw_comersline_k39_lines_deed_by_deed.main.body.getD i (.Pass ⟨0, 0, 0, 0⟩)
abbrev sWhole : Stmt := topS 7
abbrev sPat : Stmt := topS 10
theorem scWhole : FnScope ["thing"] ["thing"] (defScope sWhole) := ⟨rfl, rfl, rfl, by decide +kernel, rfl, by decide +kernel, by decide +kernel⟩
theorem scPat : FnScope ["thing"] ["thing"] (defScope sPat) := ⟨rfl, rfl, rfl, by decide +kernel, rfl, by decide +kernel, by decide +kernel⟩
/-- a def that may be called by its name -/
structure Cal (P : Program) (w : World) (K : PySem.W.Frag) (mg : Str → Option Value) (base : Heap) (k : Nat) (x : Str) (ps : List Str) (sp : Sp) : Prop where
  ex : ∃ f fd, mg x = some (.ref f) ∧ PySem.W.keepIn K (.ref f) = true ∧ Binds K fd ps [] ∧ FnOk P w K mg base CX0 k f fd ps sp
theorem pe_cal {X : Cx} {k : Nat} {x : Str} {ps : List Str} {sp : Sp} {p pos : Pos} {e : Expr} {es : List Expr} {t : TA} (C : Cal X.prog X.w X.K X.mg X.base k x ps sp) (hr : Room k X.A) (hg : Gl X x) (ha : PA X (e :: es) t) (hdb : (x == ("__debug__" : Str)) = false := by decide)
    (he : starEach (e :: es) X.env = (false, eval e X.env) :: starEach es X.env := by rfl) (hpl : (backTo pos (starEach es X.env)).any (·.1) = false := by rfl) : PE X (.Call (.Name x p) (e :: es) [] pos) (tCall sp [] E0 t) := by
  obtain ⟨f, fd, h1, h2, h3, h4⟩ := C.ex
  exact pe_call h4 hr hg h1 h2 h3 .nil pass0 ha hdb he hpl
theorem Cal.mono {P : Program} {w : World} {K : PySem.W.Frag} {mg : Str → Option Value} {base : Heap} {j k : Nat} {x : Str} {ps : List Str} {sp : Sp} (C : Cal P w K mg base j x ps sp) (h : j ≤ k) : Cal P w K mg base k x ps sp := by
  obtain ⟨f, fd, h1, h2, h3, h4⟩ := C.ex
  exact ⟨f, fd, h1, h2, h3, h4.mono h⟩
/-- names that are still the built-in ones, and constants -/
structure Nm (mg : Str → Option Value) : Prop where
  isi : mg "isinstance" = none
  len : mg "len" = none
  int : mg "int" = none
  bool : mg "bool" = none
  list : mg "list" = none
  range : mg "range" = none
  min : mg "min" = none
  great : ∃ t, mg "GREATEST" = some (.int GREAT t)
def spOne (g : PyData → Bool) : Sp := fun vs H Q _ => ∃ v d, vs = [v] ∧ Rp H v d ∧ ∀ H', Same H H' → Q (.bl (g d)) H'
theorem spOne_len {g : PyData → Bool} : ∀ vs H Q E, spOne g vs H Q E → vs.length = 1 := fun vs H Q E ⟨v, d, e, _⟩ => by rw [e]; rfl
section
variable {P : Program} {w : World} {K : PySem.W.Frag} {mg : Str → Option Value} {base : Heap}
theorem ok_whole {f : Addr} {fd : FuncData} (F : Fun K "is_whole" "is_whole" sWhole f fd) (T : Nm mg) : FnOk P w K mg base CX0 1 f fd ["thing"] (spOne isWhole) := by
  refine F.ok scWhole spOne_len (fun cdv A outer s H vs Q E hr h => ?_)
  obtain ⟨v, d, rfl, hR, q⟩ := h
  refine ⟨_, pss_one (ps_ret (pe_and (pe_callB call_isi (by rfl) T.isi (by decide +kernel) (pa_cons (pv 0) (pa_cons (pe_bltn (v := .ty "int") (by rfl) T.int PyProof.Rows.boot_int rfl) pa_nil)))
    (pe_one (pe_not (pe_callB call_isi (by rfl) T.isi (by decide +kernel) (pa_cons (pv 0) (pa_cons (pe_bltn (v := .ty "bool") (by rfl) T.bool PyProof.Rows.boot_bool rfl) pa_nil))))))), ?_⟩
  refine ⟨v, rfl, v, .ty "int", _, _, isIntB d, rfl, .ty _, hR.ty, kit_int d, isIntB d, rfl, ite2 (fun e => ?_) (fun e => ?_)⟩
  · refine ⟨v, rfl, v, .ty "bool", _, _, isBoolB d, rfl, .ty _, hR.ty, kit_bool d, isBoolB d, rfl, ?_⟩
    have z : (!isBoolB d) = isWhole d := by cases d <;> first | rfl | (exact absurd e Bool.false_ne_true)
    rw [z]
    exact q H (Same.refl H)
  · have z : isWhole d = false := by cases d <;> first | rfl | (exact absurd rfl e)
    have q' := q H (Same.refl H)
    rw [z] at q'
    exact q'
theorem ok_pat {f : Addr} {fd : FuncData} (F : Fun K "is_patience" "is_patience" sPat f fd) (T : Nm mg) (CW : Cal P w K mg base 1 "is_whole" ["thing"] (spOne isWhole)) : FnOk P w K mg base CX0 2 f fd ["thing"] (spOne isPatience) := by
  refine F.ok scPat spOne_len (fun cdv A outer s H vs Q E hr h => ?_)
  obtain ⟨v, d, rfl, hR, q⟩ := h
  obtain ⟨tg, hgr⟩ := T.great
  refine ⟨_, pss_one (ps_ret (pe_or (pe_cmp (pc_isN (pv 0)) rfl) (pe_one (pe_and (pe_cal CW hr (by rfl) (pa_cons (pv 0) pa_nil))
    (pe_one (pe_chain op_le op_le pe_int (pv 0) (pe_glob (v := .int GREAT) (by rfl) hgr ⟨_, rfl⟩))))))), ?_⟩
  refine ⟨v, rfl, decide (v = .non), rfl, ite2 (fun e => ?_) (fun e => ?_)⟩
  · have ev : v = .non := of_decide_eq_true e
    subst ev
    cases hR
    exact q H (Same.refl H)
  · have nv : v ≠ .non := fun z => e (decide_eq_true z)
    refine ⟨v, rfl, v, d, rfl, hR, fun H1 s1 => ⟨isWhole d, rfl, ite2 (fun e2 => ?_) (fun e2 => ?_)⟩⟩
    · cases hR with
      | int i =>
        refine ⟨.int i, rfl, 0, i, rfl, rfl, decide (0 ≤ i), rfl, ite2 (fun e3 => ?_) (fun e3 => ?_)⟩
        · refine ⟨i, GREAT, rfl, rfl, ?_⟩
          have q' := q H1 s1
          have z : isPatience (.int i) = decide (i ≤ GREAT) := by
            show (decide (0 ≤ i) && decide (i ≤ GREAT)) = _
            rw [e3, Bool.true_and]
          rw [z] at q'
          exact q'
        · have q' := q H1 s1
          have z : isPatience (.int i) = false := by
            show (decide (0 ≤ i) && decide (i ≤ GREAT)) = _
            rw [Bool.eq_false_iff.mpr e3, Bool.false_and]
          rw [z] at q'
          exact q'
      | _ => exact absurd e2 Bool.false_ne_true
    · have q' := q H1 s1
      have z : isPatience d = false := by
        cases hR with
        | non => exact absurd rfl nv
        | int i => exact absurd rfl e2
        | _ => rfl
      rw [z] at q'
      exact q'
end
theorem all_take {p : PyData → Bool} {ds : List PyData} {i : Nat} {d : PyData} (h : ds[i]? = some d) : (ds.take (i + 1)).all p = ((ds.take i).all p && p d) := by
  rw [List.take_add_one, h, List.all_append]
  simp
theorem any_take {p : PyData → Bool} {ds : List PyData} {i : Nat} {d : PyData} (h : ds[i]? = some d) : (ds.take (i + 1)).any p = ((ds.take i).any p || p d) := by
  rw [List.take_add_one, h, List.any_append]
  simp
theorem all_false {p : PyData → Bool} {ds : List PyData} {i : Nat} {d : PyData} (h : ds[i]? = some d) (e : p d = false) : ds.all p = false := by
  rw [List.all_eq_false]
  exact ⟨d, List.mem_of_getElem? h, by rw [e]; exact Bool.false_ne_true⟩
theorem any_true {p : PyData → Bool} {ds : List PyData} {i : Nat} {d : PyData} (h : ds[i]? = some d) (e : p d = true) : ds.any p = true := by
  rw [List.any_eq_true]
  exact ⟨d, List.mem_of_getElem? h, e⟩
theorem name_yes {i : Nat} {x : V} {σ : L2.St} {H : Hp} {A B : L2.St → Hp → Prop} (h : A (σ.set i (some x)) H) : gName i x σ H (fun σ2 H2 => tYes σ2 H2 fun b H3 => if b = true then A σ2 H3 else B σ2 H3) := by
  show if true = true then A (σ.set i (some x)) H else B (σ.set i (some x)) H
  exact iteT h
theorem nd1 {x : Str} : [x].Nodup := by simp
theorem p18 : (10 : Int) ^ (18 : Int).toNat = 1000000000000000000 := by decide +kernel
theorem p30 : (10 : Int) ^ (30 : Int).toNat = GREAT := by decide +kernel
theorem same_ne {H H' : Hp} (s : Same H H') {p b : Addr} (np : H' p = none) (hb : H b ≠ none) : b ≠ p := fun z => by
  rw [z] at hb
  cases q : H p with
  | none => exact hb q
  | some o =>
    rw [s p o q] at np
    cases np
theorem ints_dp {K : PySem.W.Frag} {H : Hp} : ∀ gs : List Int, DpAll K H (gs.map V.int) (gs.map PyData.int)
  | [] => .nil
  | x :: gs => .cons (.int x) (ints_dp gs)
theorem ints_lay : ∀ gs : List Int, PyData.canLayAll0 (gs.map PyData.int) = true
  | [] => by simp [PyData.canLayAll0]
  | x :: gs => by
    have := ints_lay gs
    simp [PyData.canLayAll0, PyData.canLay0, this]
theorem ints_depth : ∀ gs : List Int, PyData.depthAll (gs.map PyData.int) = 0
  | [] => rfl
  | x :: gs => by
    have := ints_depth gs
    show max 0 (PyData.depthAll (gs.map PyData.int)) = 0
    rw [this]
    rfl
theorem ints_shaped (gs : List Int) : SeqAt.shaped (.list (gs.map PyData.int)) = true := by
  unfold SeqAt.shaped
  have h1 : PyData.canLay0 (.list (gs.map PyData.int)) = true := by
    have := ints_lay gs
    simp [PyData.canLay0, this]
  have h2 : PyData.depth (.list (gs.map PyData.int)) = 1 := by
    show PyData.depthAll (gs.map PyData.int) + 1 = 1
    rw [ints_depth]
  rw [h1, h2]
  rfl
theorem ints_take (gs : List Int) (k : Nat) : (gs.map V.int).take k = (gs.take k).map V.int := List.map_take.symm
theorem cut_to (xs : List V) (k : Nat) : cutV xs none (some (k : Int)) = xs.take k := by
  unfold cutV
  have e0 : HT.sIx xs.length 0 none = 0 := rfl
  have e1 : HT.sIx xs.length xs.length (some (k : Int)) = min k xs.length := HT.sIx_nat _ _ _
  rw [e0, e1, List.drop_zero, Nat.sub_zero]
  rcases Nat.le_total k xs.length with h | h
  · rw [Nat.min_eq_left h]
  · rw [Nat.min_eq_right h, List.take_of_length_le h, List.take_of_length_le (Nat.le_refl _)]
theorem cut_from (xs : List V) (k : Nat) : cutV xs (some (k : Int)) none = xs.drop k := by
  unfold cutV
  have e0 : HT.sIx xs.length 0 (some (k : Int)) = min k xs.length := HT.sIx_nat _ _ _
  have e1 : HT.sIx xs.length xs.length none = xs.length := rfl
  rw [e0, e1]
  rcases Nat.le_total k xs.length with h | h
  · rw [Nat.min_eq_left h]
    exact List.take_of_length_le (by rw [List.length_drop]; exact Nat.le_refl _)
  · rw [Nat.min_eq_right h, List.drop_of_length_le (Nat.le_refl _), List.drop_of_length_le h]
    simp
theorem small_add {a b : Nat} (ha : a ≤ 1000) (hb : b ≤ 1000) : a + b ≤ sizeLine := by
  have : 2000 ≤ sizeLine := by decide
  omega
theorem small_le {a : Nat} (ha : a ≤ 1000) : a ≤ sizeLine := by
  have : 1000 ≤ sizeLine := by decide
  omega
theorem yesT {σ : L2.St} {H : Hp} {A B : Hp → Prop} (h : A H) : tYes σ H (fun b H3 => if b = true then A H3 else B H3) := by
  show if true = true then A H else B H
  exact iteT h
open Classical in
noncomputable def Hw (W : Addr → Prop) (H : Hp) : Hp := fun b => if W b then none else H b
theorem Hw.at {W : Addr → Prop} {H : Hp} {b : Addr} (n : ¬ W b) : Hw W H b = H b := by
  unfold Hw
  rw [if_neg n]
theorem Hw.ne {W : Addr → Prop} {H : Hp} {b : Addr} {o : HO} (e : Hw W H b = some o) : ¬ W b := fun z => by
  unfold Hw at e
  rw [if_pos z] at e
  cases e
theorem Hw.sub (W : Addr → Prop) (H : Hp) : Same (Hw W H) H := fun b o e => by rw [Hw.at (Hw.ne e)] at e; exact e
theorem Hw.less {W W' : Addr → Prop} {H : Hp} (h : ∀ b, W b → W' b) : Same (Hw W' H) (Hw W H) := fun b o e => by
  rw [Hw.at fun z => Hw.ne e (h b z)]
  exact Hw.sub W' H b o e
theorem Hw.more {W W' : Addr → Prop} {H : Hp} (h : ∀ b, W' b → W b ∨ H b = none) : Same (Hw W H) (Hw W' H) := fun b o e => by
  have e1 := Hw.sub W H b o e
  rw [Hw.at fun z => (h b z).elim (Hw.ne e) fun q => by rw [q] at e1; cases e1]
  exact e1
theorem hw_upd {W : Addr → Prop} {a : Addr} {H : Hp} {o : HO} (h : W a) : Hw W (upd H a o) = Hw W H := by
  funext b
  by_cases hb : W b
  · unfold Hw
    rw [if_pos hb, if_pos hb]
  · rw [Hw.at hb, Hw.at hb, upd_ne fun z => hb (by rw [z]; exact h)]
theorem Same.hw {W : Addr → Prop} {H H' : Hp} (m : Same H H') : Same (Hw W H) (Hw W H') := fun b o e => by
  rw [Hw.at (Hw.ne e)]
  exact m b o (Hw.sub W H b o e)
theorem Rp.sm {H H' : Hp} (s : Same H H') {v : V} {d : PyData} (h : Rp H v d) : Rp H' v d := Rp.ex (Ex.of s) d v h
theorem RpAll.sm {H H' : Hp} (s : Same H H') {vs : List V} {ds : List PyData} (h : RpAll H vs ds) : RpAll H' vs ds := RpAll.ex (Ex.of s) ds vs h
theorem RpAll.snoc {H : Hp} : ∀ {vs : List V} {ds : List PyData} {v : V} {d : PyData}, RpAll H vs ds → Rp H v d → RpAll H (vs ++ [v]) (ds ++ [d])
  | _, _, _, _, .nil, h => .cons h .nil
  | _, _, _, _, .cons a b, h => .cons a (RpAll.snoc b h)
theorem cut_last (xs : List V) : cutV xs none (some (-1)) = xs.take (xs.length - 1) := by
  unfold cutV
  have e0 : HT.sIx xs.length 0 none = 0 := rfl
  have e1 : HT.sIx xs.length xs.length (some (-1)) = xs.length - 1 := by
    show (if (-1 : Int) < 0 then ((-1 : Int) + (xs.length : Int)).toNat else min (-1 : Int).toNat xs.length) = _
    rw [if_pos (by decide)]
    omega
  rw [e0, e1, List.drop_zero, Nat.sub_zero]
end CL
set_option Elab.async false
set_option linter.all false
set_option maxRecDepth 100000
set_option maxHeartbeats 4000000
namespace CL
open PySem PySem.Spec PyProof.Rows L2 GE
abbrev sBag : Stmt := topS 15
abbrev sStir : Stmt := topS 16
abbrev sDraw : Stmt := topS 17
theorem scBag : FnScope ["script", "total", "cell"] ["script"] (defScope sBag) := ⟨rfl, rfl, rfl, by decide +kernel, rfl, by decide +kernel, by decide +kernel⟩
theorem scStir : FnScope ["number", "place", "one", "two"] ["number", "place"] (defScope sStir) := ⟨rfl, rfl, rfl, by decide +kernel, rfl, by decide +kernel, by decide +kernel⟩
theorem scDraw : FnScope ["bag", "many", "cell", "found"] ["bag", "many"] (defScope sDraw) := ⟨rfl, rfl, rfl, by decide +kernel, rfl, by decide +kernel, by decide +kernel⟩
abbrev MSP : Int := 2305843009213693951
theorem t64 : (2 : Int) ^ 64 = 18446744073709551616 := by decide +kernel
abbrev M60 : Nat := 1000000000000000000
/-- a bag's place, and its cells' -/
structure Bg where
  a : Addr
  c : Addr
/-- the bag: the cells, which is next, what is left of one, how many draws (n at most), a number mixed -/
structure BagAt (n : Nat) (H : Hp) (r : Bg) : Prop where
  ex : ∃ (ns : List Int) (i : Nat) (b k t : Int), H r.a = some (.lst [.ref r.c, .int i, .int b, .int k, .int t]) ∧ H r.c = some (.lst (ns.map V.int)) ∧ i ≤ ns.length ∧ 0 ≤ b ∧ 0 ≤ k ∧ k ≤ n ∧ 0 ≤ t ∧ t < MSP
/-- all but the bag stays -/
structure Mv (r : Bg) (H H' : Hp) : Prop where
  keep : ∀ b o, b ≠ r.a → H b = some o → H' b = some o
theorem Mv.refl (r : Bg) (H : Hp) : Mv r H H := ⟨fun _ _ _ h => h⟩
theorem Mv.of {r : Bg} {H H' : Hp} (s : Same H H') : Mv r H H' := ⟨fun b o _ h => s b o h⟩
theorem Mv.trans {r : Bg} {H H1 H2 : Hp} (a : Mv r H H1) (b : Mv r H1 H2) : Mv r H H2 := ⟨fun c o n h => b.keep c o n (a.keep c o n h)⟩
theorem Mv.upd {r : Bg} {p : Addr} {H H' : Hp} {o : HO} (m : Mv r H H') (hn : H p = none) : Mv r H (upd H' p o) := ⟨fun b x nb e => by
  rw [upd_ne (ne_of_none e hn)]
  exact m.keep b x nb e⟩
theorem BagAt.mono {n m : Nat} {H : Hp} {r : Bg} (h : BagAt n H r) (l : n ≤ m) : BagAt m H r := by
  obtain ⟨ns, i, b, k, t, er, ec, hi, hb, hk, hn, ht⟩ := h
  exact ⟨ns, i, b, k, t, er, ec, hi, hb, hk, by omega, ht⟩
theorem BagAt.same {n : Nat} {r : Bg} {H H' : Hp} (s : Same H H') (hr : BagAt n H r) : BagAt n H' r := by
  obtain ⟨ns, i, b, k, t, er, ec, h⟩ := hr
  exact ⟨ns, i, b, k, t, s _ _ er, s _ _ ec, h⟩
theorem BagAt.some {n : Nat} {r : Bg} {H : Hp} (hr : BagAt n H r) : H r.a ≠ none := by
  obtain ⟨ns, i, b, k, t, er, h⟩ := hr
  rw [er]
  exact nofun
theorem BagAt.someC {n : Nat} {r : Bg} {H : Hp} (hr : BagAt n H r) : H r.c ≠ none := by
  obtain ⟨ns, i, b, k, t, er, ec, h⟩ := hr
  rw [ec]
  exact nofun
/-- a place that is neither -/
structure Off (r : Bg) (p : Addr) : Prop where
  a : p ≠ r.a
  c : p ≠ r.c
theorem BagAt.new {n : Nat} {r : Bg} {p : Addr} {H : Hp} (hr : BagAt n H r) (np : H p = none) : Off r p := ⟨fun z => hr.some (by rw [← z]; exact np), fun z => hr.someC (by rw [← z]; exact np)⟩
theorem BagAt.store {n : Nat} {r : Bg} {p : Addr} {H : Hp} {o : HO} (hr : BagAt n H r) (f : Off r p) : BagAt n (upd H p o) r := by
  obtain ⟨ns, i, b, k, t, er, ec, h⟩ := hr
  exact ⟨ns, i, b, k, t, by rw [upd_ne (Ne.symm f.a)]; exact er, by rw [upd_ne (Ne.symm f.c)]; exact ec, h⟩
theorem BagAt.kx {n : Nat} {r : Bg} {H H' : Hp} (h : BagAt n H r) (e : Ex H H') : BagAt n H' r := by
  obtain ⟨ns, i, b, k, t, er, ec, h⟩ := h
  exact ⟨ns, i, b, k, t, e.lst er, e.lst ec, h⟩
theorem bag_ne {c r : Addr} {H : Hp} {ns : List Int} {vs : List V} (er : H r = some (.lst (.ref c :: vs))) (ec : H c = some (.lst (ns.map V.int))) : c ≠ r := fun z => by
  rw [z, er] at ec
  cases ns with
  | nil => simp at ec
  | cons x ns => simp at ec
theorem mem_keep {r : Bg} {b : Addr} {H H' : Hp} (m : Mv r H H') (n : b ≠ r.a) (h : H b ≠ none) : H' b ≠ none := fun z => by
  cases q : H b with
  | none => exact h q
  | some o =>
    rw [m.keep b o n q] at z
    cases z
def spStir : Sp := fun vs H Q _ => ∃ a b : Int, vs = [.int a, .int b] ∧ 0 ≤ a ∧ a < MSP ∧ 0 ≤ b ∧ b ≤ (M60 : Int) ∧ ∀ x, Q (.int x) H
def spDraw (r : Bg) : Sp := fun vs H Q _ => ∃ (m : Int) (n : Nat), vs = [.ref r.a, .int m] ∧ BagAt n H r ∧ n < M60 ∧ 1 ≤ m ∧ m < 2 ^ 140 ∧ ∀ x H', BagAt (n + 1) H' r → Mv r H H' → 0 ≤ x → x < m → Q (.int x) H'
def spBag (K : PySem.W.Frag) : Sp := fun vs H Q _ => ∃ (a : Addr) (ns : List Int), vs = [.ref a] ∧ SqL K H a (ns.map V.int) ∧ ∀ (r : Bg) H', Same H H' → H r.a = none → BagAt 0 H' r → Q (.ref r.a) H'
section
variable {P : Program} {w : World} {K : PySem.W.Frag} {mg : Str → Option Value} {base : Heap}
theorem ok_stir {f : Addr} {fd : FuncData} (F : Fun K "_law_stir" "_law_stir" sStir f fd) : FnOk P w K mg base CX0 1 f fd ["number", "place"] spStir := by
  refine F.ok scStir (fun vs H Q E ⟨a, b, e, _⟩ => by rw [e]; rfl) (fun cdv A outer s H vs Q E hr h => ?_)
  obtain ⟨a, b, rfl, a0, a1, b0, b1, q⟩ := h
  have nd := scStir.nd
  refine ⟨_, pss_cons (ps_set (i := 2) nd rfl (.inl rfl) (pe_op op_mod (pe_op op_add (pe_op op_add (pe_op op_mul (pv 0) pe_int) (pe_op op_mul (pv 1) pe_int)) pe_int) pe_int))
    (pss_cons (ps_set (i := 3) nd rfl (.inl rfl) (pe_op op_mod (pe_op op_mul (pv 2) (pv 2)) pe_int))
    (pss_one (ps_ret (pe_op op_fdiv (pe_op op_mod (pe_op op_add (pe_op op_add (pe_op op_mul (pv 3) pe_int) (pe_op op_mul (pe_op op_mul (pv 1) (pv 1)) pe_int)) (pe_op op_fdiv (pv 2) pe_int)) pe_int) pe_int)))), ?_⟩
  have a1' : a < 2305843009213693951 := a1
  have b1' : b ≤ 1000000000000000000 := b1
  refine ⟨.int a, rfl, a, 998244353, rfl, rfl, .inr ⟨by decide, by decide⟩, .int b, rfl, b, 1000000007, rfl, rfl, .inr ⟨by decide, by decide⟩, _, _, rfl, rfl, _, 5, rfl, rfl, _, _, rfl, rfl, (by show (0 : Int) < 2305843009213693951; decide), ?_⟩
  show tSeq _ _ _ [some (.int a), some (.int b), some (.int ((a * 998244353 + b * 1000000007 + 5) % 2305843009213693951)), none] H
  generalize hz : (a * 998244353 + b * 1000000007 + 5) % 2305843009213693951 = z
  have z0 : 0 ≤ z := by rw [← hz]; exact Int.emod_nonneg _ (by decide)
  have z1 : z < 2305843009213693951 := by rw [← hz]; exact Int.emod_lt_of_pos _ (by decide)
  refine ⟨.int z, rfl, .int z, rfl, z, z, rfl, rfl, .inl ⟨by rw [t64]; omega, by rw [t64]; omega⟩, _, _, rfl, rfl, (by show (0 : Int) < 2305843009213693951; decide), ?_⟩
  refine ⟨.int (z * z % 2305843009213693951), rfl, z * z % 2305843009213693951, 2860486313, rfl, rfl, .inr ⟨by decide, by decide⟩, .int b, rfl, .int b, rfl, b, b, rfl, rfl, .inl ⟨by rw [t64]; omega, by rw [t64]; omega⟩, _, 48271, rfl, rfl, .inr ⟨by decide, by decide⟩, _, _, rfl, rfl, .int z, rfl, z, 3, rfl, rfl, ⟨by decide, by decide⟩, _, _, rfl, rfl, _, _, rfl, rfl, (by show (0 : Int) < 2305843009213693921; decide), _, _, rfl, rfl, ⟨by decide, by decide⟩, ?_⟩
  exact q _
theorem ok_draw {f : Addr} {r : Bg} {fd : FuncData} (F : Fun K "_law_draw" "_law_draw" sDraw f fd) (hlen : mg "len" = none) (CS : Cal P w K mg base 1 "_law_stir" ["number", "place"] spStir) : FnOk P w K mg base CX0 2 f fd ["bag", "many"] (spDraw r) := by
  refine F.ok scDraw (fun vs H Q E ⟨m, n, e, _⟩ => by rw [e]; rfl) (fun cdv A outer s H vs Q E hr h => ?_)
  obtain ⟨m, n, rfl, ⟨ns, i, b, k, t, er, ec, hi, hb, hk, hn, ht0, ht1⟩, hn1, m1, m2, q⟩ := h
  have nd := scDraw.nd
  refine ⟨_, pss_cons (ps_if (pt_cmpR op_eq (pv 1) pe_int (nomark _)) (pss_one (ps_ret pe_int)) pss_nil)
    (pss_cons (ps_asg (pe_op op_add (pe_ix ix_list (pv 0) pe_int (fun _ _ => rfl)) pe_int) (pg_sub (pv 0) pe_int set_list))
    (pss_cons (ps_if (PW.pt (pw_and (pt_cmpR op_lt (pe_ix ix_list (pv 0) pe_int (fun _ _ => rfl)) pe_int (nomark _)) (pw_and1 (pt_cmpR op_eq (pe_ix ix_list (pv 0) pe_int (fun _ _ => rfl)) (pe_callB call_len_seq (by rfl) hlen PySem.boot_len (pa_cons (pe_ix ix_list (pv 0) pe_int (fun _ _ => rfl)) pa_nil)) (nomark _)))))
      (pss_one (ps_ret (pe_op op_mod (pe_cal CS hr (by rfl) (pa_cons (pe_ix ix_list (pv 0) pe_int (fun _ _ => rfl)) (pa_cons (pe_ix ix_list (pv 0) pe_int (fun _ _ => rfl)) pa_nil))) (pv 1)))) pss_nil)
    (pss_cons (ps_if (pt_cmpR op_lt (pe_ix ix_list (pv 0) pe_int (fun _ _ => rfl)) pe_int (nomark _))
      (pss_cons (ps_set (i := 2) nd rfl (.inl rfl) (pe_ix ix_list (pe_ix ix_list (pv 0) pe_int (fun _ _ => rfl)) (pe_ix ix_list (pv 0) pe_int (fun _ _ => rfl)) (fun _ _ => rfl)))
      (pss_cons (ps_asg (pe_op op_add (pe_ix ix_list (pv 0) pe_int (fun _ _ => rfl)) pe_int) (pg_sub (pv 0) pe_int set_list))
      (pss_cons (ps_if (pt_cmpR op_lt (pv 2) (pe_op op_pow pe_int pe_int) (nomark _)) (pss_one (ps_ret (pe_op op_mod (pe_cal CS hr (by rfl) (pa_cons (pe_op op_mod (pv 2) pe_int) (pa_cons (pe_ix ix_list (pv 0) pe_int (fun _ _ => rfl)) pa_nil))) (pv 1)))) pss_nil)
      (pss_one (ps_asg (pe_op op_sub (pv 2) (pe_op op_pow pe_int pe_int)) (pg_sub (pv 0) pe_int set_list)))))) pss_nil)
    (pss_cons (ps_set (i := 3) nd rfl (.inl rfl) (pe_op op_mod (pe_ix ix_list (pv 0) pe_int (fun _ _ => rfl)) (pv 1)))
    (pss_cons (ps_asg (pe_op op_fdivW (pe_ix ix_list (pv 0) pe_int (fun _ _ => rfl)) (pv 1)) (pg_sub (pv 0) pe_int set_list))
    (pss_one (ps_ret (pv 3)))))))), ?_⟩
  have hcr := bag_ne er ec
  have mdiv : ∀ f : Int, CDivW f m := fun f => wide_div (b := 140) (by omega) (by omega) (by decide) (by decide)
  have mp : (0 : Int) < m := by omega
  refine ⟨.int m, rfl, rfl, _, rfl, ite2 (fun e => ?_) (fun _ => ?_)⟩
  · exact q 0 H (BagAt.mono (n := n) ⟨ns, i, b, k, t, er, ec, hi, hb, hk, hn, ht0, ht1⟩ (Nat.le_succ n)) (Mv.refl r H) (Int.le_refl 0) mp
  -- the counter
  refine ⟨.ref r.a, rfl, r.a, _, 3, .int k, rfl, rfl, SqL.of er, atI_nat (j := 3) rfl, k, 1, rfl, rfl, .ref r.a, rfl, r.a, _, 3, 3, rfl, rfl, er, rfl, ?_⟩
  show tSeq _ _ _ _ (upd H r.a (.lst [.ref r.c, .int i, .int b, .int (k + 1), .int t]))
  have m1' : Mv r H (upd H r.a (.lst [.ref r.c, .int i, .int b, .int (k + 1), .int t])) := ⟨fun b o nb e => by rw [upd_ne nb]; exact e⟩
  have er1 : (upd H r.a (.lst [.ref r.c, .int i, .int b, .int (k + 1), .int t])) r.a = some (.lst [.ref r.c, .int i, .int b, .int (k + 1), .int t]) := upd_same
  generalize upd H r.a (.lst [.ref r.c, .int i, .int b, .int (k + 1), .int t]) = H1 at m1' er1
  have ec1 := m1'.keep r.c _ hcr ec
  have fin1 : ∀ x : Int, Q (.int (x % m)) H1 := fun x => q _ H1 ⟨ns, i, b, k + 1, t, er1, ec1, hi, hb, by omega, by omega, ht0, ht1⟩ m1' (Int.emod_nonneg _ (by omega)) (Int.emod_lt_of_pos _ mp)
  have last : ∀ (H2 : Hp) (i2 : Nat) (b2 : Int) (y : Option V), Mv r H H2 → H2 r.a = some (.lst [.ref r.c, .int i2, .int b2, .int (k + 1), .int t]) → i2 ≤ ns.length → 0 ≤ b2 → ∀ x : Int, x = b2 % m → Q (.int x) (upd H2 r.a (.lst [.ref r.c, .int i2, .int (b2 / m), .int (k + 1), .int t])) := fun H2 i2 b2 y mv e2 hi2 hb2 x hx => by
    rw [hx]
    exact q _ _ ⟨ns, i2, b2 / m, k + 1, t, upd_same, by rw [upd_ne hcr]; exact mv.keep r.c _ hcr ec, hi2, Int.ediv_nonneg hb2 (by omega), by omega, by omega, ht0, ht1⟩ ⟨fun b o nb e => by rw [upd_ne nb]; exact mv.keep b o nb e⟩ (Int.emod_nonneg _ (by omega)) (Int.emod_lt_of_pos _ mp)
  refine ⟨.ref r.a, rfl, r.a, _, 2, .int b, rfl, rfl, SqL.of er1, atI_nat (j := 2) rfl, b, 2, rfl, rfl, decide (b < 2), rfl, ?_⟩
  by_cases hb2 : b < 2
  · rw [decide_eq_true hb2]
    refine iteT ⟨.ref r.a, rfl, r.a, _, 1, .int i, rfl, rfl, SqL.of er1, atI_nat (j := 1) rfl, .ref r.a, rfl, r.a, _, 0, .ref r.c, rfl, rfl, SqL.of er1, atI_nat (j := 0) rfl, r.c, _, rfl, .inl (SqL.of ec1), rfl, _, rfl, ite2 (fun e => ?_) (fun e => ?_)⟩
    · refine ⟨.ref r.a, rfl, r.a, _, 4, .int t, rfl, rfl, SqL.of er1, atI_nat (j := 4) rfl, .ref r.a, rfl, r.a, _, 3, .int (k + 1), rfl, rfl, SqL.of er1, atI_nat (j := 3) rfl, t, k + 1, rfl, ht0, ht1, by omega, by omega, fun x => ?_⟩
      exact ⟨.int m, rfl, x, m, rfl, rfl, mp, fin1 x⟩
    · have hi2 : i < ns.length := by
        rcases Nat.lt_or_ge i ns.length with z | z
        · exact z
        · refine absurd ?_ e
          have : i = ns.length := by omega
          rw [this, List.length_map]
          exact decide_eq_true rfl
      refine ⟨.ref r.a, rfl, r.a, _, 2, .int b, rfl, rfl, SqL.of er1, atI_nat (j := 2) rfl, b, 2, rfl, rfl, decide (b < 2), rfl, ?_⟩
      rw [decide_eq_true hb2]
      refine iteT ?_
      refine ⟨.ref r.a, rfl, r.a, _, 0, .ref r.c, rfl, rfl, SqL.of er1, atI_nat (j := 0) rfl, .ref r.a, rfl, r.a, _, 1, .int i, rfl, rfl, SqL.of er1, atI_nat (j := 1) rfl, r.c, _, i, .int ns[i], rfl, rfl, SqL.of ec1, atI_nat (j := i) (by rw [List.getElem?_map, List.getElem?_eq_getElem hi2]; rfl), ?_⟩
      refine ⟨.ref r.a, rfl, r.a, _, 1, .int i, rfl, rfl, SqL.of er1, atI_nat (j := 1) rfl, i, 1, rfl, rfl, .ref r.a, rfl, r.a, _, 1, 1, rfl, rfl, er1, rfl, ?_⟩
      show tSeq _ _ _ _ (upd H1 r.a (.lst [.ref r.c, .int (i + 1 : Int), .int b, .int (k + 1), .int t]))
      have m2' : Mv r H (upd H1 r.a (.lst [.ref r.c, .int (i + 1 : Int), .int b, .int (k + 1), .int t])) := ⟨fun b o nb e => by rw [upd_ne nb]; exact m1'.keep b o nb e⟩
      have er2 : (upd H1 r.a (.lst [.ref r.c, .int (i + 1 : Int), .int b, .int (k + 1), .int t])) r.a = some (.lst [.ref r.c, .int ((i + 1 : Nat) : Int), .int b, .int (k + 1), .int t]) := by rw [upd_same]; rfl
      generalize upd H1 r.a (.lst [.ref r.c, .int (i + 1 : Int), .int b, .int (k + 1), .int t]) = H2 at m2' er2
      generalize hcell : ns[i] = cell
      have ec2 := m2'.keep r.c _ hcr ec
      refine ⟨.int cell, rfl, 10, 18, rfl, rfl, ⟨by decide, by decide, by decide⟩, cell, _, rfl, rfl, _, rfl, ?_⟩
      rw [show (10 : Int) ^ (18 : Int).toNat = 1000000000000000000 from p18]
      refine ite2 (fun e1 => ?_) (fun e1 => ?_)
      · refine ⟨.int cell, rfl, cell, 2305843009213693951, rfl, rfl, (by show (0 : Int) < 2305843009213693951; decide), .ref r.a, rfl, r.a, _, 3, .int (k + 1), rfl, rfl, SqL.of er2, atI_nat (j := 3) rfl, cell % 2305843009213693951, k + 1, rfl, Int.emod_nonneg _ (by decide), Int.emod_lt_of_pos _ (by decide), by omega, by omega, fun x => ?_⟩
        exact ⟨.int m, rfl, x, m, rfl, rfl, mp, q _ H2 ⟨ns, i + 1, b, k + 1, t, er2, ec2, hi2, hb, by omega, by omega, ht0, ht1⟩ m2' (Int.emod_nonneg _ (by omega)) (Int.emod_lt_of_pos _ mp)⟩
      · have hc18 : 1000000000000000000 ≤ cell := by
          rcases Int.lt_or_le cell 1000000000000000000 with z | z
          · exact absurd (decide_eq_true z) e1
          · exact z
        refine ⟨.int cell, rfl, 10, 18, rfl, rfl, ⟨by decide, by decide, by decide⟩, cell, _, rfl, rfl, .ref r.a, rfl, r.a, _, 2, 2, rfl, rfl, er2, rfl, ?_⟩
        show tSeq _ _ _ _ (upd H2 r.a (.lst [.ref r.c, .int ((i + 1 : Nat) : Int), .int (cell - (10 : Int) ^ (18 : Int).toNat), .int (k + 1), .int t]))
        rw [show (10 : Int) ^ (18 : Int).toNat = 1000000000000000000 from p18]
        have m3' : Mv r H (upd H2 r.a (.lst [.ref r.c, .int ((i + 1 : Nat) : Int), .int (cell - 1000000000000000000), .int (k + 1), .int t])) := ⟨fun b o nb e => by rw [upd_ne nb]; exact m2'.keep b o nb e⟩
        have er3 : (upd H2 r.a (.lst [.ref r.c, .int ((i + 1 : Nat) : Int), .int (cell - 1000000000000000000), .int (k + 1), .int t])) r.a = some (.lst [.ref r.c, .int ((i + 1 : Nat) : Int), .int (cell - 1000000000000000000), .int (k + 1), .int t]) := upd_same
        have hb3 : 0 ≤ cell - 1000000000000000000 := by omega
        generalize cell - 1000000000000000000 = b2 at m3' er3 hb3
        generalize upd H2 r.a (.lst [.ref r.c, .int ((i + 1 : Nat) : Int), .int b2, .int (k + 1), .int t]) = H3 at m3' er3
        exact ⟨.ref r.a, rfl, r.a, _, 2, .int b2, rfl, rfl, SqL.of er3, atI_nat (j := 2) rfl, .int m, rfl, b2, m, rfl, rfl, mp, .ref r.a, rfl, r.a, _, 2, .int b2, rfl, rfl, SqL.of er3, atI_nat (j := 2) rfl, .int m, rfl, b2, m, rfl, rfl, mdiv b2, .ref r.a, rfl, r.a, _, 2, 2, rfl, rfl, er3, rfl, .int (b2 % m), rfl, last H3 (i + 1) b2 none m3' er3 hi2 hb3 _ rfl⟩
  · rw [decide_eq_false hb2]
    refine iteF ⟨.ref r.a, rfl, r.a, _, 2, .int b, rfl, rfl, SqL.of er1, atI_nat (j := 2) rfl, b, 2, rfl, rfl, decide (b < 2), rfl, ?_⟩
    rw [decide_eq_false hb2]
    exact iteF ⟨.ref r.a, rfl, r.a, _, 2, .int b, rfl, rfl, SqL.of er1, atI_nat (j := 2) rfl, .int m, rfl, b, m, rfl, rfl, mp, .ref r.a, rfl, r.a, _, 2, .int b, rfl, rfl, SqL.of er1, atI_nat (j := 2) rfl, .int m, rfl, b, m, rfl, rfl, mdiv b, .ref r.a, rfl, r.a, _, 2, 2, rfl, rfl, er1, rfl, .int (b % m), rfl, last H1 i b none m1' er1 hi hb _ rfl⟩
theorem ok_bag {f : Addr} {fd : FuncData} (F : Fun K "_law_bag" "_law_bag" sBag f fd) (hlist : mg "list" = none) : FnOk P w K mg base CX0 1 f fd ["script"] (spBag K) := by
  refine F.ok scBag (fun vs H Q E ⟨a, ns, e, _⟩ => by rw [e]; rfl) (fun cdv A outer s H vs Q E hr h => ?_)
  obtain ⟨a, ns, rfl, hS, q⟩ := h
  have nd := scBag.nd
  refine ⟨_, pss_cons (ps_set (i := 1) nd rfl (.inl rfl) pe_int)
    (pss_cons (ps_for PassesOwn.never rfl (pi_list (pv 0)) (pg_name (i := 2) nd rfl (.inl rfl))
      (pss_one (ps_set (i := 1) nd rfl (.inl rfl) (pe_op op_mod (pe_op op_add (pe_op op_add (pe_op op_mul (pv 1) pe_int) (pe_op op_mod (pv 2) pe_int)) pe_int) pe_int))))
    (pss_one (ps_ret (pe_lst (pa_cons (pe_callTy call_list_of (by rfl) hlist (by decide +kernel) (pa_cons (pv 0) pa_nil)) (pa_cons pe_int (pa_cons pe_int (pa_cons pe_int (pa_cons (pv 1) pa_nil))))))))), ?_⟩
  refine ⟨.ref a, rfl, a, rfl, ⟨_, hS⟩, for_list (xs := ns.map V.int) (fun i σ H2 => H2 = H ∧ ∃ t y2, σ = [some (.ref a), some (.int t), y2] ∧ 0 ≤ t ∧ t < MSP) ⟨rfl, 1, none, rfl, by decide, by decide⟩
    (fun i σ H2 _ ⟨e, _⟩ => by rw [e]; exact hS) (fun i x σ H2 hx ⟨e, t, y2, es, t0, t1⟩ => ?_) (fun σ H2 ⟨e, t, y2, es, t0, t1⟩ => ?_)⟩
  · subst e es
    obtain ⟨c, rfl⟩ : ∃ c, x = .int c := by
      rw [List.getElem?_map] at hx
      cases q : ns[i]? with
      | none => rw [q] at hx; cases hx
      | some c => rw [q] at hx; cases hx; exact ⟨c, rfl⟩
    exact ⟨.int t, rfl, t, 1000003, rfl, rfl, .inr ⟨by decide, by decide⟩, .int c, rfl, c, _, rfl, rfl, (by show (0 : Int) < 2305843009213693951; decide), _, _, rfl, rfl, _, 1, rfl, rfl, _, _, rfl, rfl, (by show (0 : Int) < 2305843009213693951; decide), rfl, _, some (.int c), rfl, Int.emod_nonneg _ (by decide), Int.emod_lt_of_pos _ (by decide)⟩
  · subst e es
    refine ⟨.ref a, rfl, a, _, rfl, .inl hS, fun l nl => ⟨.int t, rfl, small_le (by show 5 ≤ 1000; decide), fun r nr => ?_⟩⟩
    have s1 : Same H2 (upd H2 l (.lst (ns.map V.int))) := same_upd nl
    have lr : l ≠ r := fun z => by rw [← z, upd_same] at nr; cases nr
    exact q ⟨r, l⟩ _ (s1.trans (same_upd nr)) (s1.free nr) ⟨ns, 0, 0, 0, t, upd_same, by rw [upd_ne lr]; exact upd_same, Nat.zero_le _, Int.le_refl 0, Int.le_refl 0, Int.le_refl 0, t0, t1⟩
end
end CL
set_option Elab.async false
set_option linter.all false
set_option maxRecDepth 100000
set_option maxHeartbeats 4000000
namespace CL
open PySem PySem.Spec PyProof.Rows L2 GE
/-! ### who comes goes past all that let it -/
def goes : Nat → List (Option Int) → Nat × List (Option Int)
  | 0, l => (0, l)
  | p + 1, l => match l[p]? with
    | some (some k) => if k = 0 then (p + 1, l) else goes p (l.set p (some (k - 1)))
    | some none => goes p l
    | none => (p + 1, l)
theorem goes_le : ∀ (p : Nat) (l : List (Option Int)), (goes p l).1 ≤ p ∧ (goes p l).2.length = l.length
  | 0, l => ⟨Nat.le_refl 0, rfl⟩
  | p + 1, l => by
    unfold goes
    split
    · split
      · exact ⟨Nat.le_refl _, rfl⟩
      · have h := goes_le p (l.set p (some (‹Int› - 1)))
        exact ⟨Nat.le_succ_of_le h.1, by rw [h.2, List.length_set]⟩
    · have h := goes_le p l
      exact ⟨Nat.le_succ_of_le h.1, h.2⟩
    · exact ⟨Nat.le_refl _, rfl⟩
theorem goes_zero : ∀ (p : Nat) (l : List (Option Int)) (j : Nat), l[j]? = some (some 0) → (goes p l).2[j]? = some (some 0)
  | 0, l, j, h => h
  | p + 1, l, j, h => by
    unfold goes
    split
    · rename_i k hk
      split
      · exact h
      · rename_i k0
        refine goes_zero p _ j ?_
        rw [List.getElem?_set, if_neg (fun z => ?_)]
        · exact h
        · rw [z, h] at hk
          cases hk
          exact k0 rfl
    · exact goes_zero p l j h
    · exact h
/-- where a nought stands behind, or at, the last of the first g: these are let be -/
theorem goes_drop (g : Nat) : ∀ (p : Nat) (l : List (Option Int)), g + p ≤ l.length → (∃ j, g ≤ j + 1 ∧ j < g + p ∧ l[j]? = some (some 0)) →
    goes p (l.drop g) = ((goes (g + p) l).1 - g, (goes (g + p) l).2.drop g) ∧ g ≤ (goes (g + p) l).1 ∧ (goes (g + p) l).2.take g = l.take g
  | 0, l, hl, ⟨j, h1, h2, h3⟩ => by
    obtain ⟨g', rfl⟩ : ∃ g', g = g' + 1 := ⟨g - 1, by omega⟩
    obtain rfl : j = g' := by omega
    have e : goes (j + 1 + 0) l = (j + 1, l) := by
      show goes (j + 1) l = _
      unfold goes
      rw [h3]
      rfl
    rw [e]
    exact ⟨by simp [goes], Nat.le_refl _, rfl⟩
  | p + 1, l, hl, ⟨j, h1, h2, h3⟩ => by
    have hlt : g + p < l.length := by omega
    have ed : (l.drop g)[p]? = l[g + p]? := List.getElem?_drop
    have es : goes (g + (p + 1)) l = goes (g + p + 1) l := rfl
    rw [es]
    conv => lhs; lhs; unfold goes
    rw [ed]
    have eu : goes (g + p + 1) l = match l[g + p]? with
      | some (some k) => if k = 0 then (g + p + 1, l) else goes (g + p) (l.set (g + p) (some (k - 1)))
      | some none => goes (g + p) l
      | none => (g + p + 1, l) := by conv => lhs; unfold goes
    rw [eu]
    cases q : l[g + p]? with
    | none => rw [List.getElem?_eq_getElem hlt] at q; cases q
    | some o =>
      cases o with
      | none =>
        refine goes_drop g p l (by omega) ⟨j, h1, ?_, h3⟩
        rcases Nat.lt_or_ge j (g + p) with z | z
        · exact z
        · obtain rfl : j = g + p := by omega
          rw [q] at h3; cases h3
      | some k =>
        dsimp only
        by_cases hk : k = 0
        · rw [if_pos hk, if_pos hk]
          exact ⟨by congr 1; show p + 1 = g + p + 1 - g; omega, by show g ≤ g + p + 1; omega, rfl⟩
        · rw [if_neg hk, if_neg hk]
          have hj : j ≠ g + p := fun z => by rw [z, q] at h3; cases h3; exact hk rfl
          obtain ⟨i1, i2, i3⟩ := goes_drop g p (l.set (g + p) (some (k - 1))) (by rw [List.length_set]; omega) ⟨j, h1, by omega, by rw [List.getElem?_set, if_neg (Ne.symm hj)]; exact h3⟩
          have e2 : (l.drop g).set p (some (k - 1)) = (l.set (g + p) (some (k - 1))).drop g := by
            rw [List.drop_set]
            rw [if_neg (by omega)]
            congr 1
            omega
          rw [e2]
          refine ⟨i1, i2, ?_⟩
          rw [i3, List.take_set_of_le (by omega)]
/-! ### a line's state -/
inductive Deed where
  | come (p : Option Int)
  | serve
structure LS where
  xs : List Nat
  rs : List (Option Int)
  ps : List Nat
  sv : List (Nat × Option Int)
  ds : List Deed
def LS.nil : LS := ⟨[], [], [], [], []⟩
def bump (ps : List Nat) : List Nat → List Nat
  | [] => ps
  | y :: ys => bump (ps.set y (ps.getD y 0 + 1)) ys
theorem bump_len : ∀ (ys ps : List Nat), (bump ps ys).length = ps.length
  | [], _ => rfl
  | y :: ys, ps => by
    unfold bump
    rw [bump_len ys, List.length_set]
abbrev LS.k (s : LS) : Nat := (goes s.rs.length s.rs).1
def comeS (s : LS) (p : Option Int) : LS :=
  ⟨s.xs.take s.k ++ s.ps.length :: s.xs.drop s.k, (goes s.rs.length s.rs).2.take s.k ++ p :: (goes s.rs.length s.rs).2.drop s.k, bump s.ps (s.xs.drop s.k) ++ [0], s.sv, s.ds ++ [.come p]⟩
def serveS (s : LS) (x : Nat) (r : Option Int) : LS := ⟨s.xs.tail, s.rs.tail, s.ps, s.sv ++ [(x, r)], s.ds ++ [.serve]⟩
structure LS.Ok (s : LS) : Prop where
  len : s.xs.length = s.rs.length
  lt : ∀ x ∈ s.xs, x < s.ps.length
  tot : s.xs.length + s.sv.length = s.ps.length
  dl : s.ds.length = s.ps.length + s.sv.length
theorem nil_ok : LS.nil.Ok := ⟨rfl, (fun x h => nomatch h), rfl, rfl⟩
theorem LS.Ok.come {s : LS} (h : s.Ok) (p : Option Int) : (comeS s p).Ok := by
  obtain ⟨g1, g2⟩ := goes_le s.rs.length s.rs
  have hl := h.len
  have hps : (comeS s p).ps.length = s.ps.length + 1 := by
    show (bump _ _ ++ [0]).length = _
    rw [List.length_append, bump_len]; rfl
  have hxs : (comeS s p).xs.length = s.xs.length + 1 := by
    show (_ ++ _ :: _).length = _
    rw [List.length_append, List.length_cons, List.length_take, List.length_drop]
    omega
  refine ⟨?_, fun x hx => ?_, ?_, ?_⟩
  · rw [hxs]
    show _ = (_ ++ _ :: _).length
    rw [List.length_append, List.length_cons, List.length_take, List.length_drop, g2]
    omega
  · rw [hps]
    rcases List.mem_append.mp (show x ∈ s.xs.take s.k ++ s.ps.length :: s.xs.drop s.k from hx) with z | z
    · exact Nat.lt_succ_of_lt (h.lt x (List.mem_of_mem_take z))
    · rcases List.mem_cons.mp z with z | z
      · rw [z]; exact Nat.lt_succ_self _
      · exact Nat.lt_succ_of_lt (h.lt x (List.mem_of_mem_drop z))
  · rw [hxs, hps]
    have := h.tot
    show s.xs.length + 1 + s.sv.length = _
    omega
  · rw [hps]
    show (s.ds ++ [_]).length = s.ps.length + 1 + s.sv.length
    rw [List.length_append, h.dl, List.length_singleton]
    omega
theorem LS.Ok.serve {s : LS} (h : s.Ok) {x : Nat} {r : Option Int} {xs : List Nat} (e : s.xs = x :: xs) : (serveS s x r).Ok := by
  have hl := h.len
  refine ⟨?_, fun y hy => h.lt y (List.mem_of_mem_tail (show y ∈ s.xs.tail from hy)), ?_, ?_⟩
  · show s.xs.tail.length = s.rs.tail.length
    rw [List.length_tail, List.length_tail, hl]
  · show s.xs.tail.length + (s.sv ++ [_]).length = s.ps.length
    have := h.tot
    rw [List.length_append, List.length_singleton, List.length_tail, e, List.length_cons] at *
    omega
  · show (s.ds ++ [_]).length = s.ps.length + (s.sv ++ [_]).length
    rw [List.length_append, List.length_append, h.dl, List.length_singleton, List.length_singleton]
    omega
/-! ### the one line serves its front where that is safe -/
structure Beh (g : Nat) (s t : LS) : Prop where
  xs : s.xs = t.xs.drop g
  rs : s.rs = t.rs.drop g
  ps : s.ps = t.ps
  le : g ≤ t.xs.length
  zero : g = 0 ∨ ∃ j, g ≤ j + 1 ∧ t.rs[j]? = some (some 0)
theorem Beh.goes {g : Nat} {s t : LS} (b : Beh g s t) (ht : t.Ok) : CL.goes s.rs.length s.rs = ((CL.goes t.rs.length t.rs).1 - g, (CL.goes t.rs.length t.rs).2.drop g) ∧ g ≤ (CL.goes t.rs.length t.rs).1 ∧ (CL.goes t.rs.length t.rs).2.take g = t.rs.take g := by
  have hl := ht.len
  have hg := b.le
  rw [b.rs]
  rcases b.zero with z | ⟨j, h1, h2⟩
  · subst z
    exact ⟨by simp, Nat.zero_le _, rfl⟩
  · have hj := (List.getElem?_eq_some_iff.mp h2).1
    have h := goes_drop g (t.rs.length - g) t.rs (by omega) ⟨j, h1, by omega, h2⟩
    have e : g + (t.rs.length - g) = t.rs.length := by omega
    rw [e] at h
    rw [List.length_drop]
    exact h
theorem drop_take_cons {α : Type} (l : List α) (a : α) (g k : Nat) (h : g ≤ k) (hk : k ≤ l.length) : (l.take k ++ a :: l.drop k).drop g = (l.drop g).take (k - g) ++ a :: (l.drop g).drop (k - g) := by
  rw [List.drop_append_of_le_length (by rw [List.length_take]; omega), List.drop_take, List.drop_drop]
  congr 3
  omega
theorem take_take_cons {α : Type} (l : List α) (a : α) (g k : Nat) (h : g ≤ k) (hk : k ≤ l.length) : (l.take k ++ a :: l.drop k).take g = l.take g := by
  rw [List.take_append_of_le_length (by rw [List.length_take]; omega), List.take_take, Nat.min_eq_left h]
theorem Beh.come {g : Nat} {s t : LS} (b : Beh g s t) (ht : t.Ok) (p : Option Int) : Beh g (comeS s p) (comeS t p) ∧ (comeS t p).xs.take g = t.xs.take g := by
  obtain ⟨h1, h2, h3⟩ := b.goes ht
  obtain ⟨k1, k2⟩ := goes_le t.rs.length t.rs
  have hl := ht.len
  have hk : s.k = t.k - g := by show (CL.goes s.rs.length s.rs).1 = _; rw [h1]
  have hr : (CL.goes s.rs.length s.rs).2 = (CL.goes t.rs.length t.rs).2.drop g := by rw [h1]
  have hx : (s.xs.drop s.k) = t.xs.drop t.k := by
    rw [hk, b.xs, List.drop_drop]
    congr 1
    show g + ((CL.goes t.rs.length t.rs).1 - g) = (CL.goes t.rs.length t.rs).1
    omega
  refine ⟨⟨?_, ?_, ?_, ?_, ?_⟩, take_take_cons _ _ _ _ h2 (by show (CL.goes t.rs.length t.rs).1 ≤ _; omega)⟩
  · show s.xs.take s.k ++ s.ps.length :: s.xs.drop s.k = (t.xs.take t.k ++ t.ps.length :: t.xs.drop t.k).drop g
    rw [drop_take_cons _ _ _ _ h2 (by show (CL.goes t.rs.length t.rs).1 ≤ _; omega), hk, b.xs, b.ps]
  · show (CL.goes s.rs.length s.rs).2.take s.k ++ p :: (CL.goes s.rs.length s.rs).2.drop s.k = ((CL.goes t.rs.length t.rs).2.take t.k ++ p :: (CL.goes t.rs.length t.rs).2.drop t.k).drop g
    rw [drop_take_cons _ _ _ _ h2 (by show (CL.goes t.rs.length t.rs).1 ≤ _; omega), hk, hr]
  · show bump s.ps (s.xs.drop s.k) ++ [0] = bump t.ps (t.xs.drop t.k) ++ [0]
    rw [hx, b.ps]
  · show g ≤ (_ ++ _ :: _).length
    have := b.le
    rw [List.length_append, List.length_cons, List.length_take, List.length_drop]
    omega
  · rcases b.zero with z | ⟨j, j1, j2⟩
    · exact .inl z
    · refine .inr ?_
      have hz := goes_zero t.rs.length t.rs j j2
      have hkk : t.k = (CL.goes t.rs.length t.rs).1 := rfl
      by_cases hj : j < t.k
      · refine ⟨j, j1, ?_⟩
        show (_ ++ _ :: _)[j]? = _
        rw [List.getElem?_append_left (by rw [List.length_take]; omega), List.getElem?_take, if_pos hj]
        exact hz
      · refine ⟨j + 1, by omega, ?_⟩
        show (_ ++ _ :: _)[j + 1]? = _
        rw [List.getElem?_append_right (by rw [List.length_take]; omega), List.length_take, Nat.min_eq_left (by omega)]
        have e : j + 1 - t.k = (j - t.k) + 1 := by omega
        rw [e, List.getElem?_cons_succ, List.getElem?_drop]
        rw [show t.k + (j - t.k) = j by omega]
        exact hz
theorem Beh.serve {g : Nat} {s t : LS} (b : Beh g s t) (h0 : some 0 ∈ s.rs) {x : Nat} {r : Option Int} {xs : List Nat} (e : s.xs = x :: xs) : Beh (g + 1) (serveS s x r) t ∧ t.xs.take (g + 1) = t.xs.take g ++ [x] := by
  have hx : t.xs.drop g = x :: xs := by rw [← b.xs]; exact e
  have hlt : g < t.xs.length := by
    rcases Nat.lt_or_ge g t.xs.length with z | z
    · exact z
    · rw [List.drop_of_length_le z] at hx; cases hx
  have hget : t.xs[g]? = some x := by
    have : (t.xs.drop g)[0]? = some x := by rw [hx]; rfl
    rw [List.getElem?_drop] at this
    exact this
  refine ⟨⟨?_, ?_, b.ps, hlt, .inr ?_⟩, by rw [List.take_add_one, hget]; rfl⟩
  · show s.xs.tail = _
    rw [b.xs, List.tail_drop]
  · show s.rs.tail = _
    rw [b.rs, List.tail_drop]
  · obtain ⟨j, hj⟩ := List.getElem?_of_mem h0
    rw [b.rs, List.getElem?_drop] at hj
    exact ⟨g + j, by omega, hj⟩
end CL
set_option Elab.async false
set_option linter.all false
set_option maxRecDepth 100000
set_option maxHeartbeats 4000000
namespace CL
open PySem PySem.Spec PyProof.Rows L2 GE
abbrev sLet : Stmt := topS 11
abbrev sLn : Stmt := topS 13
abbrev sInit : Stmt := inClass sLn 0
abbrev sComeM : Stmt := inClass sLn 1
abbrev sServeM : Stmt := inClass sLn 2
abbrev sQueM : Stmt := inClass sLn 5
abbrev sLeftM : Stmt := inClass sLn 6
abbrev sWentM : Stmt := inClass sLn 7
abbrev sLenM : Stmt := inClass sLn 9
theorem scLet : FnScope ["left", "place"] ["left"] (defScope sLet) := ⟨rfl, rfl, rfl, by decide +kernel, rfl, by decide +kernel, by decide +kernel⟩
theorem scInit : FnScope ["self"] ["self"] (defScope sInit) := ⟨rfl, rfl, rfl, by decide +kernel, rfl, by decide +kernel, by decide +kernel⟩
theorem scComeM : FnScope ["self", "patience", "newcomer", "place", "person"] ["self", "patience"] (defScope sComeM) := ⟨rfl, rfl, rfl, by decide +kernel, rfl, by decide +kernel, by decide +kernel⟩
theorem scServeM : FnScope ["self", "person"] ["self"] (defScope sServeM) := ⟨rfl, rfl, rfl, by decide +kernel, rfl, by decide +kernel, by decide +kernel⟩
theorem scQueM : FnScope ["self"] ["self"] (defScope sQueM) := ⟨rfl, rfl, rfl, by decide +kernel, rfl, by decide +kernel, by decide +kernel⟩
theorem scLeftM : FnScope ["self"] ["self"] (defScope sLeftM) := ⟨rfl, rfl, rfl, by decide +kernel, rfl, by decide +kernel, by decide +kernel⟩
theorem scWentM : FnScope ["self", "person"] ["self", "person"] (defScope sWentM) := ⟨rfl, rfl, rfl, by decide +kernel, rfl, by decide +kernel, by decide +kernel⟩
theorem scLenM : FnScope ["self"] ["self"] (defScope sLenM) := ⟨rfl, rfl, rfl, by decide +kernel, rfl, by decide +kernel, by decide +kernel⟩
/-! ### xs[i] -= e -/
theorem get_list {X : Cx} : PGet X (fun x y H Q => ∃ p xs, ∃ i : Nat, ∃ v, x = .ref p ∧ y = .int (i : Int) ∧ SqL X.K H p xs ∧ xs[i]? = some v ∧ Q v H) := by
  intro pins s σ H o k ov iv Q I ro ri h
  obtain ⟨p, xs, i, v, rfl, rfl, hs, hv, q⟩ := h
  cases ro
  obtain ⟨t, rfl⟩ := ri
  obtain ⟨its, r, pl, hz⟩ := I.list hs
  obtain ⟨w, ew, rw'⟩ := r.get hv
  have hn := line63
  have hl : i < xs.length := (List.getElem?_eq_some_iff.mp hv).1
  exact wpAny_getItem_list pl.isList (by omega) (by omega) (by simpa using ew) ⟨v, H, I, rw', q⟩
def optD : Option Int → PyData
  | some i => .int i
  | none => .none
def optV : Option Int → V
  | some i => .int i
  | none => .non
theorem rp_opt2 {H : Hp} : ∀ o : Option Int, Rp H (optV o) (optD o)
  | none => .non
  | some i => .int i
def spLet : Sp := fun vs H Q _ => ∃ (L : Addr) (l : List (Option Int)), vs = [.ref L] ∧ H L = some (.lst (l.map optV)) ∧ l.length ≤ 2000 ∧ ∀ H', (∀ b, b ≠ L → H' b = H b) → H' L = some (.lst ((goes l.length l).2.map optV)) → Q (.int ((goes l.length l).1 : Int)) H'
theorem optV_dp {K : PySem.W.Frag} {H : Hp} : ∀ o : Option Int, Dp K H (optV o) (optD o)
  | none => .non
  | some i => .int i
theorem optD_shaped : ∀ o : Option Int, SeqAt.shaped (optD o) = true
  | none => by decide
  | some i => by unfold SeqAt.shaped; simp [optD, PyData.canLay0, PyData.depth]
theorem optV_ne0 : ∀ o : Option Int, (!PyData.eqv (optD o) (.int 0)) = !decide (o = some 0)
  | none => by simp [optD, PyData.eqv]
  | some i => by
    by_cases h : i = 0
    · subst h; simp [optD, PyData.eqv]
    · simp [optD, PyData.eqv, h]
theorem rp_optV {H : Hp} {v : V} : ∀ {o : Option Int}, Rp H v (optD o) → v = optV o
  | none, h => by cases h; rfl
  | some i, h => by cases h; rfl
theorem ixN_nat {n j : Nat} (h : j < n) : ixN n (j : Int) = some j := by
  unfold ixN
  rw [if_pos (by omega)]
  simp [h]
section
variable {P : Program} {w : World} {K : PySem.W.Frag} {mg : Str → Option Value} {base : Heap}
theorem ok_let {f : Addr} {fd : FuncData} (F : Fun K "let_past" "let_past" sLet f fd) (T : Nm mg) : FnOk P w K mg base CX0 1 f fd ["left"] spLet := by
  refine F.ok scLet (fun vs H Q E ⟨L, l, e, _⟩ => by rw [e]; rfl) (fun cdv A outer s H vs Q E hr h => ?_)
  obtain ⟨L2, l0, rfl, eL, hl0, q⟩ := h
  have nd := scLet.nd
  refine ⟨_, (pss_cons (ps_set (i := 1) nd rfl (.inl rfl) (pe_callB call_len_seq (by rfl) T.len PySem.boot_len (pa_cons (pv 0) pa_nil)))
      (pss_cons (ps_while PassesOwn.never (PW.pt (pw_and (pt_cmpR op_gt (pv 1) pe_int (nomark _)) (pw_and1 (pt_cmpR (op_neD hr.units) (pe_ix ix_list (pv 0) (pe_op op_sub (pv 1) pe_int) (fun _ _ => rfl)) pe_int (nomark _)))))
        (pss_cons (ps_aug (i := 1) nd rfl (.inl rfl) pe_int ip_sub)
        (pss_one (ps_if (pt_cmp (pc_notN (pe_ix ix_list (pv 0) (pv 1) (fun _ _ => rfl)))) (pss_one (ps_augS (pv 0) (pv 1) get_list pe_int ip_sub set_list)) pss_nil))))
      (pss_one (ps_ret (pv 1))))), ?_⟩
  refine ⟨.ref L2, rfl, L2, _, rfl, .inl (SqL.of eL), ?_⟩
  rw [List.length_map]
  refine ⟨fun k σ H3 => ∃ l : List (Option Int), σ = [some (.ref L2), some (.int (k : Int))] ∧ (∀ b, b ≠ L2 → H3 b = H b) ∧ H3 L2 = some (.lst (l.map optV)) ∧ l.length = l0.length ∧ k ≤ l0.length ∧ goes k l = goes l0.length l0,
      ⟨l0.length, l0, rfl, fun b _ => rfl, eL, rfl, Nat.le_refl _, rfl⟩, fun k σ H3 hW => ?_⟩
  obtain ⟨l, rfl, s3, f2, hl, hk, hg⟩ := hW
  have ix : ∀ {b : Nat} {o : Option Int}, l[b]? = some o → (l.map optV)[b]? = some (optV o) := fun {b o} e => by rw [List.getElem?_map, e]; rfl
  have fin : ∀ {k : Nat}, (k, l) = goes l0.length l0 → Q (.int (k : Int)) H3 := fun {k} e => by
    have q' := q H3 s3
    rw [← e] at q'
    exact q' f2
  cases k with
  | zero =>
    refine ⟨.int ((0 : Nat) : Int), rfl, ((0 : Nat) : Int), 0, rfl, rfl, decide ((0 : Int) < ((0 : Nat) : Int)), rfl, iteF ?_⟩
    exact ⟨.int ((0 : Nat) : Int), rfl, fin hg⟩
  | succ k' =>
    have hk' : k' < l.length := by omega
    obtain ⟨o, ho⟩ : ∃ o, l[k']? = some o := ⟨_, List.getElem?_eq_getElem hk'⟩
    have hi1 : ((k' + 1 : Nat) : Int) - 1 = (k' : Int) := by omega
    refine ⟨.int ((k' + 1 : Nat) : Int), rfl, ((k' + 1 : Nat) : Int), 0, rfl, rfl, decide ((0 : Int) < ((k' + 1 : Nat) : Int)), rfl, ?_⟩
    rw [decide_eq_true (by omega : (0 : Int) < ((k' + 1 : Nat) : Int))]
    refine iteT ⟨.ref L2, rfl, .int ((k' + 1 : Nat) : Int), rfl, ((k' + 1 : Nat) : Int), 1, rfl, rfl, L2, _, ((k' + 1 : Nat) : Int) - 1, optV o, rfl, rfl, SqL.of f2, by rw [hi1]; exact atI_nat (ix ho), optD o, .int 0, optV_dp o, .int 0, optD_shaped o, optD_shaped (some 0), _, rfl, ?_⟩
    rw [optV_ne0]
    by_cases hz : o = some 0
    · rw [decide_eq_true hz]
      have hg2 : (k' + 1, l) = goes l0.length l0 := by
        rw [← hg]
        unfold goes
        rw [ho, hz]
        rfl
      exact iteF ⟨.int ((k' + 1 : Nat) : Int), rfl, fin hg2⟩
    · rw [decide_eq_false hz]
      cases o with
      | none =>
        have hg2 : goes k' l = goes l0.length l0 := by
          rw [← hg]
          conv => rhs; unfold goes
          rw [ho]
        refine iteT ⟨fun σ' H'' => σ' = [some (.ref L2), some (.int (((k' + 1 : Nat) : Int) - 1))] ∧ H'' = H3, fun σ' H'' z => ⟨k', Nat.lt_succ_self k', l, by rw [z.1, hi1], by rw [z.2]; exact s3, by rw [z.2]; exact f2, hl, by omega, hg2⟩, ?_⟩
        refine ⟨.int ((k' + 1 : Nat) : Int), rfl, ((k' + 1 : Nat) : Int), 1, rfl, rfl, .ref L2, rfl, .int (((k' + 1 : Nat) : Int) - 1), rfl, L2, _, ((k' + 1 : Nat) : Int) - 1, optV none, rfl, rfl, SqL.of f2, by rw [hi1]; exact atI_nat (ix ho), _, rfl, iteF ⟨rfl, rfl⟩⟩
      | some j =>
        have hj0 : j ≠ 0 := fun z => hz (by rw [z])
        have hg2 : goes k' (l.set k' (some (j - 1))) = goes l0.length l0 := by
          rw [← hg]
          conv => rhs; unfold goes
          rw [ho]
          exact (if_neg hj0).symm
        refine iteT ⟨fun σ' H'' => σ' = [some (.ref L2), some (.int (((k' + 1 : Nat) : Int) - 1))] ∧ H'' = upd H3 L2 (.lst ((l.set k' (some (j - 1))).map optV)), fun σ' H'' z => ⟨k', Nat.lt_succ_self k', l.set k' (some (j - 1)), by rw [z.1, hi1], by rw [z.2]; exact fun b hb => by rw [upd_ne hb]; exact s3 b hb, by rw [z.2]; exact upd_same, by rw [List.length_set]; exact hl, by omega, hg2⟩, ?_⟩
        refine ⟨.int ((k' + 1 : Nat) : Int), rfl, ((k' + 1 : Nat) : Int), 1, rfl, rfl, .ref L2, rfl, .int (((k' + 1 : Nat) : Int) - 1), rfl, L2, _, ((k' + 1 : Nat) : Int) - 1, optV (some j), rfl, rfl, SqL.of f2, by rw [hi1]; exact atI_nat (ix ho), _, rfl, iteT ?_⟩
        refine ⟨.ref L2, rfl, .int (((k' + 1 : Nat) : Int) - 1), rfl, L2, _, k', optV (some j), rfl, by rw [hi1], SqL.of f2, ix ho, j, 1, rfl, rfl, L2, _, (k' : Int), k', rfl, by rw [hi1], f2, ixN_nat (by rw [List.length_map]; exact hk'), rfl, ?_⟩
        rw [List.map_set]
        first | rfl | exact ⟨rfl, rfl⟩
end
/-- people by their numbers, as values -/
def ppl (xs : List Nat) : List V := xs.map fun x : Nat => V.int (x : Int)
theorem ppl_len (xs : List Nat) : (ppl xs).length = xs.length := List.length_map ..
theorem ppl_get {xs : List Nat} {i : Nat} (h : i < xs.length) : (ppl xs)[i]? = some (.int (xs[i] : Int)) := by
  unfold ppl
  rw [List.getElem?_map, List.getElem?_eq_getElem h]
  rfl
theorem small1000 {n : Nat} (h : n < 1000) : n < sizeLine := by
  have : 1000 ≤ sizeLine := by decide
  omega
theorem seq_nat {n j : Nat} (h : j < n) : seqIndex? (j : Int) n = some j := by
  unfold seqIndex?
  have h1 : ¬ ((j : Int) < 0) := by omega
  simp [h1, h]
theorem bump_snoc : ∀ (ys ps : List Nat) (y : Nat), bump ps (ys ++ [y]) = (bump ps ys).set y ((bump ps ys).getD y 0 + 1)
  | [], ps, y => rfl
  | x :: ys, ps, y => bump_snoc ys _ y
/-! ### the class, and a line's places -/
structure LnT (K : PySem.W.Frag) (mg : Str → Option Value) (C : Addr) : Prop where
  cl : Cls K C
  n_pe : NoAttr K C "people"
  n_re : NoAttr K C "rest"
  n_pa : NoAttr K C "past"
  n_se : NoAttr K C "served"
  n_de : NoAttr K C "deeds"
  mgC : mg "Line" = some (.ref C)
structure LnA where
  o : Addr
  pe : Addr
  re : Addr
  pa : Addr
  se : Addr
  de : Addr
def LnA.has (L : LnA) (b : Addr) : Prop := b = L.pe ∨ b = L.re ∨ b = L.pa ∨ b = L.se ∨ b = L.de
structure Flds (fs : List (Str × V)) (L : LnA) : Prop where
  pe : fs.lookup ("people" : Str) = some (V.ref L.pe)
  re : fs.lookup ("rest" : Str) = some (V.ref L.re)
  pa : fs.lookup ("past" : Str) = some (V.ref L.pa)
  se : fs.lookup ("served" : Str) = some (V.ref L.se)
  de : fs.lookup ("deeds" : Str) = some (V.ref L.de)
  no : ∀ m : Str, m ≠ "people" → m ≠ "rest" → m ≠ "past" → m ≠ "served" → m ≠ "deeds" → fs.lookup m = none
def ServV (H : Hp) (v : V) (x : Nat × Option Int) : Prop := ∃ t, v = .ref t ∧ H t = some (.tup [.int (x.1 : Int), optV x.2])
def DeedV (H : Hp) (v : V) : Deed → Prop
  | .come p => ∃ t, v = .ref t ∧ H t = some (.tup [.str "come", optV p])
  | .serve => ∃ t, v = .ref t ∧ H t = some (.tup [.str "serve"])
inductive All2 {α : Type} (R : V → α → Prop) : List V → List α → Prop
  | nil : All2 R [] []
  | cons {v : V} {x : α} {vs : List V} {xs : List α} : R v x → All2 R vs xs → All2 R (v :: vs) (x :: xs)
theorem All2.length {α : Type} {R : V → α → Prop} : ∀ {vs : List V} {xs : List α}, All2 R vs xs → vs.length = xs.length
  | _, _, .nil => rfl
  | _, _, .cons _ t => congrArg (· + 1) (All2.length t)
theorem All2.imp {α : Type} {R R' : V → α → Prop} (h : ∀ v x, R v x → R' v x) : ∀ {vs : List V} {xs : List α}, All2 R vs xs → All2 R' vs xs
  | _, _, .nil => .nil
  | _, _, .cons a t => .cons (h _ _ a) (All2.imp h t)
theorem All2.snoc {α : Type} {R : V → α → Prop} : ∀ {vs : List V} {xs : List α} {v : V} {x : α}, All2 R vs xs → R v x → All2 R (vs ++ [v]) (xs ++ [x])
  | _, _, _, _, .nil, h => .cons h .nil
  | _, _, _, _, .cons a t, h => .cons a (All2.snoc t h)
structure LineAt (C : Addr) (H : Hp) (L : LnA) (s : LS) : Prop where
  ob : ∃ dx fs, H L.o = some (.ins C dx fs) ∧ Flds fs L
  pe : H L.pe = some (.lst (ppl s.xs))
  re : H L.re = some (.lst (s.rs.map optV))
  pa : H L.pa = some (.lst (ppl s.ps))
  se : ∃ vs, H L.se = some (.lst vs) ∧ All2 (ServV H) vs s.sv
  de : ∃ vs, H L.de = some (.lst vs) ∧ All2 (DeedV H) vs s.ds
  nd : [L.pe, L.re, L.pa, L.se, L.de].Nodup
  ok : s.Ok
/-- all but a line's own lists stays -/
structure MvL (L : LnA) (H H' : Hp) : Prop where
  keep : ∀ b o, ¬ L.has b → H b = some o → H' b = some o
theorem MvL.refl (L : LnA) (H : Hp) : MvL L H H := ⟨fun _ _ _ h => h⟩
theorem MvL.trans {L : LnA} {H H1 H2 : Hp} (a : MvL L H H1) (b : MvL L H1 H2) : MvL L H H2 := ⟨fun c o n h => b.keep c o n (a.keep c o n h)⟩
theorem MvL.of {L : LnA} {H H' : Hp} (s : Same H H') : MvL L H H' := ⟨fun b o _ h => s b o h⟩
theorem MvL.upd {L : LnA} {H H' : Hp} {p : Addr} {o : HO} (m : MvL L H H') (h : L.has p) : MvL L H (L2.upd H' p o) := ⟨fun b x nb e => by
  rw [upd_ne fun z => nb (by rw [z]; exact h)]
  exact m.keep b x nb e⟩
theorem MvL.new {L : LnA} {H H' : Hp} {p : Addr} {o : HO} (m : MvL L H H') (h : H' p = none) : MvL L H (L2.upd H' p o) := m.trans (MvL.of (same_upd h))
section
variable {C : Addr} {H H' : Hp} {L : LnA} {s : LS}
theorem LineAt.isl (h : LineAt C H L s) {b : Addr} (hb : L.has b) : ∃ vs, H b = some (.lst vs) := by
  rcases hb with rfl | rfl | rfl | rfl | rfl
  · exact ⟨_, h.pe⟩
  · exact ⟨_, h.re⟩
  · exact ⟨_, h.pa⟩
  · obtain ⟨vs, e, _⟩ := h.se; exact ⟨vs, e⟩
  · obtain ⟨vs, e, _⟩ := h.de; exact ⟨vs, e⟩
theorem LineAt.nol (h : LineAt C H L s) {b : Addr} {o : HO} (e : H b = some o) (n : ∀ vs, o ≠ .lst vs) : ¬ L.has b := fun hb => by
  obtain ⟨vs, z⟩ := h.isl hb
  rw [e] at z
  exact n vs (Option.some.inj z)
theorem ServV.kx {v : V} {x : Nat × Option Int} (k : ∀ t ys, H t = some (.tup ys) → H' t = some (.tup ys)) (h : ServV H v x) : ServV H' v x := by
  obtain ⟨t, e, q⟩ := h
  exact ⟨t, e, k t _ q⟩
theorem DeedV.kx {v : V} {d : Deed} (k : ∀ t ys, H t = some (.tup ys) → H' t = some (.tup ys)) (h : DeedV H v d) : DeedV H' v d := by
  cases d with
  | come p => obtain ⟨t, e, q⟩ := h; exact ⟨t, e, k t _ q⟩
  | serve => obtain ⟨t, e, q⟩ := h; exact ⟨t, e, k t _ q⟩
/-- a line whose own places stay, stays -/
theorem LineAt.kx (h : LineAt C H L s) (k : ∀ b o, (L.has b ∨ ∀ vs, o ≠ .lst vs) → H b = some o → H' b = some o) : LineAt C H' L s := by
  obtain ⟨dx, fs, ho, hf⟩ := h.ob
  obtain ⟨vs, e1, a1⟩ := h.se
  obtain ⟨ws, e2, a2⟩ := h.de
  have kt : ∀ t ys, H t = some (.tup ys) → H' t = some (.tup ys) := fun t ys e => k t _ (.inr fun _ => nofun) e
  exact ⟨⟨dx, fs, k _ _ (.inr fun _ => nofun) ho, hf⟩, k _ _ (.inl (.inl rfl)) h.pe, k _ _ (.inl (.inr (.inl rfl))) h.re, k _ _ (.inl (.inr (.inr (.inl rfl)))) h.pa, ⟨vs, k _ _ (.inl (.inr (.inr (.inr (.inl rfl))))) e1, a1.imp fun _ _ => ServV.kx kt⟩, ⟨ws, k _ _ (.inl (.inr (.inr (.inr (.inr rfl))))) e2, a2.imp fun _ _ => DeedV.kx kt⟩, h.nd, h.ok⟩
theorem LineAt.same (h : LineAt C H L s) (m : Same H H') : LineAt C H' L s := h.kx fun b o _ e => m b o e
/-- one line's deeds are nothing to another one -/
theorem LineAt.other {C' : Addr} {L' : LnA} {s' : LS} (h : LineAt C H L s) (h' : LineAt C' H L' s') (d : ∀ b, L.has b → ¬ L'.has b) (m : MvL L' H H') : LineAt C H' L s := h.kx fun b o hb e => m.keep b o (hb.elim (d b) (h'.nol e)) e
theorem nodup5 {a b c d e : Addr} (h : [a, b, c, d, e].Nodup) : a ≠ b ∧ a ≠ c ∧ a ≠ d ∧ a ≠ e ∧ b ≠ c ∧ b ≠ d ∧ b ≠ e ∧ c ≠ d ∧ c ≠ e ∧ d ≠ e := by
  simp only [List.nodup_cons, List.mem_cons, List.not_mem_nil, or_false, not_or, List.nodup_nil, and_true] at h
  obtain ⟨⟨h1, h2, h3, h4⟩, ⟨h5, h6, h7⟩, ⟨h8, h9⟩, h10, _⟩ := h
  exact ⟨h1, h2, h3, h4, h5, h6, h7, h8, h9, h10⟩
end
/-! ### what each method promises -/
def spInit (C : Addr) : Sp := fun vs H Q _ => ∃ o dx, vs = [.ref o] ∧ H o = some (.ins C dx []) ∧ ∀ (L : LnA) H', L.o = o → (∀ b, L.has b → H b = none) → LineAt C H' L LS.nil → (∀ b x, b ≠ o → H b = some x → H' b = some x) → Q .non H'
def spComeM (C : Addr) : Sp := fun vs H Q _ => ∃ (L : LnA) (s : LS) (p : Option Int), vs = [.ref L.o, optV p] ∧ LineAt C H L s ∧ isPatience (optD p) = true ∧ s.ps.length ≤ 400 ∧ ∀ H', LineAt C H' L (comeS s p) → MvL L H H' → Q (.int (s.ps.length : Int)) H'
def spServeM (C : Addr) : Sp := fun vs H Q _ => ∃ (L : LnA) (s : LS) (x : Nat) (xs : List Nat), vs = [.ref L.o] ∧ LineAt C H L s ∧ s.xs = x :: xs ∧ s.ps.length ≤ 400 ∧ ∀ H' r, s.rs.head? = some r → LineAt C H' L (serveS s x r) → MvL L H H' → Q (.int (x : Int)) H'
def spQueM (C : Addr) : Sp := fun vs H Q _ => ∃ (L : LnA) (s : LS), vs = [.ref L.o] ∧ LineAt C H L s ∧ ∀ p, H p = none → Q (.ref p) (upd H p (.lst (ppl s.xs)))
def spLeftM (C : Addr) : Sp := fun vs H Q _ => ∃ (L : LnA) (s : LS), vs = [.ref L.o] ∧ LineAt C H L s ∧ ∀ p, H p = none → Q (.ref p) (upd H p (.lst (s.rs.map optV)))
def spWentM (C : Addr) : Sp := fun vs H Q _ => ∃ (L : LnA) (s : LS) (x : Nat) (h : x < s.ps.length), vs = [.ref L.o, .int (x : Int)] ∧ LineAt C H L s ∧ ∀ H', Same H H' → Q (.int (s.ps[x] : Int)) H'
def spLenM (C : Addr) : Sp := fun vs H Q _ => ∃ (L : LnA) (s : LS), vs = [.ref L.o] ∧ LineAt C H L s ∧ Q (.int (s.xs.length : Int)) H
theorem init_one {K : PySem.W.Frag} {D : Ends} {σ : L2.St} {G : Hp} {o C dx : Addr} {fs : List (Str × V)} {f : Str} {n : Nat} (h0 : σ[0]? = some (some (.ref o))) (ho : G o = some (.ins C dx fs)) (hc : Cls K C) (hn : NoAttr K C f) (hl : fs.length ≤ n) (h9 : n < 900)
    (q : ∀ p, G p = none → ∀ G', G' o = some (.ins C dx (putF f (.ref p) fs)) → G' p = some (.lst []) → (∀ b x, b ≠ o → G b = some x → G' b = some x) → (putF f (.ref p) fs).length ≤ n + 1 → D.nx σ G') : sFld K (tVar 0) (tLst tNil) f D σ G := by
  refine ⟨Nat.zero_le _, fun p np => ?_⟩
  have hpo : p ≠ o := fun z => by rw [z, ho] at np; cases np
  refine ⟨.ref o, h0, o, C, dx, fs, rfl, by rw [upd_ne (Ne.symm hpo)]; exact ho, hc, hn, by omega, q p np _ upd_same (by rw [upd_ne hpo]; exact upd_same) (fun b x hb e => ?_) (Nat.le_trans (length_putF _ _ _) (Nat.succ_le_succ hl))⟩
  rw [upd_ne hb, upd_ne (ne_of_none e np)]
  exact e
theorem nameq : (("people" : Str) ≠ "rest" ∧ ("people" : Str) ≠ "past" ∧ ("people" : Str) ≠ "served" ∧ ("people" : Str) ≠ "deeds") ∧ (("rest" : Str) ≠ "past" ∧ ("rest" : Str) ≠ "served" ∧ ("rest" : Str) ≠ "deeds") ∧ (("past" : Str) ≠ "served" ∧ ("past" : Str) ≠ "deeds") ∧ ("served" : Str) ≠ "deeds" := by decide +kernel
section
variable {P : Program} {w : World} {K : PySem.W.Frag} {mg : Str → Option Value} {base : Heap} {C : Addr}
theorem ok_init {f : Addr} {fd : FuncData} (F : Fun K "__init__" "Line.__init__" sInit f fd) (T : LnT K mg C) : FnOk P w K mg base CX0 1 f fd ["self"] (spInit C) := by
  refine F.ok scInit (fun vs H Q E ⟨o, dx, e, _⟩ => by rw [e]; rfl) (fun cdv A outer s H vs Q E hr h => ?_)
  obtain ⟨o, dx, rfl, ho, q⟩ := h
  refine ⟨_, (pss_cons (ps_fld (pv 0) (pe_lst pa_nil) rfl) (pss_cons (ps_fld (pv 0) (pe_lst pa_nil) rfl) (pss_cons (ps_fld (pv 0) (pe_lst pa_nil) rfl) (pss_cons (ps_fld (pv 0) (pe_lst pa_nil) rfl) (pss_one (ps_fld (pv 0) (pe_lst pa_nil) rfl)))))), ?_⟩
  refine init_one (o := o) rfl ho T.cl T.n_pe (Nat.le_refl 0) (by decide) fun p1 n1 G1 a1 b1 k1 l1 => ?_
  refine init_one (o := o) rfl a1 T.cl T.n_re l1 (by decide) fun p2 n2 G2 a2 b2 k2 l2 => ?_
  refine init_one (o := o) rfl a2 T.cl T.n_pa l2 (by decide) fun p3 n3 G3 a3 b3 k3 l3 => ?_
  refine init_one (o := o) rfl a3 T.cl T.n_se l3 (by decide) fun p4 n4 G4 a4 b4 k4 l4 => ?_
  refine init_one (o := o) rfl a4 T.cl T.n_de l4 (by decide) fun p5 n5 G5 a5 b5 k5 l5 => ?_
  have ne : ∀ {G : Hp} {p q : Addr} {vs : List V}, G p = some (.lst vs) → G q = none → p ≠ q := fun {G p q vs} e n z => by rw [z, n] at e; cases e
  have no : ∀ {G : Hp} {p : Addr} {fs : List (Str × V)}, G o = some (.ins C dx fs) → G p = none → p ≠ o := fun {G p fs} e n z => by rw [z, e] at n; cases n
  have o1 := no ho n1
  have o2 := no a1 n2
  have o3 := no a2 n3
  have o4 := no a3 n4
  have o5 := no a4 n5
  have b12 := k2 _ _ o1 b1
  have b13 := k3 _ _ o1 b12
  have b14 := k4 _ _ o1 b13
  have b15 := k5 _ _ o1 b14
  have b23 := k3 _ _ o2 b2
  have b24 := k4 _ _ o2 b23
  have b25 := k5 _ _ o2 b24
  have b34 := k4 _ _ o3 b3
  have b35 := k5 _ _ o3 b34
  have b45 := k5 _ _ o4 b4
  have fr : ∀ {G G' : Hp} {p : Addr}, p ≠ o → (∀ b x, b ≠ o → G b = some x → G' b = some x) → G' p = none → G p = none := fun {G G' p} hp k n => by
    cases z : G p with
    | none => rfl
    | some x => rw [k p x hp z] at n; cases n
  have m2 := fr o2 k1 n2
  have m3 := fr o3 k1 (fr o3 k2 n3)
  have m4 := fr o4 k1 (fr o4 k2 (fr o4 k3 n4))
  have m5 := fr o5 k1 (fr o5 k2 (fr o5 k3 (fr o5 k4 n5)))
  obtain ⟨⟨q1, q2, q3, q4⟩, ⟨q5, q6, q7⟩, ⟨q8, q9⟩, q10⟩ := nameq
  refine q ⟨o, p1, p2, p3, p4, p5⟩ G5 rfl (fun b hb => ?_) ⟨⟨dx, _, a5, ?_⟩, b15, b25, b35, ⟨[], b45, .nil⟩, ⟨[], b5, .nil⟩, ?_, nil_ok⟩ fun b x hb e => k5 b x hb (k4 b x hb (k3 b x hb (k2 b x hb (k1 b x hb e))))
  · rcases hb with rfl | rfl | rfl | rfl | rfl
    · exact n1
    · exact m2
    · exact m3
    · exact m4
    · exact m5
  · refine ⟨?_, ?_, ?_, ?_, ?_, fun m h1 h2 h3 h4 h5 => ?_⟩
    · rw [lookup_putF, if_neg q4, lookup_putF, if_neg q3, lookup_putF, if_neg q2, lookup_putF, if_neg q1, lookup_putF, if_pos rfl]
    · rw [lookup_putF, if_neg q7, lookup_putF, if_neg q6, lookup_putF, if_neg q5, lookup_putF, if_pos rfl]
    · rw [lookup_putF, if_neg q9, lookup_putF, if_neg q8, lookup_putF, if_pos rfl]
    · rw [lookup_putF, if_neg q10, lookup_putF, if_pos rfl]
    · rw [lookup_putF, if_pos rfl]
    · rw [lookup_putF, if_neg h5, lookup_putF, if_neg h4, lookup_putF, if_neg h3, lookup_putF, if_neg h2, lookup_putF, if_neg h1]
      rfl
  · have c12 : p1 ≠ p2 := ne b1 n2
    have c13 : p1 ≠ p3 := ne b12 n3
    have c14 : p1 ≠ p4 := ne b13 n4
    have c15 : p1 ≠ p5 := ne b14 n5
    have c23 : p2 ≠ p3 := ne b2 n3
    have c24 : p2 ≠ p4 := ne b23 n4
    have c25 : p2 ≠ p5 := ne b24 n5
    have c34 : p3 ≠ p4 := ne b3 n4
    have c35 : p3 ≠ p5 := ne b34 n5
    have c45 : p4 ≠ p5 := ne b4 n5
    simp [c12, c13, c14, c15, c23, c24, c25, c34, c35, c45]
theorem ok_comeM {f : Addr} {fd : FuncData} (F : Fun K "come" "Line.come" sComeM f fd) (hT : Nm mg) (T : LnT K mg C) (CP : Cal P w K mg base 2 "is_patience" ["thing"] (spOne isPatience)) (CL : Cal P w K mg base 1 "let_past" ["left"] spLet) : FnOk P w K mg base CX0 3 f fd ["self", "patience"] (spComeM C) := by
  refine F.ok scComeM (fun vs H Q E ⟨L, s, p, e, _⟩ => by rw [e]; rfl) (fun cdv A outer s H vs Q E hr h => ?_)
  obtain ⟨L, s, p, rfl, hL, hp, hn, q⟩ := h
  have nd := scComeM.nd
  refine ⟨_, (pss_cons (ps_if (pt_not (pt_val (pe_cal CP (hr.mono (by decide)) (by rfl) (pa_cons (pv 1) pa_nil)))) (pss_one ps_never) pss_nil)
      (pss_cons (ps_set (i := 2) nd rfl (.inl rfl) (pe_callB call_len_seq (by rfl) hT.len PySem.boot_len (pa_cons (pe_fld (pv 0) rfl) pa_nil)))
      (pss_cons (ps_set (i := 3) nd rfl (.inl rfl) (pe_cal CL (hr.mono (by decide)) (by rfl) (pa_cons (pe_fld (pv 0) rfl) pa_nil)))
      (pss_cons (ps_for PassesOwn.never rfl (pi_list (pe_slice sl_list (pe_fld (pv 0) rfl) (po_some (pv 3)) po_none)) (pg_name (i := 4) nd rfl (.inl rfl)) (pss_one (ps_augS (pe_fld (pv 0) rfl) (pv 4) get_list pe_int ip_add set_list)))
      (pss_cons (ps_expr (pe_bm PySem.F.plainAttrs_list PySem.F.slot_list_insert PySem.F.type_list_insert mt_insert (pe_fld (pv 0) rfl) (pa_cons (pv 3) (pa_cons (pv 2) pa_nil))))
      (pss_cons (ps_expr (pe_bm PySem.F.plainAttrs_list PySem.F.slot_list_insert PySem.F.type_list_insert mt_insert (pe_fld (pv 0) rfl) (pa_cons (pv 3) (pa_cons (pv 1) pa_nil))))
      (pss_cons (ps_expr (pe_bm PySem.F.plainAttrs_list PySem.F.slot_list_append PySem.F.type_list_append mt_append (pe_fld (pv 0) rfl) (pa_cons pe_int pa_nil)))
      (pss_cons (ps_expr (pe_bm PySem.F.plainAttrs_list PySem.F.slot_list_append PySem.F.type_list_append mt_append (pe_fld (pv 0) rfl) (pa_cons (pe_tup (pa_cons pe_str (pa_cons (pv 1) pa_nil))) pa_nil)))
      (pss_one (ps_ret (pv 2))))))))))), ?_⟩
  obtain ⟨d1, d2, d3, d4, d5, d6, d7, d8, d9, d10⟩ := nodup5 hL.nd
  have ok := hL.ok
  have hxl : s.xs.length ≤ 400 := by have := ok.tot; omega
  have hrl : s.rs.length ≤ 400 := by rw [← ok.len]; exact hxl
  have hdl : s.ds.length ≤ 800 := by have := ok.dl; have := ok.tot; omega
  refine ⟨optV p, rfl, optV p, optD p, rfl, rp_opt2 p, fun H1 s1 => ⟨_, rfl, ?_⟩⟩
  rw [hp]
  refine iteF ?_
  have hL1 := hL.same s1
  obtain ⟨⟨dx, fs, hob, hf⟩, e_pe, e_re, e_pa, ⟨vs, e_se, a_se⟩, ⟨ws, e_de, a_de⟩, _, _⟩ := hL1
  refine ⟨.ref L.o, rfl, L.o, C, dx, fs, .ref L.pa, rfl, hob, T.cl, T.n_pa, hf.pa, L.pa, _, rfl, .inl (SqL.of e_pa), ?_⟩
  rw [ppl_len]
  refine ⟨.ref L.o, rfl, L.o, C, dx, fs, .ref L.re, rfl, hob, T.cl, T.n_re, hf.re, L.re, s.rs, rfl, e_re, by omega, fun H2 k2 f2 => ?_⟩
  obtain ⟨g1, g2⟩ := goes_le s.rs.length s.rs
  have hk : s.k ≤ s.xs.length := by rw [ok.len]; exact g1
  show tSeq _ _ _ [some (.ref L.o), some (optV p), some (.int (s.ps.length : Int)), some (.int (s.k : Int)), none] H2
  have nli : ∀ {b : Addr} {o : HO} {vs : List V}, H1 b = some o → (∀ vs, o ≠ .lst vs) → H1 L.re = some (.lst vs) → b ≠ L.re := fun {b o vs} e n e2 z => by rw [z, e2] at e; exact n _ (Option.some.inj e).symm
  have hob2 : H2 L.o = some (.ins C dx fs) := by rw [k2 _ (nli hob (fun _ => nofun) e_re)]; exact hob
  have e_pe2 : H2 L.pe = some (.lst (ppl s.xs)) := by rw [k2 _ d1]; exact e_pe
  have e_pa2 : H2 L.pa = some (.lst (ppl s.ps)) := by rw [k2 _ (Ne.symm d5)]; exact e_pa
  have e_se2 : H2 L.se = some (.lst vs) := by rw [k2 _ (Ne.symm d6)]; exact e_se
  have e_de2 : H2 L.de = some (.lst ws) := by rw [k2 _ (Ne.symm d7)]; exact e_de
  have m2 : MvL L H H2 := (MvL.of s1).trans ⟨fun b o nb e => by rw [k2 b fun z => nb (.inr (.inl z))]; exact e⟩
  have kt2 : ∀ t ys, H1 t = some (.tup ys) → H2 t = some (.tup ys) := fun t ys e => by rw [k2 t (nli e (fun _ => nofun) e_re)]; exact e
  refine ⟨.ref L.o, rfl, L.o, C, dx, fs, .ref L.pe, rfl, hob2, T.cl, T.n_pe, hf.pe, .int (s.k : Int), rfl, (s.k : Int), rfl, L.pe, _, rfl, SqL.of e_pe2, fun D nD => ?_⟩
  rw [cut_from]
  have ed : (ppl s.xs).drop s.k = ppl (s.xs.drop s.k) := List.map_drop.symm
  rw [ed]
  have sD : Same H2 (upd H2 D (.lst (ppl (s.xs.drop s.k)))) := same_upd nD
  have eD : (upd H2 D (.lst (ppl (s.xs.drop s.k)))) D = some (.lst (ppl (s.xs.drop s.k))) := upd_same
  have nDpa : D ≠ L.pa := fun z => by rw [z, e_pa2] at nD; cases nD
  generalize upd H2 D (.lst (ppl (s.xs.drop s.k))) = H3 at sD eD
  refine ⟨D, rfl, ⟨_, SqL.of eD⟩, for_list (xs := ppl (s.xs.drop s.k)) (fun i σ G => (∃ y, σ = [some (.ref L.o), some (optV p), some (.int (s.ps.length : Int)), some (.int (s.k : Int)), y]) ∧ (∀ b, b ≠ L.pa → G b = H3 b) ∧ G L.pa = some (.lst (ppl (bump s.ps ((s.xs.drop s.k).take i)))))
    ⟨⟨_, rfl⟩, fun _ _ => rfl, sD _ _ e_pa2⟩ (fun i σ G _ ⟨_, k, _⟩ => SqL.of (by rw [k _ nDpa]; exact eD)) (fun i x σ G hx hP => ?_) (fun σ G hP => ?_)⟩
  · obtain ⟨⟨y, rfl⟩, kG, eG⟩ := hP
    have il : i < (s.xs.drop s.k).length := by rw [← ppl_len]; exact (List.getElem?_eq_some_iff.mp hx).1
    rw [ppl_get il] at hx
    obtain rfl := (Option.some.inj hx).symm
    have hsn : (s.xs.drop s.k).take (i + 1) = (s.xs.drop s.k).take i ++ [(s.xs.drop s.k)[i]] := by rw [List.take_add_one, List.getElem?_eq_getElem il]; rfl
    have hlt : (s.xs.drop s.k)[i] < s.ps.length := ok.lt _ (List.mem_of_mem_drop (List.getElem_mem il))
    rw [hsn, bump_snoc]
    have hbl := bump_len ((s.xs.drop s.k).take i) s.ps
    generalize bump s.ps ((s.xs.drop s.k).take i) = ps at eG hbl
    generalize (s.xs.drop s.k)[i] = y at hlt
    have hob3 : G L.o = some (.ins C dx fs) := by rw [kG _ (fun z => by rw [z, e_pa2] at hob2; cases hob2)]; exact sD _ _ hob2
    have hg : (ppl ps)[y]? = some (.int ((ps.getD y 0 : Nat) : Int)) := by
      rw [ppl_get (by omega)]
      rw [List.getD_eq_getElem?_getD, List.getElem?_eq_getElem (by omega)]
      rfl
    refine ⟨.ref L.o, rfl, L.o, C, dx, fs, .ref L.pa, rfl, hob3, T.cl, T.n_pa, hf.pa, .int (y : Int), rfl, L.pa, _, y, _, rfl, rfl, SqL.of eG, hg, _, 1, rfl, rfl, L.pa, _, (y : Int), y, rfl, rfl, eG, ixN_nat (by rw [ppl_len]; omega), ⟨_, rfl⟩, fun b nb => by rw [upd_ne nb]; exact kG b nb, ?_⟩
    rw [upd_same]
    unfold ppl
    rw [List.map_set]
    rfl
  · obtain ⟨⟨y, rfl⟩, kG, eG⟩ := hP
    rw [ppl_len, List.take_length] at eG
    have up : ∀ {b : Addr} {o : HO}, b ≠ L.pa → H2 b = some o → G b = some o := fun {b o} n e => by rw [kG b n]; exact sD _ _ e
    have hob3 : G L.o = some (.ins C dx fs) := up (fun z => by rw [z, e_pa2] at hob2; cases hob2) hob2
    have e_pe3 := up d2 e_pe2
    have e_re3 := up d5 f2
    have e_se3 := up (Ne.symm d8) e_se2
    have e_de3 := up (Ne.symm d9) e_de2
    have m3 : MvL L H G := m2.trans ⟨fun b o nb e => up (fun z => nb (.inr (.inr (.inl z)))) e⟩
    have kt3 : ∀ t ys, H2 t = some (.tup ys) → G t = some (.tup ys) := fun t ys e => up (fun z => by rw [z, e_pa2] at e; cases e) e
    have b1 : bump s.ps (s.xs.drop s.k) = bump s.ps (s.xs.drop s.k) := rfl
    have hbl := bump_len (s.xs.drop s.k) s.ps
    -- self.people.insert(place, newcomer)
    refine ⟨.ref L.o, rfl, L.o, C, dx, fs, .ref L.pe, rfl, hob3, T.cl, T.n_pe, hf.pe, .inl ⟨rfl, _, SqL.of e_pe3⟩, .int (s.k : Int), rfl, .int (s.ps.length : Int), rfl, L.pe, _, (s.k : Int), _, rfl, rfl, e_pe3, by rw [ppl_len]; exact small1000 (by omega), by omega, by omega, ?_⟩
    have ei : (ppl s.xs).take (s.k : Int).toNat ++ [V.int (s.ps.length : Int)] ++ (ppl s.xs).drop (s.k : Int).toNat = ppl (comeS s p).xs := by
      show _ = ppl (s.xs.take s.k ++ s.ps.length :: s.xs.drop s.k)
      unfold ppl
      rw [List.map_append, List.map_cons, List.map_take, List.map_drop, List.append_assoc]
      rfl
    rw [ei]
    have q_pe4 : (upd G L.pe (.lst (ppl (comeS s p).xs))) L.pe = some (.lst (ppl (comeS s p).xs)) := upd_same
    have k4 : ∀ b, b ≠ L.pe → (upd G L.pe (.lst (ppl (comeS s p).xs))) b = G b := fun b n => upd_ne n
    have m4 := m3.upd (o := .lst (ppl (comeS s p).xs)) (.inl rfl)
    generalize upd G L.pe (.lst (ppl (comeS s p).xs)) = G4 at q_pe4 k4 m4
    have hob4 : G4 L.o = some (.ins C dx fs) := by rw [k4 _ (fun z => by rw [z, e_pe3] at hob3; cases hob3)]; exact hob3
    have e_re4 : G4 L.re = _ := (k4 _ (Ne.symm d1)).trans e_re3
    -- self.rest.insert(place, patience)
    refine ⟨.ref L.o, rfl, L.o, C, dx, fs, .ref L.re, rfl, hob4, T.cl, T.n_re, hf.re, .inl ⟨rfl, _, SqL.of e_re4⟩, .int (s.k : Int), rfl, optV p, rfl, L.re, _, (s.k : Int), _, rfl, rfl, e_re4, by rw [List.length_map, g2]; exact small1000 (by omega), by omega, by omega, ?_⟩
    have er : ((goes s.rs.length s.rs).2.map optV).take (s.k : Int).toNat ++ [optV p] ++ ((goes s.rs.length s.rs).2.map optV).drop (s.k : Int).toNat = (comeS s p).rs.map optV := by
      show _ = ((goes s.rs.length s.rs).2.take s.k ++ p :: (goes s.rs.length s.rs).2.drop s.k).map optV
      rw [List.map_append, List.map_cons, List.map_take, List.map_drop, List.append_assoc]
      rfl
    rw [er]
    have q_re5 : (upd G4 L.re (.lst ((comeS s p).rs.map optV))) L.re = some (.lst ((comeS s p).rs.map optV)) := upd_same
    have k5 : ∀ b, b ≠ L.re → (upd G4 L.re (.lst ((comeS s p).rs.map optV))) b = G4 b := fun b n => upd_ne n
    have m5 := m4.upd (o := .lst ((comeS s p).rs.map optV)) (.inr (.inl rfl))
    generalize upd G4 L.re (.lst ((comeS s p).rs.map optV)) = G5 at q_re5 k5 m5
    have hob5 : G5 L.o = some (.ins C dx fs) := by rw [k5 _ (fun z => by rw [z, e_re4] at hob4; cases hob4)]; exact hob4
    have e_pa5 : G5 L.pa = _ := (k5 _ (Ne.symm d5)).trans ((k4 _ (Ne.symm d2)).trans eG)
    -- self.past.append(0)
    refine ⟨.ref L.o, rfl, L.o, C, dx, fs, .ref L.pa, rfl, hob5, T.cl, T.n_pa, hf.pa, .inl ⟨rfl, _, SqL.of e_pa5⟩, L.pa, _, _, rfl, rfl, e_pa5, by rw [ppl_len, hbl]; exact small1000 (by omega), ?_⟩
    have ep : ppl (bump s.ps (s.xs.drop s.k)) ++ [V.int 0] = ppl (comeS s p).ps := by
      show _ = ppl (bump s.ps (s.xs.drop s.k) ++ [0])
      unfold ppl
      rw [List.map_append]
      rfl
    rw [ep]
    have q_pa6 : (upd G5 L.pa (.lst (ppl (comeS s p).ps))) L.pa = some (.lst (ppl (comeS s p).ps)) := upd_same
    have k6 : ∀ b, b ≠ L.pa → (upd G5 L.pa (.lst (ppl (comeS s p).ps))) b = G5 b := fun b n => upd_ne n
    have m6 := m5.upd (o := .lst (ppl (comeS s p).ps)) (.inr (.inr (.inl rfl)))
    generalize upd G5 L.pa (.lst (ppl (comeS s p).ps)) = G6 at q_pa6 k6 m6
    have hob6 : G6 L.o = some (.ins C dx fs) := by rw [k6 _ (fun z => by rw [z, e_pa5] at hob5; cases hob5)]; exact hob5
    have e_de6 : G6 L.de = some (.lst ws) := (k6 _ (Ne.symm d9)).trans ((k5 _ (Ne.symm d7)).trans ((k4 _ (Ne.symm d4)).trans e_de3))
    have e_se6 : G6 L.se = some (.lst vs) := (k6 _ (Ne.symm d8)).trans ((k5 _ (Ne.symm d6)).trans ((k4 _ (Ne.symm d3)).trans e_se3))
    have e_pe6 : G6 L.pe = _ := (k6 _ d2).trans ((k5 _ d1).trans q_pe4)
    have e_re6 : G6 L.re = _ := (k6 _ d5).trans q_re5
    have kt6 : ∀ t ys, H1 t = some (.tup ys) → G6 t = some (.tup ys) := fun t ys e => by
      have e3 := kt3 _ _ (kt2 _ _ e)
      have n1 : t ≠ L.pe := fun z => by rw [z, e_pe3] at e3; cases e3
      have n2 : t ≠ L.re := fun z => by rw [z, e_re3] at e3; cases e3
      have n3 : t ≠ L.pa := fun z => by rw [z, eG] at e3; cases e3
      exact (k6 _ n3).trans ((k5 _ n2).trans ((k4 _ n1).trans e3))
    -- self.deeds.append(("come", patience))
    refine ⟨.ref L.o, rfl, L.o, C, dx, fs, .ref L.de, rfl, hob6, T.cl, T.n_de, hf.de, .inl ⟨rfl, _, SqL.of e_de6⟩, optV p, rfl, small_le (by show 2 ≤ 1000; decide), fun t nt => ⟨L.de, ws, .ref t, rfl, rfl, (same_upd nt) _ _ e_de6, by rw [a_de.length]; exact small1000 (by omega), ?_⟩⟩
    have st : Same G6 (upd G6 t (.tup [.str "come", optV p])) := same_upd nt
    have et : (upd G6 t (.tup [.str "come", optV p])) t = some (.tup [.str "come", optV p]) := upd_same
    have m7 := m6.new (o := .tup [.str "come", optV p]) nt
    generalize upd G6 t (.tup [.str "come", optV p]) = G7 at st et m7
    have ntd : t ≠ L.de := fun z => by rw [z, e_de6] at nt; cases nt
    have kt8 : ∀ t' ys, G7 t' = some (.tup ys) → (upd G7 L.de (.lst (ws ++ [.ref t]))) t' = some (.tup ys) := fun t' ys e => by
      rw [upd_ne (fun z => by rw [z, st _ _ e_de6] at e; cases e)]; exact e
    refine ⟨_, rfl, q _ ⟨⟨dx, fs, ?_, hf⟩, ?_, ?_, ?_, ⟨vs, ?_, a_se.imp fun _ _ => ServV.kx fun t' ys e => kt8 _ _ (st _ _ (kt6 _ _ e))⟩, ⟨ws ++ [.ref t], upd_same, All2.snoc (a_de.imp fun _ _ => DeedV.kx fun t' ys e => kt8 _ _ (st _ _ (kt6 _ _ e))) ⟨t, rfl, kt8 _ _ et⟩⟩, hL.nd, ok.come p⟩ (m7.upd (.inr (.inr (.inr (.inr rfl)))))⟩
    · rw [upd_ne (fun z => by rw [z, e_de6] at hob6; cases hob6)]; exact st _ _ hob6
    · rw [upd_ne d4]; exact st _ _ e_pe6
    · rw [upd_ne d7]; exact st _ _ e_re6
    · rw [upd_ne d9]; exact st _ _ q_pa6
    · rw [upd_ne d10]; exact st _ _ e_se6
end
end CL
set_option Elab.async false
set_option linter.all false
set_option maxRecDepth 100000
set_option maxHeartbeats 4000000
namespace CL
open PySem PySem.Spec PyProof.Rows L2 GE
/-- len(x) of an instance whose class has a __len__ of its own -/
theorem call_lenOwn {X : Cx} {C f : Addr} {fd : FuncData} {ps : List Str} {k : Nat} {CX : CXT} {E : XK} {sp : Sp} (F : FnOk X.prog X.w X.K X.mg X.base CX k f fd ps sp) (hr : Room (k + 1) X.A)
    (hs : PySem.W.findIn X.K (.ref C) "__len__" = some (some (.ref f))) (hf : PySem.W.isFn X.K (.ref f) = true) (hb : Binds X.K fd ps []) (hx : Passes CX X E) :
    CallR X (.builtin "len") (fun xs H Q => ∃ a dx fs, xs = [.ref a] ∧ H a = some (.ins C dx fs) ∧ sp [.ref a] H (fun v H' => ∃ n : Nat, v = .int (n : Int) ∧ n < 2 ^ 62 ∧ Q (.int (n : Int)) H') E) := by
  intro pins s σ H xs us Q I r h
  obtain ⟨a, dx, fs, rfl, ha, hsp⟩ := h
  obtain ⟨u, rfl, ru⟩ := vals1 r
  obtain rfl : u = Value.ref a := ru
  obtain ⟨mA, J, _⟩ := ins_get I.hok ha
  obtain ⟨od, J, _⟩ := J.look
  obtain ⟨m, hF⟩ := I.fr
  refine PySem.W.len_K hF I.ok.mod.kin J hs hf ?_
  have e0 : Env0 X.prog X.w X.K X.mg X.base X.A.in1 X.stack s H := by
    have e := I.env0
    exact ⟨e.frames, e.mod, e.bs, e.bsz, e.funs, e.frf, e.hok, e.bare⟩
  have hl := F.len _ _ _ _ hsp
  refine wpAny_call (codeAny_mono (F.run X.A.in1 X.stack s H ⟨[.ref a], []⟩ [.ref a] [.ref a] _ E hr.in1 e0 (by
    have := hb s [.ref a] I.kIn (by simpa using hl)
    simpa using this) (.cons rfl .nil) hsp) fun r s' hq => ?_)
  cases r with
  | error e => exact hx pins σ H s e s' I hq
  | ok fl =>
    cases fl with
    | ret w =>
      obtain ⟨z, H', I', rz, n, ez, hn, q⟩ := I.after hq
      subst ez
      obtain ⟨t, rfl⟩ := rz
      exact ⟨⟨Int.natCast_nonneg n, by omega⟩, .int (n : Int), H', I'.tok _, ⟨_, rfl⟩, q⟩
    | next => exact False.elim hq
    | brk => exact False.elim hq
    | cont => exact False.elim hq
section
variable {P : Program} {w : World} {K : PySem.W.Frag} {mg : Str → Option Value} {base : Heap} {C : Addr}
theorem ok_serveM {f : Addr} {fd : FuncData} (F : Fun K "serve" "Line.serve" sServeM f fd) (T : LnT K mg C) : FnOk P w K mg base CX0 1 f fd ["self"] (spServeM C) := by
  refine F.ok scServeM (fun vs H Q E ⟨L, s, x, xs, e, _⟩ => by rw [e]; rfl) (fun cdv A outer s H vs Q E hr h => ?_)
  obtain ⟨L, s, x, xs, rfl, hL, hx, hn, q⟩ := h
  have nd := scServeM.nd
  refine ⟨_, (pss_cons (ps_if (pt_not (pt_truth (pe_fld (pv 0) rfl) (by intro _; rfl))) (pss_one ps_never) pss_nil)
      (pss_cons (ps_set (i := 1) nd rfl (.inl rfl) (pe_bm PySem.F.plainAttrs_list PySem.F.slot_list_pop PySem.F.type_list_pop mt_popAt (pe_fld (pv 0) rfl) (pa_cons pe_int pa_nil)))
      (pss_cons (ps_expr (pe_bm PySem.F.plainAttrs_list PySem.F.slot_list_append PySem.F.type_list_append mt_append (pe_fld (pv 0) rfl) (pa_cons (pe_tup (pa_cons (pv 1) (pa_cons (pe_bm PySem.F.plainAttrs_list PySem.F.slot_list_pop PySem.F.type_list_pop mt_popAt (pe_fld (pv 0) rfl) (pa_cons pe_int pa_nil)) pa_nil))) pa_nil)))
      (pss_cons (ps_expr (pe_bm PySem.F.plainAttrs_list PySem.F.slot_list_append PySem.F.type_list_append mt_append (pe_fld (pv 0) rfl) (pa_cons (pe_tup (pa_cons pe_str pa_nil)) pa_nil)))
      (pss_one (ps_ret (pv 1))))))), ?_⟩
  obtain ⟨d1, d2, d3, d4, d5, d6, d7, d8, d9, d10⟩ := nodup5 hL.nd
  have ok := hL.ok
  have hxl : s.xs.length ≤ 400 := by have := ok.tot; omega
  have hdl : s.ds.length ≤ 800 := by have := ok.dl; have := ok.tot; omega
  have hsl : s.sv.length ≤ 400 := by have := ok.tot; omega
  obtain ⟨r, rs, hr'⟩ : ∃ r rs, s.rs = r :: rs := by
    have hlen := ok.len
    rw [hx, List.length_cons] at hlen
    cases z : s.rs with
    | nil => rw [z] at hlen; cases hlen
    | cons r rs => exact ⟨r, rs, rfl⟩
  obtain ⟨⟨dx, fs, hob, hf⟩, e_pe, e_re, e_pa, ⟨vs, e_se, a_se⟩, ⟨ws, e_de, a_de⟩, _, _⟩ := id hL
  rw [hx] at e_pe
  rw [hr'] at e_re
  refine ⟨.ref L.o, rfl, L.o, C, dx, fs, .ref L.pe, rfl, hob, T.cl, T.n_pe, hf.pe, true, .inl ⟨_, SqL.of e_pe, rfl⟩, ?_⟩
  refine iteF ?_
  refine ⟨.ref L.o, rfl, L.o, C, dx, fs, .ref L.pe, rfl, hob, T.cl, T.n_pe, hf.pe, .inl ⟨rfl, _, SqL.of e_pe⟩, L.pe, _, 0, 0, .int (x : Int), rfl, rfl, e_pe, by decide, by decide, seq_nat (j := 0) (Nat.succ_pos _), rfl, ?_⟩
  have ep : (ppl (x :: xs)).eraseIdx 0 = ppl (serveS s x r).xs := by
    show ppl xs = ppl s.xs.tail
    rw [hx]
    rfl
  rw [ep]
  have q_pe1 : (upd H L.pe (.lst (ppl (serveS s x r).xs))) L.pe = some (.lst (ppl (serveS s x r).xs)) := upd_same
  have k1 : ∀ b, b ≠ L.pe → (upd H L.pe (.lst (ppl (serveS s x r).xs))) b = H b := fun b n => upd_ne n
  have m1 := (MvL.refl L H).upd (o := .lst (ppl (serveS s x r).xs)) (.inl rfl)
  dsimp only [gName]
  show tSeq _ _ _ [some (.ref L.o), some (.int (x : Int))] (upd H L.pe (.lst (ppl (serveS s x r).xs)))
  generalize upd H L.pe (.lst (ppl (serveS s x r).xs)) = G1 at q_pe1 k1 m1
  have hob1 : G1 L.o = some (.ins C dx fs) := by rw [k1 _ (fun z => by rw [z, e_pe] at hob; cases hob)]; exact hob
  have e_se1 : G1 L.se = some (.lst vs) := (k1 _ (Ne.symm d3)).trans e_se
  have e_re1 : G1 L.re = _ := (k1 _ (Ne.symm d1)).trans e_re
  -- self.served.append((person, self.rest.pop(0)))
  refine ⟨.ref L.o, rfl, L.o, C, dx, fs, .ref L.se, rfl, hob1, T.cl, T.n_se, hf.se, .inl ⟨rfl, _, SqL.of e_se1⟩, .int (x : Int), rfl, .ref L.o, rfl, L.o, C, dx, fs, .ref L.re, rfl, hob1, T.cl, T.n_re, hf.re, .inl ⟨rfl, _, SqL.of e_re1⟩, L.re, _, 0, 0, optV r, rfl, rfl, e_re1, by decide, by decide, seq_nat (j := 0) (Nat.succ_pos _), rfl, ?_⟩
  have er : ((r :: rs).map optV).eraseIdx 0 = (serveS s x r).rs.map optV := by
    show rs.map optV = s.rs.tail.map optV
    rw [hr']
    rfl
  rw [er]
  have q_re2 : (upd G1 L.re (.lst ((serveS s x r).rs.map optV))) L.re = some (.lst ((serveS s x r).rs.map optV)) := upd_same
  have k2 : ∀ b, b ≠ L.re → (upd G1 L.re (.lst ((serveS s x r).rs.map optV))) b = G1 b := fun b n => upd_ne n
  have m2 := m1.upd (o := .lst ((serveS s x r).rs.map optV)) (.inr (.inl rfl))
  generalize upd G1 L.re (.lst ((serveS s x r).rs.map optV)) = G2 at q_re2 k2 m2
  have hob2 : G2 L.o = some (.ins C dx fs) := by rw [k2 _ (fun z => by rw [z, e_re1] at hob1; cases hob1)]; exact hob1
  have e_se2 : G2 L.se = some (.lst vs) := (k2 _ (Ne.symm d6)).trans e_se1
  refine ⟨small_le (by show 2 ≤ 1000; decide), fun t nt => ⟨L.se, vs, .ref t, rfl, rfl, (same_upd nt) _ _ e_se2, by rw [a_se.length]; exact small1000 (by omega), ?_⟩⟩
  have st : Same G2 (upd G2 t (.tup [.int (x : Int), optV r])) := same_upd nt
  have et : (upd G2 t (.tup [.int (x : Int), optV r])) t = some (.tup [.int (x : Int), optV r]) := upd_same
  have m3 := m2.new (o := .tup [.int (x : Int), optV r]) nt
  generalize upd G2 t (.tup [.int (x : Int), optV r]) = G3 at st et m3
  have e_se3 := st _ _ e_se2
  have q_se4 : (upd G3 L.se (.lst (vs ++ [.ref t]))) L.se = some (.lst (vs ++ [.ref t])) := upd_same
  have k4 : ∀ b, b ≠ L.se → (upd G3 L.se (.lst (vs ++ [.ref t]))) b = G3 b := fun b n => upd_ne n
  have m4 := m3.upd (o := .lst (vs ++ [.ref t])) (.inr (.inr (.inr (.inl rfl))))
  generalize upd G3 L.se (.lst (vs ++ [.ref t])) = G4 at q_se4 k4 m4
  have up4 : ∀ {b : Addr} {o : HO}, b ≠ L.se → G2 b = some o → G4 b = some o := fun {b o} n e => by rw [k4 b n]; exact st _ _ e
  have hob4 : G4 L.o = some (.ins C dx fs) := up4 (fun z => by rw [z, e_se2] at hob2; cases hob2) hob2
  have e_de4 : G4 L.de = some (.lst ws) := up4 (Ne.symm d10) ((k2 _ (Ne.symm d7)).trans ((k1 _ (Ne.symm d4)).trans e_de))
  have e_pa4 : G4 L.pa = _ := up4 d8 ((k2 _ (Ne.symm d5)).trans ((k1 _ (Ne.symm d2)).trans e_pa))
  have e_pe4 : G4 L.pe = _ := up4 d3 ((k2 _ d1).trans q_pe1)
  have e_re4 : G4 L.re = _ := up4 d6 q_re2
  have kt4 : ∀ t ys, H t = some (.tup ys) → G4 t = some (.tup ys) := fun t ys e => by
    have n1 : t ≠ L.pe := fun z => by rw [z, e_pe] at e; cases e
    have n2 : t ≠ L.re := fun z => by rw [z, e_re] at e; cases e
    have n3 : t ≠ L.se := fun z => by rw [z, e_se] at e; cases e
    exact up4 n3 ((k2 _ n2).trans ((k1 _ n1).trans e))
  have et4 : G4 t = some (.tup [.int (x : Int), optV r]) := by rw [k4 t (fun z => by rw [z, e_se3] at et; cases et)]; exact et
  have a4 := All2.snoc (a_se.imp fun _ _ => ServV.kx (H' := G4) fun t' ys e => kt4 _ _ e) (v := .ref t) (x := (x, r)) ⟨t, rfl, et4⟩
  -- self.deeds.append(("serve",))
  refine ⟨.ref L.o, rfl, L.o, C, dx, fs, .ref L.de, rfl, hob4, T.cl, T.n_de, hf.de, .inl ⟨rfl, _, SqL.of e_de4⟩, small_le (by show 1 ≤ 1000; decide), fun t' nt' => ⟨L.de, ws, .ref t', rfl, rfl, (same_upd nt') _ _ e_de4, by rw [a_de.length]; exact small1000 (by omega), ?_⟩⟩
  have st' : Same G4 (upd G4 t' (.tup [.str "serve"])) := same_upd nt'
  have et' : (upd G4 t' (.tup [.str "serve"])) t' = some (.tup [.str "serve"]) := upd_same
  have m5 := m4.new (o := .tup [.str "serve"]) nt'
  generalize upd G4 t' (.tup [.str "serve"]) = G5 at st' et' m5
  have kt8 : ∀ t' ys, G5 t' = some (.tup ys) → (upd G5 L.de (.lst (ws ++ [.ref t']))) t' = some (.tup ys) := fun t' ys e => by
    rw [upd_ne (fun z => by rw [z, st' _ _ e_de4] at e; cases e)]; exact e
  have kt8' : ∀ u ys, G5 u = some (.tup ys) → (upd G5 L.de (.lst (ws ++ [.ref t']))) u = some (.tup ys) := fun u ys e => by
    rw [upd_ne (fun z => by rw [z, st' _ _ e_de4] at e; cases e)]; exact e
  refine ⟨_, rfl, q _ r (by rw [hr']; rfl) ⟨⟨dx, fs, ?_, hf⟩, ?_, ?_, ?_, ⟨vs ++ [.ref t], ?_, a4.imp fun _ _ => ServV.kx fun u ys e => kt8' _ _ (st' _ _ e)⟩, ⟨ws ++ [.ref t'], upd_same, All2.snoc (a_de.imp fun _ _ => DeedV.kx fun u ys e => kt8' _ _ (st' _ _ (kt4 _ _ e))) ⟨t', rfl, kt8' _ _ et'⟩⟩, hL.nd, ok.serve hx⟩ (m5.upd (.inr (.inr (.inr (.inr rfl)))))⟩
  · rw [upd_ne (fun z => by rw [z, e_de4] at hob4; cases hob4)]; exact st' _ _ hob4
  · rw [upd_ne d4]; exact st' _ _ e_pe4
  · rw [upd_ne d7]; exact st' _ _ e_re4
  · rw [upd_ne d9]; exact st' _ _ e_pa4
  · rw [upd_ne d10]; exact st' _ _ q_se4
theorem ok_queM {f : Addr} {fd : FuncData} (F : Fun K "queue" "Line.queue" sQueM f fd) (hT : Nm mg) (T : LnT K mg C) : FnOk P w K mg base CX0 1 f fd ["self"] (spQueM C) := by
  refine F.ok scQueM (fun vs H Q E ⟨L, s, e, _⟩ => by rw [e]; rfl) (fun cdv A outer s H vs Q E hr h => ?_)
  obtain ⟨L, s, rfl, hL, q⟩ := h
  refine ⟨_, pss_one (ps_ret (pe_callTy call_list_of (by rfl) hT.list (by decide +kernel) (pa_cons (pe_fld (pv 0) rfl) pa_nil))), ?_⟩
  obtain ⟨⟨dx, fs, hob, hf⟩, e_pe, e_re, _⟩ := id hL
  exact ⟨.ref L.o, rfl, L.o, C, dx, fs, .ref L.pe, rfl, hob, T.cl, T.n_pe, hf.pe, L.pe, _, rfl, .inl (SqL.of e_pe), fun p np => q p np⟩
theorem ok_leftM {f : Addr} {fd : FuncData} (F : Fun K "left" "Line.left" sLeftM f fd) (hT : Nm mg) (T : LnT K mg C) : FnOk P w K mg base CX0 1 f fd ["self"] (spLeftM C) := by
  refine F.ok scLeftM (fun vs H Q E ⟨L, s, e, _⟩ => by rw [e]; rfl) (fun cdv A outer s H vs Q E hr h => ?_)
  obtain ⟨L, s, rfl, hL, q⟩ := h
  refine ⟨_, pss_one (ps_ret (pe_callTy call_list_of (by rfl) hT.list (by decide +kernel) (pa_cons (pe_fld (pv 0) rfl) pa_nil))), ?_⟩
  obtain ⟨⟨dx, fs, hob, hf⟩, e_pe, e_re, _⟩ := id hL
  exact ⟨.ref L.o, rfl, L.o, C, dx, fs, .ref L.re, rfl, hob, T.cl, T.n_re, hf.re, L.re, _, rfl, .inl (SqL.of e_re), fun p np => q p np⟩
theorem ok_wentM {f : Addr} {fd : FuncData} (F : Fun K "went_past" "Line.went_past" sWentM f fd) (hT : Nm mg) (T : LnT K mg C) (CW : Cal P w K mg base 1 "is_whole" ["thing"] (spOne isWhole)) : FnOk P w K mg base CX0 2 f fd ["self", "person"] (spWentM C) := by
  refine F.ok scWentM (fun vs H Q E ⟨L, s, x, hx, e, _⟩ => by rw [e]; rfl) (fun cdv A outer s H vs Q E hr h => ?_)
  obtain ⟨L, s, x, hx, rfl, hL, q⟩ := h
  refine ⟨_, pss_cons (ps_if (PW.pt (pw_or (pt_not (pt_val (pe_cal CW hr (by rfl) (pa_cons (pv 1) pa_nil)))) (pw_or1 (pt_not (pt_chain op_le op_lt pe_int (pv 1) (pe_callB call_len_seq (by rfl) hT.len PySem.boot_len (pa_cons (pe_fld (pv 0) rfl) pa_nil))))))) (pss_one ps_never) pss_nil)
    (pss_one (ps_ret (pe_ix ix_list (pe_fld (pv 0) rfl) (pv 1) (fun _ _ => rfl)))), ?_⟩
  refine ⟨.int (x : Int), rfl, .int (x : Int), .int (x : Int), rfl, .int _, fun H1 s1 => ⟨true, rfl, ?_⟩⟩
  have hL1 := hL.same s1
  obtain ⟨⟨dx, fs, hob, hf⟩, e_pe, e_re, e_pa, _⟩ := hL1
  refine iteF ⟨.int (x : Int), rfl, 0, (x : Int), rfl, rfl, decide ((0 : Int) ≤ (x : Int)), rfl, ?_⟩
  rw [decide_eq_true (Int.natCast_nonneg x)]
  refine iteT ⟨.ref L.o, rfl, L.o, C, dx, fs, .ref L.pa, rfl, hob, T.cl, T.n_pa, hf.pa, L.pa, _, rfl, .inl (SqL.of e_pa), (x : Int), _, rfl, rfl, decide ((x : Int) < ((ppl s.ps).length : Int)), rfl, ?_⟩
  rw [decide_eq_true (by rw [ppl_len]; omega)]
  refine iteF ⟨.ref L.o, rfl, L.o, C, dx, fs, .ref L.pa, rfl, hob, T.cl, T.n_pa, hf.pa, .int (x : Int), rfl, L.pa, _, (x : Int), _, rfl, rfl, SqL.of e_pa, atI_nat (ppl_get hx), q H1 s1⟩
theorem ok_lenM {f : Addr} {fd : FuncData} (F : Fun K "__len__" "Line.__len__" sLenM f fd) (hT : Nm mg) (T : LnT K mg C) : FnOk P w K mg base CX0 1 f fd ["self"] (spLenM C) := by
  refine F.ok scLenM (fun vs H Q E ⟨L, s, e, _⟩ => by rw [e]; rfl) (fun cdv A outer s H vs Q E hr h => ?_)
  obtain ⟨L, s, rfl, hL, q⟩ := h
  refine ⟨_, pss_one (ps_ret (pe_callB call_len_seq (by rfl) hT.len PySem.boot_len (pa_cons (pe_fld (pv 0) rfl) pa_nil))), ?_⟩
  obtain ⟨⟨dx, fs, hob, hf⟩, e_pe, e_re, _⟩ := id hL
  refine ⟨.ref L.o, rfl, L.o, C, dx, fs, .ref L.pe, rfl, hob, T.cl, T.n_pe, hf.pe, L.pe, _, rfl, .inl (SqL.of e_pe), ?_⟩
  rw [ppl_len]
  exact q
end
end CL
set_option Elab.async false
set_option linter.all false
set_option maxRecDepth 100000
set_option maxHeartbeats 4000000
namespace CL
open PySem PySem.Spec PyProof.Rows L2 GE
/-! ### a newcomer is taken back -/
def dec (o : Option Int) : Option Int := o.map (· - 1)
theorem goes_e0 {p : Nat} {l : List (Option Int)} (q : l[p]? = some (some 0)) : goes (p + 1) l = (p + 1, l) := by
  unfold goes
  rw [q]
  rfl
theorem goes_eN {p : Nat} {l : List (Option Int)} (q : l[p]? = some none) : goes (p + 1) l = goes p l := by
  conv => lhs; unfold goes
  rw [q]
theorem goes_eX {p : Nat} {l : List (Option Int)} (q : l[p]? = none) : goes (p + 1) l = (p + 1, l) := by
  unfold goes
  rw [q]
theorem goes_eS {p : Nat} {l : List (Option Int)} {v : Int} (q : l[p]? = some (some v)) (hv : v ≠ 0) : goes (p + 1) l = goes p (l.set p (some (v - 1))) := by
  conv => lhs; unfold goes
  rw [q]
  exact if_neg hv
theorem goes_at : ∀ (p : Nat) (l : List (Option Int)) (j : Nat), (goes p l).2[j]? = if (goes p l).1 ≤ j ∧ j < p then (l[j]?).map dec else l[j]?
  | 0, l, j => by rw [if_neg (by omega)]; rfl
  | p + 1, l, j => by
    cases q : l[p]? with
    | none =>
      rw [goes_eX q]
      dsimp only
      rw [if_neg (by omega)]
    | some o =>
      cases o with
      | none =>
        rw [goes_eN q, goes_at p l j]
        have hk := (goes_le p l).1
        by_cases e : j = p
        · subst e
          rw [if_neg (by omega), if_pos ⟨hk, Nat.lt_succ_self _⟩, q]
          rfl
        · by_cases h : (goes p l).1 ≤ j ∧ j < p
          · rw [if_pos h, if_pos ⟨h.1, by omega⟩]
          · rw [if_neg h, if_neg (by omega)]
      | some v =>
        by_cases hv : v = 0
        · subst hv
          rw [goes_e0 q]
          dsimp only
          rw [if_neg (by omega)]
        · rw [goes_eS q hv]
          have hlt := (List.getElem?_eq_some_iff.mp q).1
          have hk := (goes_le p (l.set p (some (v - 1)))).1
          rw [goes_at p (l.set p (some (v - 1))) j]
          by_cases e : j = p
          · subst e
            rw [if_neg (by omega), if_pos ⟨hk, Nat.lt_succ_self _⟩, q, List.getElem?_set, if_pos rfl, if_pos hlt]
            rfl
          · rw [List.getElem?_set, if_neg (Ne.symm e)]
            by_cases h : (goes p (l.set p (some (v - 1)))).1 ≤ j ∧ j < p
            · rw [if_pos h, if_pos ⟨h.1, by omega⟩]
            · rw [if_neg h, if_neg (by omega)]
theorem goes_take (s : LS) : (goes s.rs.length s.rs).2.take s.k = s.rs.take s.k := by
  refine List.ext_getElem? fun j => ?_
  rw [List.getElem?_take, List.getElem?_take]
  by_cases h : j < s.k
  · rw [if_pos h, if_pos h, goes_at, if_neg (fun z => ?_)]
    have : s.k ≤ j := z.1
    omega
  · rw [if_neg h, if_neg h]
theorem goes_behind (s : LS) {j : Nat} (h1 : s.k ≤ j) (h2 : j < s.rs.length) : (goes s.rs.length s.rs).2[j]? = some (dec s.rs[j]) := by
  rw [goes_at, if_pos ⟨h1, h2⟩, List.getElem?_eq_getElem h2]
  rfl
def part (R R' : List (Option Int)) (m : Nat) : List (Option Int) := R.take m ++ R'.drop m
theorem part_len {R R' : List (Option Int)} {m : Nat} (hl : R'.length = R.length) (hm : m ≤ R.length) : (part R R' m).length = R.length := by
  unfold part
  rw [List.length_append, List.length_take, List.length_drop]
  omega
theorem part_get {R R' : List (Option Int)} {m : Nat} (hm : m < R.length) (hl : R'.length = R.length) : (part R R' m)[m]? = R'[m]? := by
  unfold part
  rw [List.getElem?_append_right (by rw [List.length_take]; omega), List.length_take, Nat.min_eq_left (by omega), Nat.sub_self, List.getElem?_drop]
  rfl
theorem part_set {R R' : List (Option Int)} {m : Nat} (hm : m < R.length) (hl : R'.length = R.length) : (part R R' m).set m R[m] = part R R' (m + 1) := by
  refine List.ext_getElem? fun j => ?_
  have hpl := part_len (m := m) hl (by omega)
  unfold part at *
  rw [List.getElem?_set]
  by_cases e : m = j
  · subst e
    rw [if_pos rfl, if_pos (by omega), List.getElem?_append_left (by rw [List.length_take]; omega), List.getElem?_take, if_pos (Nat.lt_succ_self _), List.getElem?_eq_getElem hm]
  · rw [if_neg e]
    rcases Nat.lt_or_ge j m with z | z
    · rw [List.getElem?_append_left (by rw [List.length_take]; omega), List.getElem?_append_left (by rw [List.length_take]; omega), List.getElem?_take, List.getElem?_take, if_pos z, if_pos (by omega)]
    · rw [List.getElem?_append_right (by rw [List.length_take]; omega), List.getElem?_append_right (by rw [List.length_take]; omega), List.length_take, List.length_take, Nat.min_eq_left (by omega), Nat.min_eq_left (by omega), List.getElem?_drop, List.getElem?_drop]
      congr 1
      omega
theorem part_same {R R' : List (Option Int)} {m : Nat} (hm : m < R.length) (hl : R'.length = R.length) (e : R'[m]? = some R[m]) : part R R' m = part R R' (m + 1) := by
  rw [← part_set hm hl]
  refine List.ext_getElem? fun j => ?_
  rw [List.getElem?_set]
  by_cases z : m = j
  · subst z
    have hpl := part_len (m := m) hl (by omega)
    rw [if_pos rfl, if_pos (by omega), part_get hm hl, e]
  · rw [if_neg z]
theorem bump_comm : ∀ (ys ps : List Nat) (y : Nat), y < ps.length → bump (ps.set y (ps.getD y 0 + 1)) ys = (bump ps ys).set y ((bump ps ys).getD y 0 + 1)
  | [], ps, y, _ => rfl
  | z :: ys, ps, y, hy => by
    show bump ((ps.set y (ps.getD y 0 + 1)).set z ((ps.set y (ps.getD y 0 + 1)).getD z 0 + 1)) ys = (bump (ps.set z (ps.getD z 0 + 1)) ys).set y ((bump (ps.set z (ps.getD z 0 + 1)) ys).getD y 0 + 1)
    rw [← bump_comm ys (ps.set z (ps.getD z 0 + 1)) y (by rw [List.length_set]; exact hy)]
    congr 1
    by_cases e : y = z
    · subst e; rfl
    · have g1 : (ps.set y (ps.getD y 0 + 1)).getD z 0 = ps.getD z 0 := by
        simp [List.getD_eq_getElem?_getD, List.getElem?_set, e]
      have g2 : (ps.set z (ps.getD z 0 + 1)).getD y 0 = ps.getD y 0 := by
        simp [List.getD_eq_getElem?_getD, List.getElem?_set, Ne.symm e]
      rw [g1, g2, List.set_comm _ _ e]
theorem bump_back {ys ps : List Nat} {y : Nat} (hy : y < ps.length) : (bump ps (y :: ys))[y]? = some ((bump ps ys).getD y 0 + 1) ∧ (bump ps (y :: ys)).set y ((bump ps ys).getD y 0) = bump ps ys := by
  have hl := bump_len ys ps
  have e : bump ps (y :: ys) = (bump ps ys).set y ((bump ps ys).getD y 0 + 1) := bump_comm ys ps y hy
  rw [e]
  refine ⟨by rw [List.getElem?_set, if_pos rfl, if_pos (by omega)], ?_⟩
  rw [List.set_set]
  refine List.ext_getElem? fun j => ?_
  rw [List.getElem?_set]
  by_cases z : y = j
  · subst z
    rw [if_pos rfl, if_pos (by omega), List.getD_eq_getElem?_getD, List.getElem?_eq_getElem (by omega)]
    rfl
  · rw [if_neg z]
/-! ### what deeds come to -/
def stepS (s : LS) : Deed → LS
  | .come p => comeS s p
  | .serve => serveS s (s.xs.headD 0) (s.rs.headD none)
def stF (ds : List Deed) : LS := ds.foldl stepS LS.nil
theorem stF_snoc (ds : List Deed) (d : Deed) : stF (ds ++ [d]) = stepS (stF ds) d := by
  unfold stF
  rw [List.foldl_append]
  rfl
theorem stepS_ds (s : LS) (d : Deed) : (stepS s d).ds = s.ds ++ [d] := by cases d <;> rfl
theorem foldl_ds : ∀ (ds : List Deed) (s : LS), (ds.foldl stepS s).ds = s.ds ++ ds
  | [], s => (List.append_nil _).symm
  | d :: ds, s => by
    show (ds.foldl stepS (stepS s d)).ds = _
    rw [foldl_ds ds, stepS_ds, List.append_assoc]
    rfl
theorem stF_ds (ds : List Deed) : (stF ds).ds = ds := foldl_ds ds LS.nil
def Vd (ds : List Deed) : Prop := ∀ pre post, ds = pre ++ .serve :: post → (stF pre).xs ≠ []
theorem vd_nil : Vd [] := fun pre post e => by cases pre <;> cases e
theorem Vd.pre {ds es : List Deed} (h : Vd (ds ++ es)) : Vd ds := fun pre post e => h pre (post ++ es) (by rw [e]; simp)
theorem Vd.come {ds : List Deed} (h : Vd ds) (p : Option Int) : Vd (ds ++ [.come p]) := fun pre post e => by
  rcases List.eq_nil_or_concat post with z | ⟨post', d, z⟩
  · subst z
    have := List.append_inj_right' e rfl
    cases this
  · rw [List.concat_eq_append] at z
    subst z
    have e2 : ds ++ [.come p] = (pre ++ .serve :: post') ++ [d] := by rw [e]; simp
    exact h pre post' (List.append_inj_left' e2 rfl)
theorem Vd.serve {ds : List Deed} (h : Vd ds) (n : (stF ds).xs ≠ []) : Vd (ds ++ [.serve]) := fun pre post e => by
  rcases List.eq_nil_or_concat post with z | ⟨post', d, z⟩
  · subst z
    have := List.append_inj_left' e rfl
    rw [← this]
    exact n
  · rw [List.concat_eq_append] at z
    subst z
    have e2 : ds ++ [.serve] = (pre ++ .serve :: post') ++ [d] := by rw [e]; simp
    exact h pre post' (List.append_inj_left' e2 rfl)
theorem Vd.last {ds : List Deed} (h : Vd (ds ++ [.serve])) : (stF ds).xs ≠ [] := h ds [] rfl
theorem Vd.ok : ∀ {ds : List Deed}, Vd ds → (stF ds).Ok := by
  intro ds
  induction hn : ds.length generalizing ds with
  | zero =>
    intro _
    rw [List.eq_nil_of_length_eq_zero hn]
    exact nil_ok
  | succ n ih =>
    intro h
    rcases List.eq_nil_or_concat ds with z | ⟨es, d, z⟩
    · subst z; cases hn
    · rw [List.concat_eq_append] at z
      subst z
      have hes := ih (ds := es) (by rw [List.length_append] at hn; simp at hn; exact hn) h.pre
      rw [stF_snoc]
      cases d with
      | come p => exact hes.come p
      | serve =>
        have hx := h.last
        cases q : (stF es).xs with
        | nil => exact absurd q hx
        | cons x xs => exact hes.serve (xs := xs) (by rw [q]; rfl)
end CL
set_option Elab.async false
set_option linter.all false
set_option maxRecDepth 100000
set_option maxHeartbeats 4000000
namespace CL
open PySem PySem.Spec PyProof.Rows L2 GE
abbrev sUndoM : Stmt := inClass sLn 3
abbrev sTakeM : Stmt := inClass sLn 4
abbrev sHistM : Stmt := inClass sLn 8
theorem scUndoM : FnScope ["self", "deed", "person", "patience"] ["self"] (defScope sUndoM) := ⟨rfl, rfl, rfl, by decide +kernel, rfl, by decide +kernel, by decide +kernel⟩
theorem scTakeM : FnScope ["self", "place", "behind"] ["self"] (defScope sTakeM) := ⟨rfl, rfl, rfl, by decide +kernel, rfl, by decide +kernel, by decide +kernel⟩
theorem scHistM : FnScope ["self"] ["self"] (defScope sHistM) := ⟨rfl, rfl, rfl, by decide +kernel, rfl, by decide +kernel, by decide +kernel⟩
def spTakeM (C : Addr) : Sp := fun vs H Q _ => ∃ (L : LnA) (s : LS) (p : Option Int), vs = [.ref L.o] ∧ s.Ok ∧ (∃ dx fs, H L.o = some (.ins C dx fs) ∧ Flds fs L) ∧ H L.pe = some (.lst (ppl (comeS s p).xs)) ∧ H L.re = some (.lst ((comeS s p).rs.map optV)) ∧ H L.pa = some (.lst (ppl (comeS s p).ps)) ∧ [L.pe, L.re, L.pa, L.se, L.de].Nodup ∧ s.ps.length ≤ 400 ∧
  ∀ H', (∀ b, b ≠ L.pe → b ≠ L.re → b ≠ L.pa → H' b = H b) → H' L.pe = some (.lst (ppl s.xs)) → H' L.re = some (.lst (s.rs.map optV)) → H' L.pa = some (.lst (ppl s.ps)) → Q .non H'
def spUndoM (C : Addr) : Sp := fun vs H Q _ => ∃ (L : LnA) (s : LS) (d : Deed), vs = [.ref L.o] ∧ LineAt C H L (stepS s d) ∧ s.Ok ∧ (d = .serve → s.xs ≠ []) ∧ s.ps.length ≤ 400 ∧ ∀ H', LineAt C H' L s → MvL L H H' → Q .non H'
def spHistM (C : Addr) : Sp := fun vs H Q _ => ∃ (L : LnA) (s : LS), vs = [.ref L.o] ∧ LineAt C H L s ∧ ∀ p ws, H p = none → All2 (DeedV H) ws s.ds → Q (.ref p) (upd H p (.lst ws))
theorem ppl_flat : ∀ xs : List Nat, (ppl xs).all flatV = true
  | [] => rfl
  | _ :: xs => ppl_flat xs
theorem All2.unsnoc {α : Type} {R : V → α → Prop} : ∀ {xs : List α} {vs : List V} {x : α}, All2 R vs (xs ++ [x]) → ∃ ws v, vs = ws ++ [v] ∧ All2 R ws xs ∧ R v x
  | [], _, _, .cons h .nil => ⟨[], _, rfl, .nil, h⟩
  | _ :: _, _, _, .cons h t => by
    obtain ⟨ws, v, e, a, r⟩ := All2.unsnoc t
    exact ⟨_ :: ws, v, by rw [e]; rfl, .cons h a, r⟩
theorem erase_map {α β : Type} (f : α → β) : ∀ (l : List α) (j : Nat), (l.map f).eraseIdx j = (l.eraseIdx j).map f
  | [], _ => rfl
  | _ :: _, 0 => rfl
  | a :: l, j + 1 => congrArg (f a :: ·) (erase_map f l j)
theorem last_snoc {α : Type} (ws : List α) (v : α) : (ws ++ [v])[(ws ++ [v]).length - 1]? = some v := by simp
section
variable {P : Program} {w : World} {K : PySem.W.Frag} {mg : Str → Option Value} {base : Heap} {C : Addr}
theorem ok_takeM {f : Addr} {fd : FuncData} (F : Fun K "take_newcomer" "Line.take_newcomer" sTakeM f fd) (hT : Nm mg) (T : LnT K mg C) : FnOk P w K mg base CX0 1 f fd ["self"] (spTakeM C) := by
  refine F.ok scTakeM (fun vs H Q E ⟨L, s, p, e, _⟩ => by rw [e]; rfl) (fun cdv A outer s H vs Q E hr h => ?_)
  obtain ⟨L, s, p, rfl, ok, ⟨dx, fs, hob, hf⟩, e_pe, e_re, e_pa, hnd, hn, q⟩ := h
  have nd := scTakeM.nd
  refine ⟨_, (pss_cons (ps_expr (pe_bm0 PySem.F.plainAttrs_list PySem.F.slot_list_pop PySem.F.type_list_pop mt_pop (pe_fld (pv 0) rfl)))
      (pss_cons (ps_set (i := 1) nd rfl (.inl rfl) (pe_bm PySem.F.plainAttrs_list PySem.F.slot_list_index PySem.F.type_list_index mt_index (pe_fld (pv 0) rfl) (pa_cons (pe_callB call_len_seq (by rfl) hT.len PySem.boot_len (pa_cons (pe_fld (pv 0) rfl) pa_nil)) pa_nil)))
      (pss_cons (ps_delL (pe_fld (pv 0) rfl) (pv 1))
      (pss_cons (ps_delL (pe_fld (pv 0) rfl) (pv 1))
      (pss_one (ps_for PassesOwn.never rfl (pi_range2 (by rfl) hT.range (pa_cons (pv 1) (pa_cons (pe_callB call_len_seq (by rfl) hT.len PySem.boot_len (pa_cons (pe_fld (pv 0) rfl) pa_nil)) pa_nil))) (pg_name (i := 2) nd rfl (.inl rfl)) (pss_cons (ps_augS (pe_fld (pv 0) rfl) (pe_ix ix_list (pe_fld (pv 0) rfl) (pv 2) (fun _ _ => rfl)) get_list pe_int ip_sub set_list)
      (pss_one (ps_if (pt_cmp (pc_notN (pe_ix ix_list (pe_fld (pv 0) rfl) (pv 2) (fun _ _ => rfl)))) (pss_one (ps_augS (pe_fld (pv 0) rfl) (pv 2) get_list pe_int ip_add set_list)) pss_nil))))))))), ?_⟩
  obtain ⟨d1, d2, d3, d4, d5, d6, d7, d8, d9, d10⟩ := nodup5 hnd
  obtain ⟨g1, g2⟩ := goes_le s.rs.length s.rs
  have hxl : s.xs.length ≤ 400 := by have := ok.tot; omega
  have hk : s.k ≤ s.xs.length := by rw [ok.len]; exact g1
  have hxr := ok.len
  -- self.past.pop()
  have ea : ppl (comeS s p).ps = ppl (bump s.ps (s.xs.drop s.k)) ++ [V.int 0] := by
    show ppl (bump s.ps (s.xs.drop s.k) ++ [0]) = _
    unfold ppl
    rw [List.map_append]
    rfl
  rw [ea] at e_pa
  refine ⟨.ref L.o, rfl, L.o, C, dx, fs, .ref L.pa, rfl, hob, T.cl, T.n_pa, hf.pa, .inl ⟨rfl, _, SqL.of e_pa⟩, L.pa, _, _, rfl, rfl, e_pa, last_snoc _ _, ?_⟩
  rw [List.dropLast_concat]
  have q_pa1 : (upd H L.pa (.lst (ppl (bump s.ps (s.xs.drop s.k))))) L.pa = some (.lst (ppl (bump s.ps (s.xs.drop s.k)))) := upd_same
  have k1 : ∀ b, b ≠ L.pa → (upd H L.pa (.lst (ppl (bump s.ps (s.xs.drop s.k))))) b = H b := fun b n => upd_ne n
  generalize upd H L.pa (.lst (ppl (bump s.ps (s.xs.drop s.k)))) = G1 at q_pa1 k1
  have hob1 : G1 L.o = some (.ins C dx fs) := by rw [k1 _ (fun z => by rw [z, e_pa] at hob; cases hob)]; exact hob
  have e_pe1 : G1 L.pe = _ := (k1 _ d2).trans e_pe
  have e_re1 : G1 L.re = _ := (k1 _ d5).trans e_re
  have hbl := bump_len (s.xs.drop s.k) s.ps
  have hnl : (ppl (bump s.ps (s.xs.drop s.k))).length = s.ps.length := by rw [ppl_len, hbl]
  have lt : (s.xs.take s.k).length = s.k := by rw [List.length_take]; omega
  -- place = self.people.index(len(self.past))
  refine ⟨.ref L.o, rfl, L.o, C, dx, fs, .ref L.pe, rfl, hob1, T.cl, T.n_pe, hf.pe, .inl ⟨rfl, _, SqL.of e_pe1⟩, .ref L.o, rfl, L.o, C, dx, fs, .ref L.pa, rfl, hob1, T.cl, T.n_pa, hf.pa, L.pa, _, rfl, .inl (SqL.of q_pa1), L.pe, _, _, s.k, .int (s.ps.length : Int), rfl, rfl, SqL.of e_pe1, rfl, ppl_flat _, ?_, by rw [hnl]; simp [eqV], fun m z' hm hz => ?_, ?_⟩
  · show (ppl (s.xs.take s.k ++ s.ps.length :: s.xs.drop s.k))[s.k]? = _
    unfold ppl
    rw [List.getElem?_map, List.getElem?_append_right (by omega), lt, Nat.sub_self]
    rfl
  · have hz : (ppl (s.xs.take s.k ++ s.ps.length :: s.xs.drop s.k))[m]? = some z' := hz
    unfold ppl at hz
    rw [List.getElem?_map, List.getElem?_append_left (by omega), List.getElem?_take, if_pos hm, List.getElem?_eq_getElem (by omega)] at hz
    obtain rfl := (Option.some.inj hz).symm
    have := ok.lt _ (List.getElem_mem (show m < s.xs.length by omega))
    rw [hnl]
    show (((s.xs[m] : Nat) : Int) == (s.ps.length : Int)) = false
    rw [beq_eq_false_iff_ne]
    omega
  show tSeq _ _ _ [some (.ref L.o), some (.int (s.k : Int)), none] G1
  -- del self.people[place]
  refine ⟨.ref L.o, rfl, L.o, C, dx, fs, .ref L.pe, rfl, hob1, T.cl, T.n_pe, hf.pe, .int (s.k : Int), rfl, L.pe, _, (s.k : Int), s.k, rfl, rfl, e_pe1, by omega, by omega, seq_nat (by rw [ppl_len]; show s.k < (s.xs.take s.k ++ s.ps.length :: s.xs.drop s.k).length; rw [List.length_append, lt, List.length_cons]; omega), ?_⟩
  have ee : (ppl (comeS s p).xs).eraseIdx s.k = ppl s.xs := by
    show (ppl (s.xs.take s.k ++ s.ps.length :: s.xs.drop s.k)).eraseIdx s.k = _
    unfold ppl
    rw [erase_map, List.eraseIdx_append_of_length_le (by omega), lt, Nat.sub_self]
    show (s.xs.take s.k ++ s.xs.drop s.k).map _ = _
    rw [List.take_append_drop]
  rw [ee]
  have q_pe2 : (upd G1 L.pe (.lst (ppl s.xs))) L.pe = some (.lst (ppl s.xs)) := upd_same
  have k2 : ∀ b, b ≠ L.pe → (upd G1 L.pe (.lst (ppl s.xs))) b = G1 b := fun b n => upd_ne n
  generalize upd G1 L.pe (.lst (ppl s.xs)) = G2 at q_pe2 k2
  have hob2 : G2 L.o = some (.ins C dx fs) := by rw [k2 _ (fun z => by rw [z, e_pe1] at hob1; cases hob1)]; exact hob1
  have e_re2 : G2 L.re = _ := (k2 _ (Ne.symm d1)).trans e_re1
  have e_pa2 : G2 L.pa = _ := (k2 _ (Ne.symm d2)).trans q_pa1
  -- del self.rest[place]
  have ltr : ((goes s.rs.length s.rs).2.take s.k).length = s.k := by rw [List.length_take]; omega
  refine ⟨.ref L.o, rfl, L.o, C, dx, fs, .ref L.re, rfl, hob2, T.cl, T.n_re, hf.re, .int (s.k : Int), rfl, L.re, _, (s.k : Int), s.k, rfl, rfl, e_re2, by omega, by omega, seq_nat (by rw [List.length_map]; show s.k < ((goes s.rs.length s.rs).2.take s.k ++ p :: (goes s.rs.length s.rs).2.drop s.k).length; rw [List.length_append, ltr, List.length_cons]; omega), ?_⟩
  have er : ((comeS s p).rs.map optV).eraseIdx s.k = (part s.rs (goes s.rs.length s.rs).2 s.k).map optV := by
    show (((goes s.rs.length s.rs).2.take s.k ++ p :: (goes s.rs.length s.rs).2.drop s.k).map optV).eraseIdx s.k = _
    rw [erase_map, List.eraseIdx_append_of_length_le (by omega), ltr, Nat.sub_self]
    unfold part
    rw [← goes_take]
    rfl
  rw [er]
  have q_re3 : (upd G2 L.re (.lst ((part s.rs (goes s.rs.length s.rs).2 s.k).map optV))) L.re = some (.lst ((part s.rs (goes s.rs.length s.rs).2 s.k).map optV)) := upd_same
  have k3 : ∀ b, b ≠ L.re → (upd G2 L.re (.lst ((part s.rs (goes s.rs.length s.rs).2 s.k).map optV))) b = G2 b := fun b n => upd_ne n
  generalize upd G2 L.re (.lst ((part s.rs (goes s.rs.length s.rs).2 s.k).map optV)) = G3 at q_re3 k3
  have hob3 : G3 L.o = some (.ins C dx fs) := by rw [k3 _ (fun z => by rw [z, e_re2] at hob2; cases hob2)]; exact hob2
  have e_pe3 : G3 L.pe = _ := (k3 _ d1).trans q_pe2
  have e_pa3 : G3 L.pa = _ := (k3 _ (Ne.symm d5)).trans e_pa2
  -- for behind in range(place, len(self.people))
  refine ⟨.int (s.k : Int), rfl, .ref L.o, rfl, L.o, C, dx, fs, .ref L.pe, rfl, hob3, T.cl, T.n_pe, hf.pe, L.pe, _, rfl, .inl (SqL.of e_pe3), (s.k : Int), _, rfl, ⟨by omega, by omega, by rw [ppl_len]; omega, by rw [ppl_len]; omega⟩, ?_⟩
  have hoR : L.o ≠ L.re := fun z => by rw [z, q_re3] at hob3; cases hob3
  have hoP : L.o ≠ L.pa := fun z => by rw [z, e_pa3] at hob3; cases hob3
  refine for_range (lo := (s.k : Int)) (n := (((ppl s.xs).length : Int) - (s.k : Int)).toNat) (fun i σ G => (∃ y, σ = [some (.ref L.o), some (.int (s.k : Int)), y]) ∧ (∀ b, b ≠ L.re → b ≠ L.pa → G b = G3 b) ∧ G L.re = some (.lst ((part s.rs (goes s.rs.length s.rs).2 (s.k + i)).map optV)) ∧ G L.pa = some (.lst (ppl (bump s.ps ((s.xs.drop s.k).drop i)))))
    ⟨⟨_, rfl⟩, fun _ _ _ => rfl, q_re3, e_pa3⟩ (fun i σ G hi hP => ?_) (fun σ G hP => ?_)
  · obtain ⟨⟨y, rfl⟩, kG, eR, eP⟩ := hP
    rw [ppl_len] at hi
    have hi' : s.k + i < s.xs.length := by omega
    have ek : (s.k : Int) + (i : Int) = ((s.k + i : Nat) : Int) := by omega
    rw [ek]
    have hobG : G L.o = some (.ins C dx fs) := (kG _ hoR hoP).trans hob3
    have e_peG : G L.pe = some (.lst (ppl s.xs)) := (kG _ d1 d2).trans e_pe3
    have hdr : (s.xs.drop s.k).drop i = s.xs[s.k + i] :: (s.xs.drop s.k).drop (i + 1) := by
      rw [List.drop_drop, List.drop_drop, List.drop_eq_getElem_cons hi']
      rfl
    have hyl := ok.lt _ (List.getElem_mem hi')
    rw [hdr] at eP
    obtain ⟨h1, h2⟩ := bump_back (ys := (s.xs.drop s.k).drop (i + 1)) hyl
    have hgp : (ppl s.xs)[s.k + i]? = some (.int (s.xs[s.k + i] : Int)) := ppl_get hi'
    generalize s.xs[s.k + i] = y0 at hgp hyl h1 h2 eP
    have hbl2 := bump_len (y0 :: (s.xs.drop s.k).drop (i + 1)) s.ps
    generalize bump s.ps (y0 :: (s.xs.drop s.k).drop (i + 1)) = qs at h1 h2 eP hbl2
    generalize hv : (bump s.ps ((s.xs.drop s.k).drop (i + 1))).getD y0 0 = v at h1 h2
    have hgq : (ppl qs)[y0]? = some (.int ((v + 1 : Nat) : Int)) := by
      unfold ppl
      rw [List.getElem?_map, h1]
      rfl
    refine ⟨.ref L.o, rfl, L.o, C, dx, fs, .ref L.pa, rfl, hobG, T.cl, T.n_pa, hf.pa, .ref L.o, rfl, L.o, C, dx, fs, .ref L.pe, rfl, hobG, T.cl, T.n_pe, hf.pe, .int ((s.k + i : Nat) : Int), rfl, L.pe, _, ((s.k + i : Nat) : Int), _, rfl, rfl, SqL.of e_peG, atI_nat hgp, L.pa, _, y0, _, rfl, rfl, SqL.of eP, hgq, _, 1, rfl, rfl, L.pa, _, (y0 : Int), y0, rfl, rfl, eP, ixN_nat (by rw [ppl_len]; omega), ?_⟩
    have es : (ppl qs).set y0 (V.int (((v + 1 : Nat) : Int) - 1)) = ppl (bump s.ps ((s.xs.drop s.k).drop (i + 1))) := by
      rw [← h2]
      unfold ppl
      rw [List.map_set]
      congr 2
      omega
    rw [es]
    have q_pa4 : (upd G L.pa (.lst (ppl (bump s.ps ((s.xs.drop s.k).drop (i + 1)))))) L.pa = some (.lst (ppl (bump s.ps ((s.xs.drop s.k).drop (i + 1))))) := upd_same
    have k4 : ∀ b, b ≠ L.pa → (upd G L.pa (.lst (ppl (bump s.ps ((s.xs.drop s.k).drop (i + 1)))))) b = G b := fun b n => upd_ne n
    generalize upd G L.pa (.lst (ppl (bump s.ps ((s.xs.drop s.k).drop (i + 1))))) = G4 at q_pa4 k4
    have hob4 : G4 L.o = some (.ins C dx fs) := (k4 _ hoP).trans hobG
    have eR4 : G4 L.re = _ := (k4 _ d5).trans eR
    have hri : s.k + i < s.rs.length := by omega
    have hbeh := goes_behind s (j := s.k + i) (by omega) hri
    have hgr : ((part s.rs (goes s.rs.length s.rs).2 (s.k + i)).map optV)[s.k + i]? = some (optV (dec s.rs[s.k + i])) := by
      rw [List.getElem?_map, part_get hri g2, hbeh]
      rfl
    refine ⟨.ref L.o, rfl, L.o, C, dx, fs, .ref L.re, rfl, hob4, T.cl, T.n_re, hf.re, .int ((s.k + i : Nat) : Int), rfl, L.re, _, ((s.k + i : Nat) : Int), _, rfl, rfl, SqL.of eR4, atI_nat hgr, _, rfl, ?_⟩
    have hset := part_set (R := s.rs) (R' := (goes s.rs.length s.rs).2) hri g2
    have hsame := part_same (R := s.rs) (R' := (goes s.rs.length s.rs).2) hri g2
    cases hrv : s.rs[s.k + i] with
    | none =>
      rw [hrv] at hbeh hsame
      have z := hsame hbeh
      refine iteF ⟨⟨_, rfl⟩, fun b n1 n2 => (k4 b n2).trans (kG b n1 n2), ?_, q_pa4⟩
      rw [eR4, z]
      rfl
    | some rv =>
      rw [hrv] at hgr hset
      refine iteT ⟨.ref L.o, rfl, L.o, C, dx, fs, .ref L.re, rfl, hob4, T.cl, T.n_re, hf.re, .int ((s.k + i : Nat) : Int), rfl, L.re, _, s.k + i, _, rfl, rfl, SqL.of eR4, hgr, rv - 1, 1, rfl, rfl, L.re, _, ((s.k + i : Nat) : Int), s.k + i, rfl, rfl, eR4, ixN_nat (by rw [List.length_map, part_len g2 (by omega)]; exact hri), ⟨_, rfl⟩, fun b n1 n2 => by rw [upd_ne n1]; exact (k4 b n2).trans (kG b n1 n2), ?_, by rw [upd_ne (Ne.symm d5)]; exact q_pa4⟩
      rw [upd_same]
      show some (HO.lst (((part s.rs (goes s.rs.length s.rs).2 (s.k + i)).map optV).set (s.k + i) (V.int (rv - 1 + 1)))) = some (HO.lst ((part s.rs (goes s.rs.length s.rs).2 (s.k + i + 1)).map optV))
      rw [← hset, List.map_set, Int.sub_add_cancel]
      rfl
  · obtain ⟨⟨y, rfl⟩, kG, eR, eP⟩ := hP
    rw [ppl_len] at eR eP
    have ei : s.k + ((s.xs.length : Int) - (s.k : Int)).toNat = s.rs.length := by omega
    rw [ei] at eR
    have er : part s.rs (goes s.rs.length s.rs).2 s.rs.length = s.rs := by
      unfold part
      rw [List.take_length, List.drop_of_length_le (by omega), List.append_nil]
    rw [er] at eR
    have ed : (s.xs.drop s.k).drop ((s.xs.length : Int) - (s.k : Int)).toNat = [] := by
      rw [List.drop_drop]
      exact List.drop_of_length_le (by omega)
    rw [ed] at eP
    refine q _ (fun b n1 n2 n3 => ?_) ((kG _ d1 d2).trans e_pe3) eR eP
    rw [kG b n2 n3, k3 b n2, k2 b n1, k1 b n3]
theorem Flds.take {fs : List (Str × V)} {L : LnA} (h : Flds fs L) : fs.lookup ("take_newcomer" : Str) = none := h.no _ (by decide +kernel) (by decide +kernel) (by decide +kernel) (by decide +kernel) (by decide +kernel)
theorem word_ne : ("serve" : Str) ≠ "come" := by decide +kernel
theorem ok_undoM {f fT : Addr} {fd fdT : FuncData} (F : Fun K "undo" "Line.undo" sUndoM f fd) (hT : Nm mg) (T : LnT K mg C) (mT : Meth K C "take_newcomer" fT) (GT : FnOk P w K mg base CX0 1 fT fdT ["self"] (spTakeM C)) (bT : Binds K fdT ["self"] []) : FnOk P w K mg base CX0 2 f fd ["self"] (spUndoM C) := by
  refine F.ok scUndoM (fun vs H Q E ⟨L, s, d, e, _⟩ => by rw [e]; rfl) (fun cdv A outer s H vs Q E hr h => ?_)
  obtain ⟨L, s, d, rfl, hL, ok, hd, hn, q⟩ := h
  have nd := scUndoM.nd
  refine ⟨_, (pss_cons (ps_if (pt_not (pt_truth (pe_fld (pv 0) rfl) (by intro _; rfl))) (pss_one ps_never) pss_nil)
      (pss_cons (ps_set (i := 1) nd rfl (.inl rfl) (pe_bm0 PySem.F.plainAttrs_list PySem.F.slot_list_pop PySem.F.type_list_pop mt_pop (pe_fld (pv 0) rfl)))
      (pss_one (ps_if (pt_cmpR op_eq (pe_ix ix_tup (pv 1) pe_int (fun _ _ => rfl)) pe_str (nomark _)) (pss_one (ps_expr (pe_meth0 (pv 0) T.cl mT GT hr bT .nil pass0))) (pss_cons (ps_asg (pe_bm0 PySem.F.plainAttrs_list PySem.F.slot_list_pop PySem.F.type_list_pop mt_pop (pe_fld (pv 0) rfl)) (pg_tup rfl (pgs_cons (pg_name (i := 2) nd rfl (.inl rfl)) (pgs_cons (pg_name (i := 3) nd rfl (.inl rfl)) pgs_nil))))
      (pss_cons (ps_expr (pe_bm PySem.F.plainAttrs_list PySem.F.slot_list_insert PySem.F.type_list_insert mt_insert (pe_fld (pv 0) rfl) (pa_cons pe_int (pa_cons (pv 2) pa_nil))))
      (pss_one (ps_expr (pe_bm PySem.F.plainAttrs_list PySem.F.slot_list_insert PySem.F.type_list_insert mt_insert (pe_fld (pv 0) rfl) (pa_cons pe_int (pa_cons (pv 3) pa_nil))))))))))), ?_⟩
  obtain ⟨d1, d2, d3, d4, d5, d6, d7, d8, d9, d10⟩ := nodup5 hL.nd
  obtain ⟨⟨dx, fs, hob, hf⟩, e_pe, e_re, e_pa, ⟨vs, e_se, a_se⟩, ⟨ws, e_de, a_de⟩, _, _⟩ := id hL
  rw [stepS_ds] at a_de
  obtain ⟨ws', v, rfl, a_de', hv⟩ := a_de.unsnoc
  refine ⟨.ref L.o, rfl, L.o, C, dx, fs, .ref L.de, rfl, hob, T.cl, T.n_de, hf.de, true, .inl ⟨_, SqL.of e_de, by simp⟩, iteF ?_⟩
  -- deed = self.deeds.pop()
  refine ⟨.ref L.o, rfl, L.o, C, dx, fs, .ref L.de, rfl, hob, T.cl, T.n_de, hf.de, .inl ⟨rfl, _, SqL.of e_de⟩, L.de, _, v, rfl, rfl, e_de, last_snoc _ _, ?_⟩
  rw [List.dropLast_concat]
  dsimp only [gName]
  show tIfS _ _ _ _ [some (.ref L.o), some v, none, none] (upd H L.de (.lst ws'))
  have q_de1 : (upd H L.de (.lst ws')) L.de = some (.lst ws') := upd_same
  have k1 : ∀ b, b ≠ L.de → (upd H L.de (.lst ws')) b = H b := fun b n => upd_ne n
  have m1 := (MvL.refl L H).upd (o := .lst ws') (.inr (.inr (.inr (.inr rfl))))
  generalize upd H L.de (.lst ws') = G1 at q_de1 k1 m1
  have kt1 : ∀ t ys, H t = some (.tup ys) → G1 t = some (.tup ys) := fun t ys e => by rw [k1 t (fun z => by rw [z, e_de] at e; cases e)]; exact e
  have hob1 : G1 L.o = some (.ins C dx fs) := by rw [k1 _ (fun z => by rw [z, e_de] at hob; cases hob)]; exact hob
  have e_pe1 : G1 L.pe = _ := (k1 _ d4).trans e_pe
  have e_re1 : G1 L.re = _ := (k1 _ d7).trans e_re
  have e_pa1 : G1 L.pa = _ := (k1 _ d9).trans e_pa
  have e_se1 : G1 L.se = _ := (k1 _ d10).trans e_se
  cases d with
  | come p =>
    obtain ⟨t, rfl, et⟩ := hv
    refine ⟨.ref t, rfl, t, _, 0, .str "come", rfl, rfl, SqT.of (kt1 _ _ et), atI_nat (j := 0) rfl, rfl, _, rfl, ite2 (fun _ => ?_) (fun y => absurd (decide_eq_true rfl) y)⟩
    refine ⟨.ref L.o, rfl, L.o, dx, fs, rfl, hob1, hf.take, L, s, p, rfl, ok, ⟨dx, fs, hob1, hf⟩, e_pe1, e_re1, e_pa1, hL.nd, hn, fun H' kp p1 p2 p3 => ?_⟩
    have kt2 : ∀ t ys, H t = some (.tup ys) → H' t = some (.tup ys) := fun t ys e => by
      have e1 := kt1 _ _ e
      rw [kp t (fun z => by rw [z, e_pe1] at e1; cases e1) (fun z => by rw [z, e_re1] at e1; cases e1) (fun z => by rw [z, e_pa1] at e1; cases e1)]
      exact e1
    exact q H' ⟨⟨dx, fs, (kp _ (fun z => by rw [z, e_pe1] at hob1; cases hob1) (fun z => by rw [z, e_re1] at hob1; cases hob1) (fun z => by rw [z, e_pa1] at hob1; cases hob1)).trans hob1, hf⟩, p1, p2, p3, ⟨vs, (kp _ (Ne.symm d3) (Ne.symm d6) (Ne.symm d8)).trans e_se1, a_se.imp fun _ _ => ServV.kx kt2⟩, ⟨ws', (kp _ (Ne.symm d4) (Ne.symm d7) (Ne.symm d9)).trans q_de1, a_de'.imp fun _ _ => DeedV.kx kt2⟩, hL.nd, ok⟩
      (m1.trans ⟨fun b o nb e => by rw [kp b (fun z => nb (.inl z)) (fun z => nb (.inr (.inl z))) (fun z => nb (.inr (.inr (.inl z))))]; exact e⟩)
  | serve =>
    obtain ⟨t, rfl, et⟩ := hv
    refine ⟨.ref t, rfl, t, _, 0, .str "serve", rfl, rfl, SqT.of (kt1 _ _ et), atI_nat (j := 0) rfl, rfl, _, rfl, ite2 (fun y => absurd (of_decide_eq_true y) (fun z => word_ne (by injection z))) (fun _ => ?_)⟩
    have hx := hd rfl
    obtain ⟨x, xs, ex⟩ : ∃ x xs, s.xs = x :: xs := by
      cases z : s.xs with
      | nil => exact absurd z hx
      | cons x xs => exact ⟨x, xs, rfl⟩
    obtain ⟨r, rs, er⟩ : ∃ r rs, s.rs = r :: rs := by
      have hlen := ok.len
      rw [ex, List.length_cons] at hlen
      cases z : s.rs with
      | nil => rw [z] at hlen; cases hlen
      | cons r rs => exact ⟨r, rs, rfl⟩
    have hss : stepS s .serve = ⟨xs, rs, s.ps, s.sv ++ [(x, r)], s.ds ++ [.serve]⟩ := by
      show serveS s (s.xs.headD 0) (s.rs.headD none) = _
      unfold serveS
      rw [ex, er]
      rfl
    rw [hss] at e_pe1 e_re1 e_pa1 a_se
    obtain ⟨vs', u, rfl, a_se', hu⟩ := a_se.unsnoc
    obtain ⟨t2, rfl, et2⟩ := hu
    have hxl : xs.length ≤ 400 := by have h1 := ok.tot; rw [ex, List.length_cons] at h1; omega
    have hrl : rs.length ≤ 400 := by have h1 := ok.len; rw [ex, er, List.length_cons, List.length_cons] at h1; omega
    -- person, patience = self.served.pop()
    refine ⟨.ref L.o, rfl, L.o, C, dx, fs, .ref L.se, rfl, hob1, T.cl, T.n_se, hf.se, .inl ⟨rfl, _, SqL.of e_se1⟩, L.se, _, _, rfl, rfl, e_se1, last_snoc _ _, ?_⟩
    rw [List.dropLast_concat]
    have q_se2 : (upd G1 L.se (.lst vs')) L.se = some (.lst vs') := upd_same
    have k2 : ∀ b, b ≠ L.se → (upd G1 L.se (.lst vs')) b = G1 b := fun b n => upd_ne n
    have m2 := m1.upd (o := .lst vs') (.inr (.inr (.inr (.inl rfl))))
    generalize upd G1 L.se (.lst vs') = G2 at q_se2 k2 m2
    have kt2 : ∀ t ys, H t = some (.tup ys) → G2 t = some (.tup ys) := fun t ys e => by
      have e1 := kt1 _ _ e
      rw [k2 t (fun z => by rw [z, e_se1] at e1; cases e1)]
      exact e1
    have hob2 : G2 L.o = some (.ins C dx fs) := by rw [k2 _ (fun z => by rw [z, e_se1] at hob1; cases hob1)]; exact hob1
    refine ⟨t2, _, rfl, SqT.of (kt2 _ _ et2), rfl, .int (x : Int), _, rfl, optV r, _, rfl, rfl, ?_⟩
    show tSeq _ _ _ [some (.ref L.o), some (.ref t), some (.int (x : Int)), some (optV r)] G2
    have e_pe2 : G2 L.pe = _ := (k2 _ d3).trans e_pe1
    have e_re2 : G2 L.re = _ := (k2 _ d6).trans e_re1
    -- self.people.insert(0, person)
    refine ⟨.ref L.o, rfl, L.o, C, dx, fs, .ref L.pe, rfl, hob2, T.cl, T.n_pe, hf.pe, .inl ⟨rfl, _, SqL.of e_pe2⟩, .int (x : Int), rfl, L.pe, _, 0, _, rfl, rfl, e_pe2, by rw [ppl_len]; exact small1000 (by show xs.length < 1000; omega), by decide, by decide, ?_⟩
    have ei : (ppl xs).take (0 : Int).toNat ++ [V.int (x : Int)] ++ (ppl xs).drop (0 : Int).toNat = ppl s.xs := by rw [ex]; rfl
    rw [ei]
    have q_pe3 : (upd G2 L.pe (.lst (ppl s.xs))) L.pe = some (.lst (ppl s.xs)) := upd_same
    have k3 : ∀ b, b ≠ L.pe → (upd G2 L.pe (.lst (ppl s.xs))) b = G2 b := fun b n => upd_ne n
    have m3 := m2.upd (o := .lst (ppl s.xs)) (.inl rfl)
    generalize upd G2 L.pe (.lst (ppl s.xs)) = G3 at q_pe3 k3 m3
    have hob3 : G3 L.o = some (.ins C dx fs) := by rw [k3 _ (fun z => by rw [z, e_pe2] at hob2; cases hob2)]; exact hob2
    have e_re3 : G3 L.re = _ := (k3 _ (Ne.symm d1)).trans e_re2
    refine ⟨.ref L.o, rfl, L.o, C, dx, fs, .ref L.re, rfl, hob3, T.cl, T.n_re, hf.re, .inl ⟨rfl, _, SqL.of e_re3⟩, optV r, rfl, L.re, _, 0, _, rfl, rfl, e_re3, by rw [List.length_map]; exact small1000 (by show rs.length < 1000; omega), by decide, by decide, ?_⟩
    have ej : (rs.map optV).take (0 : Int).toNat ++ [optV r] ++ (rs.map optV).drop (0 : Int).toNat = s.rs.map optV := by rw [er]; rfl
    rw [ej]
    have kt4 : ∀ t ys, H t = some (.tup ys) → (upd G3 L.re (.lst (s.rs.map optV))) t = some (.tup ys) := fun t ys e => by
      have e1 := kt2 _ _ e
      rw [upd_ne (fun z => by rw [z, e_re2] at e1; cases e1), k3 t (fun z => by rw [z, e_pe2] at e1; cases e1)]
      exact e1
    refine q _ ⟨⟨dx, fs, ?_, hf⟩, ?_, upd_same, ?_, ⟨vs', ?_, a_se'.imp fun _ _ => ServV.kx kt4⟩, ⟨ws', ?_, a_de'.imp fun _ _ => DeedV.kx kt4⟩, hL.nd, ok⟩ (m3.upd (.inr (.inl rfl)))
    · rw [upd_ne (fun z => by rw [z, e_re3] at hob3; cases hob3)]; exact hob3
    · rw [upd_ne d1]; exact q_pe3
    · rw [upd_ne (Ne.symm d5), k3 _ (Ne.symm d2), k2 _ d8]; exact e_pa1
    · rw [upd_ne (Ne.symm d6), k3 _ (Ne.symm d3)]; exact q_se2
    · rw [upd_ne (Ne.symm d7), k3 _ (Ne.symm d4), k2 _ (Ne.symm d10)]; exact q_de1
theorem ok_histM {f : Addr} {fd : FuncData} (F : Fun K "history" "Line.history" sHistM f fd) (hT : Nm mg) (T : LnT K mg C) : FnOk P w K mg base CX0 1 f fd ["self"] (spHistM C) := by
  refine F.ok scHistM (fun vs H Q E ⟨L, s, e, _⟩ => by rw [e]; rfl) (fun cdv A outer s H vs Q E hr h => ?_)
  obtain ⟨L, s, rfl, hL, q⟩ := h
  refine ⟨_, pss_one (ps_ret (pe_callTy call_list_of (by rfl) hT.list (by decide +kernel) (pa_cons (pe_fld (pv 0) rfl) pa_nil))), ?_⟩
  obtain ⟨⟨dx, fs, hob, hf⟩, e_pe, e_re, e_pa, _, ⟨ws, e_de, a_de⟩, _⟩ := id hL
  exact ⟨.ref L.o, rfl, L.o, C, dx, fs, .ref L.de, rfl, hob, T.cl, T.n_de, hf.de, L.de, _, rfl, .inl (SqL.of e_de), fun p np => q p ws np a_de⟩
end
end CL
set_option Elab.async false
set_option linter.all false
set_option maxRecDepth 100000
set_option maxHeartbeats 4000000
namespace CL
open PySem PySem.Spec PyProof.Rows L2 GE
abbrev sCame : Stmt := topS 19
abbrev nCame : List Str := ["stand", "rest", "number", "patience", "at"]
theorem scCame : FnScope nCame ["stand", "rest", "number", "patience"] (defScope sCame) := ⟨rfl, rfl, rfl, by decide +kernel, rfl, by decide +kernel, by decide +kernel⟩
abbrev sDone : Stmt := topS 22
abbrev nDone : List Str := ["deeds", "stand", "rest", "past", "deed", "number", "later", "other"]
theorem scDone : FnScope nDone ["deeds"] (defScope sDone) := ⟨rfl, rfl, rfl, by decide +kernel, rfl, by decide +kernel, by decide +kernel⟩
abbrev RF := Nat → Option Int
/-- how one that comes is put -/
structure CameX (f f' : RF) (xs : List Nat) (n k : Nat) (p : Option Int) : Prop where
  k : k = (goes xs.length (xs.map f)).1
  l : xs.map f' = (goes xs.length (xs.map f)).2
  n : f' n = p
theorem map_set {xs : List Nat} {g : RF} {k : Nat} {o : Option Int} (nd : xs.Nodup) (hk : k < xs.length) : xs.map (fun x => if x = xs[k] then o else g x) = (xs.map g).set k o := by
  refine List.ext_getElem (by rw [List.length_set, List.length_map, List.length_map]) fun i h1 h2 => ?_
  rw [List.length_map] at h1
  rw [List.getElem_map, List.getElem_set]
  by_cases e : k = i
  · subst e
    rw [if_pos rfl, if_pos rfl]
  · rw [if_neg e, if_neg (fun z => e ?_), List.getElem_map]
    rcases Nat.lt_trichotomy k i with h | h | h
    · exact absurd z.symm (List.pairwise_iff_getElem.mp nd k i hk h1 h)
    · exact h
    · exact absurd z (List.pairwise_iff_getElem.mp nd i k h1 hk h)
theorem small_lt {a n : Nat} (h : a ≤ n) (hn : n ≤ 300) : a < sizeLine := by
  have : 1000 ≤ sizeLine := by decide
  omega
/-- what each of so many has left -/
def RestF (H : Hp) (D : Addr) (n : Nat) (f : RF) : Prop := ∃ kvs : List (Key × V), H D = some (.dK kvs) ∧ kvs.length ≤ n ∧ ∀ x < n, valV kvs (Sum.inl (x : Int)) = some (optV (f x))
/-- all but one object stays -/
def But (D : Addr) (H H' : Hp) : Prop := ∀ b o, b ≠ D → H b = some o → H' b = some o
theorem But.upd {D : Addr} {H H' : Hp} {o : HO} (b : But D H H') : But D H (upd H' D o) := fun c x nc e => by rw [upd_ne nc]; exact b c x nc e
theorem But.new {D p : Addr} {H H' : Hp} {o : HO} (b : But D H H') (hp : H' p = none) : But D H (L2.upd H' p o) := fun c x nc e => by
  have e2 := b c x nc e
  rw [upd_ne (ne_of_none e2 hp)]
  exact e2
theorem But.none {D p : Addr} {H H' : Hp} (b : But D H H') (n : p ≠ D) (hp : H' p = none) : H p = none := by
  cases q : H p with
  | none => rfl
  | some o => rw [b p o n q] at hp; cases hp
def spCame : Sp := fun vs H Q _ => ∃ (S D : Addr) (xs : List Nat) (n : Nat) (p : Option Int) (f : RF), vs = [.ref S, .ref D, .int n, optV p] ∧ H S = some (.lst (ppl xs)) ∧ RestF H D n f ∧ (∀ x ∈ xs, x < n) ∧ xs.Nodup ∧ xs.length ≤ 300 ∧ n ≤ 300 ∧
  ∀ T H' k f', CameX f f' xs n k p → But D H H' → H' T = some (.lst (ppl (xs.take k ++ n :: xs.drop k))) → H T = none → RestF H' D (n + 1) f' → Q (.ref T) H'
theorem came_end {K : PySem.W.Frag} {H H4 : Hp} {S D : Addr} {xs : List Nat} {n k : Nat} {p : Option Int} {Q : VK} {f f' : RF} (eS : H S = some (.lst (ppl xs))) (hSD : S ≠ D) (hl : xs.length ≤ 300) (hk : k ≤ xs.length) (b4 : But D H H4) (r4 : RestF H4 D (n + 1) f') (hc : CameX f f' xs n k p)
    (q : ∀ T H' k f', CameX f f' xs n k p → But D H H' → H' T = some (.lst (ppl (xs.take k ++ n :: xs.drop k))) → H T = none → RestF H' D (n + 1) f' → Q (.ref T) H') :
    tOp rCat (tOp rCat (tSl (rSlL K) (tVar 0) tNoPart (tPart (tVar 4))) (tLst (tCons (tVar 2) tNil))) (tSl (rSlL K) (tVar 0) (tPart (tVar 4)) tNoPart) [some (.ref S), some (.ref D), some (.int n), some (optV p), some (.int (k : Int))] H4 Q := by
  have e4 := b4 S _ hSD eS
  have nD : ∀ {G : Hp} {t : Addr}, RestF G D (n + 1) f' → G t = none → t ≠ D := fun {G t} ⟨_, e, _⟩ nt z => by rw [z, e] at nt; cases nt
  have keep : ∀ {G : Hp} {t : Addr} {o : HO}, RestF G D (n + 1) f' → G t = none → RestF (upd G t o) D (n + 1) f' := fun {G t o} ⟨kvs, e, h⟩ nt => ⟨kvs, by rw [upd_ne (ne_of_none e nt)]; exact e, h⟩
  have pl := ppl_len xs
  refine ⟨.ref S, rfl, .int k, rfl, k, rfl, S, _, rfl, SqL.of e4, fun p1 n1 => ⟨.int n, rfl, small_le (by show 1 ≤ 1000; decide), fun p2 n2 => ?_⟩⟩
  rw [cut_to]
  rw [cut_to] at n2
  have b5 : But D H (upd H4 p1 (.lst ((ppl xs).take k))) := b4.new n1
  have r5 := keep (o := .lst ((ppl xs).take k)) r4 n1
  have e5 : (upd H4 p1 (.lst ((ppl xs).take k))) p1 = some (.lst ((ppl xs).take k)) := upd_same
  generalize upd H4 p1 (.lst ((ppl xs).take k)) = H5 at b5 r5 e5 n2
  have b6 : But D H (upd H5 p2 (.lst [.int (n : Int)])) := b5.new n2
  have r6 := keep (o := .lst [.int (n : Int)]) r5 n2
  have e6 : (upd H5 p2 (.lst [.int (n : Int)])) p2 = some (.lst [.int (n : Int)]) := upd_same
  have e61 : (upd H5 p2 (.lst [.int (n : Int)])) p1 = some (.lst ((ppl xs).take k)) := by rw [upd_ne (ne_of_none e5 n2)]; exact e5
  generalize upd H5 p2 (.lst [.int (n : Int)]) = H6 at b6 r6 e6 e61
  refine ⟨p1, p2, _, _, rfl, rfl, e61, e6, small_add (by rw [List.length_take]; omega) (by show 1 ≤ 1000; decide), fun p3 n3 => ?_⟩
  have b7 : But D H (upd H6 p3 (.lst ((ppl xs).take k ++ [.int (n : Int)]))) := b6.new n3
  have r7 := keep (o := .lst ((ppl xs).take k ++ [.int (n : Int)])) r6 n3
  have e7 : (upd H6 p3 (.lst ((ppl xs).take k ++ [.int (n : Int)]))) p3 = some (.lst ((ppl xs).take k ++ [.int (n : Int)])) := upd_same
  generalize upd H6 p3 (.lst ((ppl xs).take k ++ [.int (n : Int)])) = H7 at b7 r7 e7
  refine ⟨.ref S, rfl, .int k, rfl, k, rfl, S, _, rfl, SqL.of (b7 S _ hSD eS), fun p4 n4 => ?_⟩
  rw [cut_from]
  have b8 : But D H (upd H7 p4 (.lst ((ppl xs).drop k))) := b7.new n4
  have r8 := keep (o := .lst ((ppl xs).drop k)) r7 n4
  have e8 : (upd H7 p4 (.lst ((ppl xs).drop k))) p4 = some (.lst ((ppl xs).drop k)) := upd_same
  have e83 : (upd H7 p4 (.lst ((ppl xs).drop k))) p3 = some (.lst ((ppl xs).take k ++ [.int (n : Int)])) := by rw [upd_ne (ne_of_none e7 n4)]; exact e7
  generalize upd H7 p4 (.lst ((ppl xs).drop k)) = H8 at b8 r8 e8 e83
  refine ⟨p3, p4, _, _, rfl, rfl, e83, e8, small_add (by rw [List.length_append, List.length_take]; show _ + 1 ≤ _; omega) (by rw [List.length_drop]; omega), fun p5 n5 => ?_⟩
  have n0 := b8.none (nD r8 n5) n5
  refine q p5 _ k f' hc (b8.new n5) ?_ n0 (keep r8 n5)
  rw [upd_same]
  unfold ppl
  rw [List.map_append, List.map_cons, List.map_take, List.map_drop, List.append_assoc]
  rfl
section
variable {P : Program} {w : World} {K : PySem.W.Frag} {mg : Str → Option Value} {base : Heap}
theorem ok_came {fa : Addr} {fd : FuncData} (F : Fun K "_law_came" "_law_came" sCame fa fd) (hlen : mg "len" = none) : FnOk P w K mg base CX0 1 fa fd ["stand", "rest", "number", "patience"] spCame := by
  refine F.ok scCame (fun vs H Q E ⟨S, D, xs, n, p, f, e, _⟩ => by rw [e]; rfl) (fun cdv A outer s H vs Q E hr h => ?_)
  obtain ⟨S, D, xs, n, p, f, rfl, eS, hR, hx, hnd, hl, hn, q⟩ := h
  have nd := scCame.nd
  have hu := hu_of hr
  refine ⟨_, (pss_cons (ps_set (i := 4) nd rfl (.inl rfl) (pe_callB call_len_seq (by rfl) hlen PySem.boot_len (pa_cons (pv 0) pa_nil)))
    (pss_cons (ps_while PassesOwn.never (PW.pt (pw_and (pt_cmpR op_gt (pv 4) pe_int (nomark _)) (pw_and1 (pt_cmpR (op_neD hr.units) (pe_dget hu (pv 1) (pe_ix ix_list (pv 0) (pe_op op_sub (pv 4) pe_int) (fun _ _ => rfl)) (fun _ _ => rfl)) pe_int (nomark _)))))
      (pss_cons (ps_set (i := 4) nd rfl (.inl rfl) (pe_op op_sub (pv 4) pe_int))
      (pss_one (ps_if (pt_cmp (pc_notN (pe_dget hu (pv 1) (pe_ix ix_list (pv 0) (pv 4) (fun _ _ => rfl)) (fun _ _ => rfl))))
        (pss_one (ps_dput hu (pv 1) (pe_ix ix_list (pv 0) (pv 4) (fun _ _ => rfl)) (pe_op op_sub (pe_dget hu (pv 1) (pe_ix ix_list (pv 0) (pv 4) (fun _ _ => rfl)) (fun _ _ => rfl)) pe_int) rfl)) pss_nil))))
    (pss_cons (ps_dput hu (pv 1) (pv 2) (pv 3) rfl)
    (pss_one (ps_ret (pe_op op_cat (pe_op op_cat (pe_slice sl_list (pv 0) po_none (po_some (pv 4))) (pe_lst (pa_cons (pv 2) pa_nil))) (pe_slice sl_list (pv 0) (po_some (pv 4)) po_none))))))), ?_⟩
  have hSD : S ≠ D := fun z => by
    obtain ⟨kvs, e, _⟩ := hR
    rw [← z, eS] at e
    cases e
  refine ⟨.ref S, rfl, S, _, rfl, .inl (SqL.of eS), ?_⟩
  rw [ppl_len]
  refine ⟨fun k σ H3 => σ = [some (.ref S), some (.ref D), some (.int n), some (optV p), some (.int (k : Int))] ∧ But D H H3 ∧ k ≤ xs.length ∧ ∃ g : RF, RestF H3 D n g ∧ goes k (xs.map g) = goes xs.length (xs.map f),
    ⟨xs.length, rfl, fun _ _ _ e => e, Nat.le_refl _, f, hR, rfl⟩, fun k σ H3 hW => ?_⟩
  obtain ⟨rfl, hB, hk, g, ⟨kvs, hkv, hkl, hkx⟩, hgo0⟩ := hW
  have hfn : xs.map (fun x => if x = n then p else g x) = xs.map g := List.map_congr_left fun x hx' => if_neg (by have := hx x hx'; omega)
  have e3 := hB S _ hSD eS
  cases k with
  | zero =>
    refine ⟨.int ((0 : Nat) : Int), rfl, ((0 : Nat) : Int), 0, rfl, rfl, decide ((0 : Int) < ((0 : Nat) : Int)), rfl, iteF ?_⟩
    refine ⟨optV p, rfl, .ref D, rfl, .int n, rfl, D, _, rfl, DPut.k (k := Sum.inl (n : Int)) hkv (small_lt hkl hn), ?_⟩
    have b4 : But D H (upd H3 D (.dK (putK kvs (Sum.inl (n : Int)) (optV p)))) := hB.upd
    have r4 : RestF (upd H3 D (.dK (putK kvs (Sum.inl (n : Int)) (optV p)))) D (n + 1) (fun x => if x = n then p else g x) := ⟨_, upd_same, Nat.le_trans (length_putK _ _ _) (Nat.succ_le_succ hkl), fun x hx => by
      rw [valV_put]
      by_cases hxn : x = n
      · rw [if_pos (by rw [hxn])]; exact congrArg (fun z => some (optV z)) (if_pos hxn).symm
      · rw [if_neg (fun z => hxn (by have := Sum.inl.inj z; omega))]
        rw [hkx x (by omega)]; exact congrArg (fun z => some (optV z)) (if_neg hxn).symm⟩
    exact came_end eS hSD hl hk b4 r4 ⟨by rw [← hgo0]; rfl, by rw [hfn, ← hgo0]; rfl, if_pos rfl⟩ q
  | succ k' =>
    have hk' : k' < xs.length := by omega
    have hi1 : ((k' + 1 : Nat) : Int) - 1 = (k' : Int) := by omega
    have hat : atI (ppl xs) (((k' + 1 : Nat) : Int) - 1) = some (.int (xs[k'] : Int)) := by rw [hi1]; exact atI_nat (ppl_get hk')
    have hat2 : atI (ppl xs) (k' : Int) = some (.int (xs[k'] : Int)) := atI_nat (ppl_get hk')
    have ho := hkx xs[k'] (hx _ (List.getElem_mem hk'))
    generalize hgo : g xs[k'] = o at ho
    have dg : DGet H3 D (.int (xs[k'] : Int)) (some (optV o)) := by rw [← ho]; exact DGet.k (k := Sum.inl (xs[k'] : Int)) hkv
    refine ⟨.int ((k' + 1 : Nat) : Int), rfl, ((k' + 1 : Nat) : Int), 0, rfl, rfl, decide ((0 : Int) < ((k' + 1 : Nat) : Int)), rfl, ?_⟩
    rw [decide_eq_true (by omega : (0 : Int) < ((k' + 1 : Nat) : Int))]
    refine iteT ⟨.ref D, rfl, .ref S, rfl, .int ((k' + 1 : Nat) : Int), rfl, ((k' + 1 : Nat) : Int), 1, rfl, rfl, S, _, ((k' + 1 : Nat) : Int) - 1, .int (xs[k'] : Int), rfl, rfl, SqL.of e3, hat, D, optV o, rfl, dg, optD o, .int 0, optV_dp o, .int 0, optD_shaped o, optD_shaped (some 0), _, rfl, ?_⟩
    rw [optV_ne0]
    by_cases hz : o = some 0
    · rw [decide_eq_true hz]
      refine iteF ⟨optV p, rfl, .ref D, rfl, .int n, rfl, D, _, rfl, DPut.k (k := Sum.inl (n : Int)) hkv (small_lt hkl hn), ?_⟩
      have b4 : But D H (upd H3 D (.dK (putK kvs (Sum.inl (n : Int)) (optV p)))) := hB.upd
      have r4 : RestF (upd H3 D (.dK (putK kvs (Sum.inl (n : Int)) (optV p)))) D (n + 1) (fun x => if x = n then p else g x) := ⟨_, upd_same, Nat.le_trans (length_putK _ _ _) (Nat.succ_le_succ hkl), fun x hx => by
        rw [valV_put]
        by_cases hxn : x = n
        · rw [if_pos (by rw [hxn])]; exact congrArg (fun z => some (optV z)) (if_pos hxn).symm
        · rw [if_neg (fun z => hxn (by have := Sum.inl.inj z; omega))]
          rw [hkx x (by omega)]; exact congrArg (fun z => some (optV z)) (if_neg hxn).symm⟩
      have hg2 : goes (k' + 1) (xs.map g) = (k' + 1, xs.map g) := by
        unfold goes
        rw [List.getElem?_map, List.getElem?_eq_getElem hk', Option.map_some, hgo, hz]
        rfl
      exact came_end eS hSD hl hk b4 r4 ⟨by rw [← hgo0, hg2], by rw [hfn, ← hgo0, hg2], if_pos rfl⟩ q
    · rw [decide_eq_false hz]
      cases o with
      | none =>
        have hg2 : goes k' (xs.map g) = goes xs.length (xs.map f) := by
          rw [← hgo0]
          conv => rhs; unfold goes
          rw [List.getElem?_map, List.getElem?_eq_getElem hk', Option.map_some, hgo]
        refine iteT ⟨fun σ' H'' => σ' = [some (.ref S), some (.ref D), some (.int n), some (optV p), some (.int (((k' + 1 : Nat) : Int) - 1))] ∧ H'' = H3, fun σ' H'' z => ⟨k', Nat.lt_succ_self k', by rw [z.1, hi1], by rw [z.2]; exact hB, by omega, g, by rw [z.2]; exact ⟨kvs, hkv, hkl, hkx⟩, hg2⟩, ?_⟩
        exact ⟨.int ((k' + 1 : Nat) : Int), rfl, ((k' + 1 : Nat) : Int), 1, rfl, rfl, .ref D, rfl, .ref S, rfl, .int (((k' + 1 : Nat) : Int) - 1), rfl, S, _, ((k' + 1 : Nat) : Int) - 1, .int (xs[k'] : Int), rfl, rfl, SqL.of e3, hat, D, optV none, rfl, dg, _, rfl, iteF ⟨rfl, rfl⟩⟩
      | some j =>
        have hg2 : goes k' (xs.map (fun x => if x = xs[k'] then some (j - 1) else g x)) = goes xs.length (xs.map f) := by
          rw [← hgo0, map_set hnd hk']
          conv => rhs; unfold goes
          rw [List.getElem?_map, List.getElem?_eq_getElem hk', Option.map_some, hgo]
          exact (if_neg (fun y => hz (by rw [y]))).symm
        refine iteT ⟨fun σ' H'' => σ' = [some (.ref S), some (.ref D), some (.int n), some (optV p), some (.int (((k' + 1 : Nat) : Int) - 1))] ∧ But D H H'' ∧ RestF H'' D n (fun x => if x = xs[k'] then some (j - 1) else g x), fun σ' H'' z => ⟨k', Nat.lt_succ_self k', by rw [z.1, hi1], z.2.1, by omega, _, z.2.2, hg2⟩, ?_⟩
        refine ⟨.int ((k' + 1 : Nat) : Int), rfl, ((k' + 1 : Nat) : Int), 1, rfl, rfl, .ref D, rfl, .ref S, rfl, .int (((k' + 1 : Nat) : Int) - 1), rfl, S, _, ((k' + 1 : Nat) : Int) - 1, .int (xs[k'] : Int), rfl, rfl, SqL.of e3, hat, D, optV (some j), rfl, dg, _, rfl, iteT ?_⟩
        refine ⟨.ref D, rfl, .ref S, rfl, .int (((k' + 1 : Nat) : Int) - 1), rfl, S, _, ((k' + 1 : Nat) : Int) - 1, .int (xs[k'] : Int), rfl, rfl, SqL.of e3, hat, D, optV (some j), rfl, dg, j, 1, rfl, rfl, .ref D, rfl, .ref S, rfl, .int (((k' + 1 : Nat) : Int) - 1), rfl, S, _, ((k' + 1 : Nat) : Int) - 1, .int (xs[k'] : Int), rfl, rfl, SqL.of e3, hat, D, _, rfl, DPut.k (k := Sum.inl (xs[k'] : Int)) hkv (small_lt hkl hn), rfl, hB.upd, _, upd_same, ?_, fun x hx' => ?_⟩
        · have hsome : (valV kvs (Sum.inl (xs[k'] : Int))).isSome = true := by rw [ho]; rfl
          unfold putK
          rw [if_pos (by rw [valV_any]; exact hsome), List.length_map]
          exact hkl
        · rw [valV_put]
          by_cases hxk : (x : Int) = (xs[k'] : Int)
          · have hxk' : x = xs[k'] := by omega
            rw [if_pos (by rw [hxk])]
            show some (optV (some (j - 1))) = some (optV (if x = xs[k'] then some (j - 1) else g x))
            rw [if_pos hxk']
          · have hxk' : ¬ x = xs[k'] := fun z => hxk (congrArg (fun y : Nat => (y : Int)) z)
            rw [if_neg (fun z => hxk (Sum.inl.inj z)), hkx x hx']
            exact congrArg (fun z => some (optV z)) (if_neg hxk').symm
end
/-! ### how many went past each, by numbers -/
def pastK (ps : List Nat) : List (Key × V) := (List.range ps.length).map fun i : Nat => ((Sum.inl (i : Int) : Key), V.int (ps.getD i 0 : Nat))
theorem pastK_len (ps : List Nat) : (pastK ps).length = ps.length := by unfold pastK; rw [List.length_map, List.length_range]
theorem find_nat (h : Nat → V) (i : Nat) : ∀ l : List Nat, i ∈ l → (l.map fun j : Nat => ((Sum.inl (j : Int) : Key), h j)).find? (fun kv => decide (kv.1 = (Sum.inl (i : Int) : Key))) = some ((Sum.inl (i : Int) : Key), h i)
  | [], m => nomatch m
  | j :: l, m => by
    rw [List.map_cons, List.find?_cons]
    by_cases e : j = i
    · subst e
      simp
    · have ne : ¬ ((Sum.inl (j : Int) : Key) = (Sum.inl (i : Int) : Key)) := fun z => by injection z with z; omega
      rw [decide_eq_false ne]
      exact find_nat h i l ((List.mem_cons.mp m).resolve_left (Ne.symm e))
theorem pastK_get {ps : List Nat} {i : Nat} (h : i < ps.length) : valV (pastK ps) (Sum.inl (i : Int) : Key) = some (V.int (ps.getD i 0 : Nat)) := by
  unfold valV pastK
  rw [find_nat (fun j => V.int (ps.getD j 0 : Nat)) i _ (List.mem_range.mpr h)]
  rfl
theorem pastK_set {ps : List Nat} {i v : Nat} (h : i < ps.length) : putK (pastK ps) (Sum.inl (i : Int) : Key) (V.int (v : Int)) = pastK (ps.set i v) := by
  unfold putK
  rw [if_pos]
  · unfold pastK
    rw [List.map_map, List.length_set]
    refine List.map_congr_left fun j hj => ?_
    have hj := List.mem_range.mp hj
    show (if (Sum.inl (j : Int) : Key) = (Sum.inl (i : Int) : Key) then ((Sum.inl (j : Int) : Key), V.int (v : Int)) else ((Sum.inl (j : Int) : Key), V.int (ps.getD j 0 : Nat))) = ((Sum.inl (j : Int) : Key), V.int ((ps.set i v).getD j 0 : Nat))
    by_cases e : j = i
    · subst e
      rw [if_pos rfl, List.getD_eq_getElem?_getD, List.getElem?_set, if_pos rfl, if_pos h]
      rfl
    · rw [if_neg (fun z => by injection z with z; omega)]
      simp [List.getD_eq_getElem?_getD, List.getElem?_set, Ne.symm e]
  · unfold pastK
    rw [List.any_map, List.any_eq_true]
    exact ⟨i, List.mem_range.mpr h, by simp⟩
theorem pastK_new (ps : List Nat) : putK (pastK ps) (Sum.inl (ps.length : Int) : Key) (V.int 0) = pastK (ps ++ [0]) := by
  rw [putK_new]
  · unfold pastK
    rw [List.length_append, List.length_singleton, List.range_succ, List.map_append]
    congr 1
    · refine List.map_congr_left fun j hj => ?_
      have hj := List.mem_range.mp hj
      rw [List.getD_eq_getElem?_getD, List.getD_eq_getElem?_getD, List.getElem?_append_left hj]
    · rw [List.map_singleton, List.getD_eq_getElem?_getD, List.getElem?_append_right (Nat.le_refl _), Nat.sub_self]
      rfl
  · unfold valV
    rw [Option.map_eq_none_iff, List.find?_eq_none]
    intro kv hkv
    unfold pastK at hkv
    obtain ⟨j, hj, rfl⟩ := List.mem_map.mp hkv
    have hj := List.mem_range.mp hj
    simp only [decide_eq_true_eq]
    intro z
    injection z with z
    omega
theorem comeS_nd {s : LS} (h : s.Ok) (nd : s.xs.Nodup) (p : Option Int) : (comeS s p).xs.Nodup := by
  have hp := List.perm_middle (a := s.ps.length) (l₁ := s.xs.take s.k) (l₂ := s.xs.drop s.k)
  rw [List.take_append_drop] at hp
  show (s.xs.take s.k ++ s.ps.length :: s.xs.drop s.k).Nodup
  rw [hp.nodup_iff, List.nodup_cons]
  exact ⟨fun m => absurd (h.lt _ m) (Nat.lt_irrefl _), nd⟩
theorem Vd.nodup : ∀ {ds : List Deed}, Vd ds → (stF ds).xs.Nodup := by
  intro ds
  induction hn : ds.length generalizing ds with
  | zero =>
    intro _
    rw [List.eq_nil_of_length_eq_zero hn]
    exact List.nodup_nil
  | succ n ih =>
    intro h
    rcases List.eq_nil_or_concat ds with z | ⟨es, d, z⟩
    · subst z; cases hn
    · rw [List.concat_eq_append] at z
      subst z
      have hes := ih (ds := es) (by rw [List.length_append] at hn; simp at hn; exact hn) h.pre
      rw [stF_snoc]
      cases d with
      | come p => exact comeS_nd h.pre.ok hes p
      | serve => exact hes.tail
theorem nodup_tail' {α : Type} {l : List α} (h : l.Nodup) : l.tail.Nodup := h.tail
/-- how many came and were served -/
theorem ds_count {ds : List Deed} (h : Vd ds) (n : Nat) (hl : ds.length ≤ n) : (stF ds).ps.length ≤ n ∧ (stF ds).xs.length ≤ n := by
  have ok := h.ok
  have h1 := ok.dl
  have h2 := ok.tot
  rw [stF_ds] at h1
  omega
theorem All2.get {α : Type} {R : V → α → Prop} : ∀ {vs : List V} {xs : List α} {i : Nat} {v : V}, All2 R vs xs → vs[i]? = some v → ∃ x, xs[i]? = some x ∧ R v x
  | _, _, _, _, .nil, e => by simp at e
  | _, _, 0, _, .cons r _, e => by simp at e; subst e; exact ⟨_, rfl, r⟩
  | _, _, i + 1, _, .cons _ t, e => by
    obtain ⟨d, h1, h2⟩ := All2.get (i := i) t (by simpa using e)
    exact ⟨d, by simpa using h1, h2⟩
def spDone : Sp := fun vs H Q _ => ∃ (A : Addr) (ws : List V) (ds : List Deed), vs = [.ref A] ∧ H A = some (.lst ws) ∧ All2 (DeedV H) ws ds ∧ Vd ds ∧ ds.length ≤ 300 ∧
  ∀ t S D P H' f, Same H H' → H' t = some (.tup [.ref S, .ref D, .ref P]) → H' S = some (.lst (ppl (stF ds).xs)) → RestF H' D (stF ds).ps.length f → (stF ds).xs.map f = (stF ds).rs → H' P = some (.dK (pastK (stF ds).ps)) → H S = none → H D = none → H P = none → Q (.ref t) H'
section
variable {P : Program} {w : World} {K : PySem.W.Frag} {mg : Str → Option Value} {base : Heap}
theorem ok_done {f : Addr} {fd : FuncData} (F : Fun K "_law_done" "_law_done" sDone f fd) (hT : Nm mg) (CC : Cal P w K mg base 1 "_law_came" ["stand", "rest", "number", "patience"] spCame) : FnOk P w K mg base CX0 2 f fd ["deeds"] spDone := by
  refine F.ok scDone (fun vs H Q E ⟨A, ws, ds, e, _⟩ => by rw [e]; rfl) (fun cdv A' outer s H vs Q E hr h => ?_)
  obtain ⟨A, ws, ds, rfl, eA, hws, hv, hl, q⟩ := h
  have nd := scDone.nd
  have hu := hu_of hr
  refine ⟨_, (pss_cons (ps_par3 (i := 1) (j := 2) (l := 3) rfl nd rfl rfl rfl (by decide) (by decide) (by decide) rfl rfl rfl (pa_cons (pe_lst pa_nil) (pa_cons pe_dnewK (pa_cons pe_dnewK pa_nil))) (by rfl))
      (pss_cons (ps_for PassesOwn.never rfl (pi_list (pv 0)) (pg_name (i := 4) nd rfl (.inl rfl)) (pss_one (ps_if (pt_cmpR op_eq (pe_ix ix_tup (pv 4) pe_int (fun _ _ => rfl)) pe_str (nomark _)) (pss_one (ps_set (i := 1) nd rfl (.inl rfl) (pe_slice sl_list (pv 1) (po_some pe_int) po_none))) (pss_cons (ps_set (i := 5) nd rfl (.inl rfl) (pe_callB call_lenD (by rfl) hT.len PySem.boot_len (pa_cons (pv 3) pa_nil)))
      (pss_cons (ps_set (i := 6) nd rfl (.inl rfl) (pe_cal CC hr (by rfl) (pa_cons (pv 1) (pa_cons (pv 2) (pa_cons (pv 5) (pa_cons (pe_ix ix_tup (pv 4) pe_int (fun _ _ => rfl)) pa_nil))))))
      (pss_cons (ps_for PassesOwn.never rfl (pi_list (pe_slice sl_list (pv 6) (po_some (pe_op op_add (pe_bm PySem.F.plainAttrs_list PySem.F.slot_list_index PySem.F.type_list_index mt_index (pv 6) (pa_cons (pv 5) pa_nil)) pe_int)) po_none)) (pg_name (i := 7) nd rfl (.inl rfl)) (pss_one (ps_dput hu (pv 3) (pv 7) (pe_op op_add (pe_dget hu (pv 3) (pv 7) (fun _ _ => rfl)) pe_int) rfl)))
      (pss_cons (ps_dput hu (pv 3) (pv 5) pe_int rfl)
      (pss_one (ps_set (i := 1) nd rfl (.inl rfl) (pv 6))))))))))
      (pss_one (ps_ret (pe_tup (pa_cons (pv 1) (pa_cons (pv 2) (pa_cons (pv 3) pa_nil)))))))), ?_⟩
  refine ⟨Nat.zero_le _, fun S nS D nD P nP => ⟨_, _, _, rfl, ?_⟩⟩
  have nSD : S ≠ D := fun z => by rw [← z, upd_same] at nD; cases nD
  have nD0 : H D = none := (same_upd nS).free nD
  have nDP : D ≠ P := fun z => by rw [← z, upd_same] at nP; cases nP
  have nSP : S ≠ P := fun z => by rw [← z, upd_ne nSD, upd_same] at nP; cases nP
  have nP0 : H P = none := (same_upd nS).free ((same_upd nD).free nP)
  have s0 : Same H (upd (upd (upd H S (.lst [])) D (.dK [])) P (.dK [])) := ((same_upd nS).trans (same_upd nD)).trans (same_upd nP)
  have eS0 : (upd (upd (upd H S (.lst [])) D (.dK [])) P (.dK [])) S = some (.lst (ppl [])) := by rw [upd_ne nSP, upd_ne nSD]; exact upd_same
  have eD0 : (upd (upd (upd H S (.lst [])) D (.dK [])) P (.dK [])) D = some (.dK []) := by rw [upd_ne nDP]; exact upd_same
  have eP0 : (upd (upd (upd H S (.lst [])) D (.dK [])) P (.dK [])) P = some (.dK (pastK [])) := upd_same
  show tSeq _ _ _ [some (.ref A), some (.ref S), some (.ref D), some (.ref P), none, none, none, none] (upd (upd (upd H S (.lst [])) D (.dK [])) P (.dK []))
  generalize upd (upd (upd H S (.lst [])) D (.dK [])) P (.dK []) = G0 at s0 eS0 eD0 eP0
  have hwl := hws.length
  refine ⟨.ref A, rfl, A, rfl, ⟨_, SqL.of (s0 _ _ eA)⟩, for_list (xs := ws) (fun i σ G => ∃ (S : Addr) (f : RF) (y4 y5 y6 y7 : Option V), σ = [some (.ref A), some (.ref S), some (.ref D), some (.ref P), y4, y5, y6, y7] ∧ Same H G ∧ G S = some (.lst (ppl (stF (ds.take i)).xs)) ∧ H S = none ∧ RestF G D (stF (ds.take i)).ps.length f ∧ (stF (ds.take i)).xs.map f = (stF (ds.take i)).rs ∧ G P = some (.dK (pastK (stF (ds.take i)).ps)))
    ⟨S, fun _ => none, none, none, none, none, rfl, s0, eS0, nS, ⟨[], eD0, Nat.le_refl _, fun x hx => absurd hx (Nat.not_lt_zero x)⟩, rfl, eP0⟩
    (fun i σ G _ ⟨_, _, _, _, _, _, _, sG, _⟩ => SqL.of (sG _ _ eA)) (fun i v σ G hi hP => ?_) (fun σ G hP => ?_)⟩
  · obtain ⟨S, f, y4, y5, y6, y7, rfl, sG, eS, nS, hR, hf, eP⟩ := hP
    obtain ⟨d, hd, hdv⟩ := hws.get hi
    have hil := (List.getElem?_eq_some_iff.mp hd).1
    have hsn : ds.take (i + 1) = ds.take i ++ [d] := by rw [List.take_add_one, hd]; rfl
    have hvi : Vd (ds.take i) := Vd.pre (es := ds.drop i) (by rw [List.take_append_drop]; exact hv)
    have hvn : Vd (ds.take i ++ [d]) := by rw [← hsn]; exact Vd.pre (es := ds.drop (i + 1)) (by rw [List.take_append_drop]; exact hv)
    rw [hsn, stF_snoc]
    have ok := hvi.ok
    have hxn := hvi.nodup
    obtain ⟨c1, c2⟩ := ds_count hvi 300 (by rw [List.length_take]; omega)
    generalize stF (ds.take i) = s at eS hR hf eP ok hxn c1 c2
    have nSP : S ≠ P := fun z => by rw [z, eP] at eS; cases eS
    cases d with
    | serve =>
      obtain ⟨t, rfl, et⟩ := hdv
      refine ⟨.ref t, rfl, t, _, 0, .str "serve", rfl, rfl, SqT.of (sG _ _ et), atI_nat (j := 0) rfl, rfl, _, rfl, ite2 (fun _ => ?_) (fun y => absurd (decide_eq_true rfl) y)⟩
      refine ⟨.ref S, rfl, 1, rfl, S, _, rfl, SqL.of eS, fun p np => ?_⟩
      have e1 : cutV (ppl s.xs) (some 1) none = ppl s.xs.tail := by
        rw [show (1 : Int) = ((1 : Nat) : Int) from rfl, cut_from]
        unfold ppl
        rw [← List.map_drop, List.drop_one]
      rw [e1]
      have sp1 : Same G (upd G p (.lst (ppl s.xs.tail))) := same_upd np
      obtain ⟨kvs, k1, k2, k3⟩ := hR
      refine ⟨p, f, _, _, _, _, rfl, sG.trans sp1, upd_same, sG.free np, ⟨kvs, sp1 _ _ k1, k2, k3⟩, ?_, sp1 _ _ eP⟩
      show s.xs.tail.map f = s.rs.tail
      rw [← hf, List.map_tail]
    | come p =>
      obtain ⟨t, rfl, et⟩ := hdv
      refine ⟨.ref t, rfl, t, _, 0, .str "come", rfl, rfl, SqT.of (sG _ _ et), atI_nat (j := 0) rfl, rfl, _, rfl, ite2 (fun y => absurd (of_decide_eq_true y) (fun z => word_ne (by injection z with z; exact z.symm))) (fun _ => ?_)⟩
      refine ⟨.ref P, rfl, P, _, rfl, eP, ?_⟩
      rw [pastK_len]
      dsimp only [gName]
      show tSeq _ _ _ [some (.ref A), some (.ref S), some (.ref D), some (.ref P), some (.ref t), some (.int (s.ps.length : Int)), y6, y7] G
      refine ⟨.ref S, rfl, .ref D, rfl, .int (s.ps.length : Int), rfl, .ref t, rfl, t, _, 1, optV p, rfl, rfl, SqT.of (sG _ _ et), atI_nat (j := 1) rfl, S, D, s.xs, s.ps.length, p, f, rfl, eS, hR, ok.lt, hxn, by omega, by omega, fun T H5 k f' hc hb eT nT hR5 => ?_⟩
      have ek : k = s.k := by rw [hc.k, hf, ok.len]
      have e2 : (goes s.xs.length (s.xs.map f)) = goes s.rs.length s.rs := by rw [hf, ok.len]
      have s5 : Same H H5 := fun b o e => hb b o (fun z => by rw [z, nD0] at e; cases e) (sG _ _ e)
      have eP5 := hb P _ (Ne.symm nDP) eP
      subst ek
      obtain ⟨g1, g2⟩ := goes_le s.rs.length s.rs
      have hk : s.k ≤ s.xs.length := by rw [ok.len]; exact g1
      have lt : (s.xs.take s.k).length = s.k := by rw [List.length_take]; omega
      dsimp only [gName]
      show tSeq _ _ _ [some (.ref A), some (.ref S), some (.ref D), some (.ref P), some (.ref t), some (.int (s.ps.length : Int)), some (.ref T), y7] H5
      have hT0 : H T = none := sG.free nT
      -- later[later.index(number) + 1:]
      refine ⟨.ref T, rfl, .ref T, rfl, .inl ⟨rfl, _, SqL.of eT⟩, .int (s.ps.length : Int), rfl, T, _, _, s.k, .int (s.ps.length : Int), rfl, rfl, SqL.of eT, rfl, ppl_flat _, ?_, by simp [eqV], fun m z' hm hz => ?_, _, 1, rfl, rfl, _, rfl, T, _, rfl, SqL.of eT, fun D2 nD2 => ?_⟩
      · unfold ppl
        rw [List.getElem?_map, List.getElem?_append_right (by omega), lt, Nat.sub_self]
        rfl
      · unfold ppl at hz
        rw [List.getElem?_map, List.getElem?_append_left (by omega), List.getElem?_take, if_pos hm, List.getElem?_eq_getElem (by omega)] at hz
        obtain rfl := (Option.some.inj hz).symm
        have := ok.lt _ (List.getElem_mem (show m < s.xs.length by omega))
        show (((s.xs[m] : Nat) : Int) == (s.ps.length : Int)) = false
        rw [beq_eq_false_iff_ne]
        omega
      have ec : cutV (ppl (s.xs.take s.k ++ s.ps.length :: s.xs.drop s.k)) (some ((s.k : Int) + 1)) none = ppl (s.xs.drop s.k) := by
        rw [show (s.k : Int) + 1 = ((s.k + 1 : Nat) : Int) from rfl, cut_from]
        unfold ppl
        rw [← List.map_drop, List.drop_append, lt, List.drop_of_length_le (by omega), show s.k + 1 - s.k = 1 by omega]
        rfl
      rw [ec]
      have sD2 : Same H5 (upd H5 D2 (.lst (ppl (s.xs.drop s.k)))) := same_upd nD2
      have eD2 : (upd H5 D2 (.lst (ppl (s.xs.drop s.k)))) D2 = some (.lst (ppl (s.xs.drop s.k))) := upd_same
      have nD2P : D2 ≠ P := fun z => by rw [z, eP5] at nD2; cases nD2
      generalize upd H5 D2 (.lst (ppl (s.xs.drop s.k))) = H6 at sD2 eD2
      refine ⟨D2, rfl, ⟨_, SqL.of eD2⟩, for_list (xs := ppl (s.xs.drop s.k)) (fun j σ G => (∃ y7, σ = [some (.ref A), some (.ref S), some (.ref D), some (.ref P), some (.ref t), some (.int (s.ps.length : Int)), some (.ref T), y7]) ∧ (∀ b, b ≠ P → G b = H6 b) ∧ G P = some (.dK (pastK (bump s.ps ((s.xs.drop s.k).take j)))))
        ⟨⟨_, rfl⟩, fun _ _ => rfl, sD2 _ _ eP5⟩ (fun j σ G _ ⟨_, kG, _⟩ => SqL.of (by rw [kG _ nD2P]; exact eD2)) (fun j x σ G hx hP => ?_) (fun σ G hP => ?_)⟩
      · obtain ⟨⟨y7, rfl⟩, kG, eG⟩ := hP
        have il : j < (s.xs.drop s.k).length := by rw [← ppl_len]; exact (List.getElem?_eq_some_iff.mp hx).1
        rw [ppl_get il] at hx
        obtain rfl := (Option.some.inj hx).symm
        have hsn : (s.xs.drop s.k).take (j + 1) = (s.xs.drop s.k).take j ++ [(s.xs.drop s.k)[j]] := by rw [List.take_add_one, List.getElem?_eq_getElem il]; rfl
        have hlt : (s.xs.drop s.k)[j] < s.ps.length := ok.lt _ (List.mem_of_mem_drop (List.getElem_mem il))
        rw [hsn, bump_snoc]
        have hbl := bump_len ((s.xs.drop s.k).take j) s.ps
        generalize bump s.ps ((s.xs.drop s.k).take j) = qs at eG hbl
        generalize (s.xs.drop s.k)[j] = y at hlt
        have dg : DGet G P (.int (y : Int)) (some (.int (qs.getD y 0 : Nat))) := by rw [← pastK_get (ps := qs) (by omega)]; exact DGet.k (k := Sum.inl (y : Int)) eG
        refine ⟨.ref P, rfl, .int (y : Int), rfl, P, _, rfl, dg, _, 1, rfl, rfl, .ref P, rfl, .int (y : Int), rfl, P, _, rfl, DPut.k (k := Sum.inl (y : Int)) eG (by rw [pastK_len]; exact small1000 (by omega)), ⟨_, rfl⟩, fun b nb => by rw [upd_ne nb]; exact kG b nb, ?_⟩
        rw [upd_same]
        show some (HO.dK (putK (pastK qs) (Sum.inl (y : Int) : Key) (V.int ((qs.getD y 0 + 1 : Nat) : Int)))) = _
        rw [pastK_set (by omega)]
      · obtain ⟨⟨y7, rfl⟩, kG, eG⟩ := hP
        rw [ppl_len, List.take_length] at eG
        have hbl := bump_len (s.xs.drop s.k) s.ps
        have up : ∀ {b : Addr} {o : HO}, b ≠ P → H5 b = some o → G b = some o := fun {b o} n e => by rw [kG b n]; exact sD2 _ _ e
        obtain ⟨kvs, k1, k2, k3⟩ := hR5
        have nTP : T ≠ P := fun z => by rw [z, eP5] at eT; cases eT
        dsimp only []
        show tSeq _ _ _ [some (.ref A), some (.ref S), some (.ref D), some (.ref P), some (.ref t), some (.int (s.ps.length : Int)), some (.ref T), y7] G
        refine ⟨.ref P, rfl, .int (s.ps.length : Int), rfl, P, _, rfl, DPut.k (k := Sum.inl (s.ps.length : Int)) eG (by rw [pastK_len]; exact small1000 (by omega)), .ref T, rfl, ?_⟩
        have en : putK (pastK (bump s.ps (s.xs.drop s.k))) (Sum.inl (s.ps.length : Int) : Key) (V.int 0) = pastK (bump s.ps (s.xs.drop s.k) ++ [0]) := by
          rw [← hbl]
          exact pastK_new _
        have hps : (comeS s p).ps.length = s.ps.length + 1 := by show (bump _ _ ++ [0]).length = _; rw [List.length_append, hbl]; rfl
        refine ⟨T, f', _, _, _, _, rfl, fun b o e => ?_, ?_, hT0, ⟨kvs, ?_, ?_, ?_⟩, ?_, ?_⟩
        · rw [upd_ne (fun z => by rw [z, nP0] at e; cases e)]
          exact up (fun z => by rw [z, nP0] at e; cases e) (s5 _ _ e)
        · rw [upd_ne nTP]
          exact up nTP eT
        · rw [upd_ne nDP]
          exact up nDP k1
        · show kvs.length ≤ (comeS s p).ps.length
          rw [hps]
          exact k2
        · show ∀ x < (comeS s p).ps.length, _
          rw [hps]
          exact k3
        · show (s.xs.take s.k ++ s.ps.length :: s.xs.drop s.k).map f' = (goes s.rs.length s.rs).2.take s.k ++ p :: (goes s.rs.length s.rs).2.drop s.k
          rw [List.map_append, List.map_cons, hc.n, List.map_take, List.map_drop, hc.l, e2]
        · rw [upd_same]
          show some (HO.dK (putK (pastK (bump s.ps (s.xs.drop s.k))) (Sum.inl (s.ps.length : Int) : Key) (V.int 0))) = _
          rw [en]
          rfl
  · obtain ⟨S, f, y4, y5, y6, y7, rfl, sG, eS, nS, hR, hf, eP⟩ := hP
    rw [hwl, List.take_length] at eS hR hf eP
    refine ⟨.ref S, rfl, .ref D, rfl, .ref P, rfl, small_le (by show 3 ≤ 1000; decide), fun t nt => ?_⟩
    have st : Same G (upd G t (.tup [.ref S, .ref D, .ref P])) := same_upd nt
    obtain ⟨kvs, k1, k2, k3⟩ := hR
    exact q t S D P _ f (sG.trans st) upd_same (st _ _ eS) ⟨kvs, st _ _ k1, k2, k3⟩ hf (st _ _ eP) nS nD0 nP0
end
end CL
set_option Elab.async false
set_option linter.all false
set_option maxRecDepth 100000
set_option maxHeartbeats 4000000
namespace CL
open PySem PySem.Spec PyProof.Rows L2 GE
abbrev sPatL : Stmt := topS 21
theorem scPatL : FnScope ["bag", "most"] ["bag", "most"] (defScope sPatL) := ⟨rfl, rfl, rfl, by decide +kernel, rfl, by decide +kernel, by decide +kernel⟩
def spE (sp : Bg → Sp) : Sp := fun vs H Q E => ∃ r, sp r vs H Q E
def spPatL (r : Bg) : Sp := fun vs H Q _ => ∃ (m : Int) (n : Nat), vs = [.ref r.a, .int m] ∧ BagAt n H r ∧ n + 4 < M60 ∧ 2 ≤ m ∧ m ≤ GREAT ∧ ∀ o H', BagAt (n + 4) H' r → Mv r H H' → isPatience (optD o) = true → (∀ i, o = some i → i ≤ m) → Q (optV o) H'
theorem t140 : (2 : Int) ^ 140 = 1393796574908163946345982392040522594123776 := by decide +kernel
theorem pat_some {i : Int} (h0 : 0 ≤ i) (h1 : i ≤ GREAT) : isPatience (optD (some i)) = true := by
  show (decide (0 ≤ i) && decide (i ≤ GREAT)) = true
  rw [decide_eq_true h0, decide_eq_true h1]
  rfl
section
variable {P : Program} {w : World} {K : PySem.W.Frag} {mg : Str → Option Value} {base : Heap}
theorem ok_patL {f : Addr} {r : Bg} {fd : FuncData} (F : Fun K "_law_patience" "_law_patience" sPatL f fd) (CD : Cal P w K mg base 2 "_law_draw" ["bag", "many"] (spDraw r)) : FnOk P w K mg base CX0 3 f fd ["bag", "most"] (spPatL r) := by
  refine F.ok scPatL (fun vs H Q E ⟨m, n, e, _⟩ => by rw [e]; rfl) (fun cdv A outer s H vs Q E hr h => ?_)
  obtain ⟨m, n, rfl, hb, hn, hm0, hm, q⟩ := h
  refine ⟨_, pss_one (ps_ret (pe_ix ix_list (pe_lst (pa_cons (pe_cal CD hr (by rfl) (pa_cons (pv 0) (pa_cons pe_int pa_nil))) (pa_cons (pe_cal CD hr (by rfl) (pa_cons (pv 0) (pa_cons pe_int pa_nil))) (pa_cons (pe_cal CD hr (by rfl) (pa_cons (pv 0) (pa_cons (pe_op op_add (pv 1) pe_int) pa_nil))) (pa_cons pe_non pa_nil))))) (pe_cal CD hr (by rfl) (pa_cons (pv 0) (pa_cons pe_int pa_nil))) (fun _ _ => rfl))), ?_⟩
  have hm' : m ≤ 1000000000000000000000000000000 := hm
  refine ⟨.ref r.a, rfl, 3, n, rfl, hb, by omega, by decide, by decide, fun x1 H1 b1 v1 a1 c1 => ?_⟩
  refine ⟨.ref r.a, rfl, 3, n + 1, rfl, b1, by omega, by decide, by decide, fun x2 H2 b2 v2 a2 c2 => ?_⟩
  refine ⟨.ref r.a, rfl, .int m, rfl, m, 1, rfl, rfl, m + 1, n + 2, rfl, b2, by omega, by omega, by rw [t140]; omega, fun x3 H3 b3 v3 a3 c3 => ?_⟩
  refine ⟨small_le (by show 4 ≤ 1000; decide), fun p np => ?_⟩
  have s4 : Same H3 (upd H3 p (.lst [.int x1, .int x2, .int x3, .non])) := same_upd np
  have e4 : (upd H3 p (.lst [.int x1, .int x2, .int x3, .non])) p = some (.lst ([some x1, some x2, some x3, none].map optV)) := upd_same
  have npr := b3.new np
  generalize upd H3 p (.lst [.int x1, .int x2, .int x3, .non]) = H4 at s4 e4
  refine ⟨.ref r.a, rfl, 4, n + 3, rfl, b3.same s4, by omega, by decide, by decide, fun x5 H5 b5 v5 a5 c5 => ?_⟩
  obtain ⟨j, rfl⟩ : ∃ j : Nat, x5 = (j : Int) := ⟨x5.toNat, by omega⟩
  have hj : j < [some x1, some x2, some x3, none].length := by show j < 4; omega
  have key : isPatience (optD [some x1, some x2, some x3, none][j]) = true ∧ ∀ i, [some x1, some x2, some x3, none][j] = some i → i ≤ m := by
    have g1 : (1000000000000000000000000000000 : Int) = GREAT := rfl
    match j, hj with
    | 0, _ => exact ⟨pat_some a1 (by omega), fun i e => by cases e; omega⟩
    | 1, _ => exact ⟨pat_some a2 (by omega), fun i e => by cases e; omega⟩
    | 2, _ => exact ⟨pat_some a3 (by omega), fun i e => by cases e; omega⟩
    | 3, _ => exact ⟨rfl, fun i e => by cases e⟩
  exact ⟨p, _, j, optV [some x1, some x2, some x3, none][j], rfl, rfl, SqL.of (v5.keep p _ npr.a e4), atI_nat (by rw [List.getElem?_map, List.getElem?_eq_getElem hj]; rfl), q _ H5 b5 ((v1.trans v2).trans (v3.trans ((Mv.of s4).trans v5))) key.1 key.2⟩
end
/-! ### lists of numbers and None, as data -/
theorem opts_dp {K : PySem.W.Frag} {H : Hp} : ∀ os : List (Option Int), DpAll K H (os.map optV) (os.map optD)
  | [] => .nil
  | o :: os => .cons (optV_dp o) (opts_dp os)
theorem opts_lay : ∀ os : List (Option Int), PyData.canLayAll0 (os.map optD) = true
  | [] => by simp [PyData.canLayAll0]
  | o :: os => by
    have := opts_lay os
    cases o <;> simp [PyData.canLayAll0, PyData.canLay0, this, optD]
theorem opts_depth : ∀ os : List (Option Int), PyData.depthAll (os.map optD) = 0
  | [] => rfl
  | o :: os => by
    have := opts_depth os
    show max (PyData.depth (optD o)) (PyData.depthAll (os.map optD)) = 0
    rw [this]
    cases o <;> rfl
theorem opts_shaped (os : List (Option Int)) : SeqAt.shaped (.list (os.map optD)) = true := by
  unfold SeqAt.shaped
  have h1 : PyData.canLay0 (.list (os.map optD)) = true := by
    have := opts_lay os
    simp [PyData.canLay0, this]
  have h2 : PyData.depth (.list (os.map optD)) = 1 := by
    show PyData.depthAll (os.map optD) + 1 = 1
    rw [opts_depth]
  rw [h1, h2]
  rfl
theorem eqvAll_opts : ∀ as : List (Option Int), PyData.eqvAll (as.map optD) (as.map optD) = true
  | [] => by simp [PyData.eqvAll]
  | o :: as => by
    have := eqvAll_opts as
    cases o <;> simp [PyData.eqvAll, PyData.eqv, optD, this]
theorem eqv_opts (as : List (Option Int)) : PyData.eqv (.list (as.map optD)) (.list (as.map optD)) = true := by
  have := eqvAll_opts as
  simp [PyData.eqv, this]
def so (xs : List Nat) : List (Option Int) := xs.map fun x : Nat => some (x : Int)
theorem ppl_so (xs : List Nat) : ppl xs = (so xs).map optV := by
  unfold ppl so
  rw [List.map_map]
  rfl
theorem opts_flat : ∀ os : List (Option Int), (os.map optV).all flatV = true
  | [] => rfl
  | o :: os => by
    have := opts_flat os
    cases o <;> simp [optV, flatV, this]
theorem inV_zero : ∀ os : List (Option Int), inV (.int 0) (os.map optV) = decide (some 0 ∈ os)
  | [] => rfl
  | o :: os => by
    have ih := inV_zero os
    unfold inV at ih ⊢
    rw [List.map_cons, List.any_cons, ih]
    cases o with
    | none => simp [optV, eqV]
    | some i =>
      show ((i == 0) || decide (some 0 ∈ os)) = decide (some 0 ∈ some i :: os)
      by_cases h : i = 0
      · simp [h]
      · have h' : ¬ (0 : Int) = i := fun z => h z.symm
        simp [h, h']
theorem range_ppl (m : Nat) : rgV 0 (m : Int) = ppl (List.range m) := by
  unfold rgV ppl
  have e : ((m : Int) - 0).toNat = m := by omega
  rw [e]
  refine List.map_congr_left fun i _ => ?_
  rw [Int.zero_add]
def rNeE : R2 := fun x y H Q => ∃ (a b : Addr) (xs : List V), x = .ref a ∧ y = .ref b ∧ H a = some (.lst xs) ∧ H b = some (.lst []) ∧ Q (.bl (!xs.isEmpty)) H
theorem op_neE {X : Cx} (hu : X.A.units < cLine) : OpR X (compareOp .NotEq) rNeE := by
  intro pins s σ H x y v u Q I rx ry ⟨a, b, xs, ex, ey, ha, hb, q⟩
  subst ex ey
  obtain ⟨its, rv, p1, _⟩ := I.list (SqL.of ha)
  obtain ⟨jts, rw', p2, _⟩ := I.list (SqL.of hb)
  cases rx
  cases ry
  have l1 := rv.length
  have l2 := rw'.length
  cases xs with
  | nil =>
    have e : its.toArray.size = jts.toArray.size := by rw [List.size_toArray, List.size_toArray, ← l1, ← l2]
    have e0 : its.toArray.size = 0 := by rw [List.size_toArray, ← l1]; rfl
    have z := SeqAt.RcNeAt.lists (A := X.A) (e := fun _ => true) p1.isList p2.isList e hu (fun j h1 => absurd h1 (by rw [e0]; exact Nat.not_lt_zero j))
    refine z X.prog X.w _ _ ⟨.bl _, H, I, ?_, q⟩
    rw [e0]
    rfl
  | cons x xs =>
    have e : (its.toArray.size != jts.toArray.size) = true := by
      rw [List.size_toArray, List.size_toArray, ← l1, ← l2]
      rfl
    exact SeqAt.RcNeAt.lists_lengths (A := X.A) p1.isList p2.isList e hu X.prog X.w _ _ ⟨.bl _, H, I, rfl, q⟩
theorem Flds.come {fs : List (Str × V)} {L : LnA} (h : Flds fs L) : fs.lookup ("come" : Str) = none := h.no _ (by decide +kernel) (by decide +kernel) (by decide +kernel) (by decide +kernel) (by decide +kernel)
theorem Flds.serve {fs : List (Str × V)} {L : LnA} (h : Flds fs L) : fs.lookup ("serve" : Str) = none := h.no _ (by decide +kernel) (by decide +kernel) (by decide +kernel) (by decide +kernel) (by decide +kernel)
theorem Flds.queue {fs : List (Str × V)} {L : LnA} (h : Flds fs L) : fs.lookup ("queue" : Str) = none := h.no _ (by decide +kernel) (by decide +kernel) (by decide +kernel) (by decide +kernel) (by decide +kernel)
theorem Flds.left {fs : List (Str × V)} {L : LnA} (h : Flds fs L) : fs.lookup ("left" : Str) = none := h.no _ (by decide +kernel) (by decide +kernel) (by decide +kernel) (by decide +kernel) (by decide +kernel)
theorem Flds.went {fs : List (Str × V)} {L : LnA} (h : Flds fs L) : fs.lookup ("went_past" : Str) = none := h.no _ (by decide +kernel) (by decide +kernel) (by decide +kernel) (by decide +kernel) (by decide +kernel)
/-! ### a bag and lines side by side -/
section
variable {n : Nat} {C : Addr} {H H' : Hp} {r : Bg} {L : LnA} {s : LS}
theorem BagAt.mvL (hb : BagAt n H r) (h1 : ¬ L.has r.a) (h2 : ¬ L.has r.c) (m : MvL L H H') : BagAt n H' r := by
  obtain ⟨ns, i, b, k, t, er, ec, h⟩ := hb
  exact ⟨ns, i, b, k, t, m.keep _ _ h1 er, m.keep _ _ h2 ec, h⟩
theorem BagAt.isl (hb : BagAt n H r) : ∃ vs, H r.a = Option.some (HO.lst vs) := by
  obtain ⟨ns, i, b, k, t, er, ec, h⟩ := hb
  exact ⟨_, er⟩
theorem LineAt.mv (h : LineAt C H L s) (hb : BagAt n H r) (d : ¬ L.has r.a) (m : Mv r H H') : LineAt C H' L s := h.kx fun b o hbo e => m.keep b o (fun z => by
  rcases hbo with q | q
  · exact d (by rw [← z]; exact q)
  · obtain ⟨vs, e2⟩ := hb.isl
    rw [z, e2] at e
    exact q vs (Option.some.inj e).symm) e
theorem LineAt.store (h : LineAt C H L s) {g : Addr} {xs ys : List V} (e : H g = some (.lst xs)) (d : ¬ L.has g) : LineAt C (upd H g (.lst ys)) L s := h.kx fun b o hbo eb => by
  rw [upd_ne]
  · exact eb
  · intro z
    rcases hbo with q | q
    · exact d (by rw [← z]; exact q)
    · rw [z, e] at eb
      exact q _ (Option.some.inj eb).symm
end
end CL
set_option Elab.async false
set_option linter.all false
set_option maxRecDepth 100000
set_option maxHeartbeats 4000000
namespace CL
open PySem PySem.Spec PyProof.Rows L2 GE
/-! ### how much a thing weighs -/
mutual
def wt : PyData → Nat
  | .none => 4
  | .bool _ => 5
  | .int i => i.natAbs.log2 + 4
  | .str x => (reprText x).length
  | .list xs => wtAll xs + 4
  | .tuple xs => wtAll xs + 4
  | .dict kvs => kvs.length * 100000000 + 2
def wtAll : List PyData → Nat
  | [] => 0
  | x :: xs => wt x + 2 + wtAll xs
end
structure B (k u : Nat) (d : PyData) : Prop where
  dp : d.depth ≤ k
  wt : wt d ≤ u
  sh : d.showable = true
theorem B.mono {k u k' u' : Nat} {d : PyData} (b : B k u d) (hk : k ≤ k') (hu : u ≤ u') : B k' u' d := ⟨Nat.le_trans b.dp hk, Nat.le_trans b.wt hu, b.sh⟩
theorem all_bnd {k u : Nat} : ∀ {ds : List PyData}, (∀ x ∈ ds, B k u x) → PyData.depthAll ds ≤ k ∧ wtAll ds ≤ ds.length * (u + 2) ∧ PyData.showableAll ds = true
  | [], _ => ⟨Nat.zero_le _, by simp [wtAll], by simp [PyData.showableAll]⟩
  | x :: ds, h => by
    obtain ⟨h1, h2, h3⟩ := all_bnd (ds := ds) fun y hy => h y (List.mem_cons_of_mem _ hy)
    have hx := h x List.mem_cons_self
    refine ⟨?_, ?_, ?_⟩
    · show max _ _ ≤ k
      exact Nat.max_le.mpr ⟨hx.dp, h1⟩
    · show wt x + 2 + wtAll ds ≤ _
      rw [List.length_cons, Nat.add_mul]
      have := hx.wt
      omega
    · simp [PyData.showableAll, hx.sh, h3]
theorem B.list {k u n : Nat} {ds : List PyData} (h : ∀ x ∈ ds, B k u x) (hn : ds.length ≤ n) : B (k + 1) (n * (u + 2) + 4) (.list ds) := by
  obtain ⟨h1, h2, h3⟩ := all_bnd h
  have := Nat.mul_le_mul_right (u + 2) hn
  refine ⟨?_, ?_, ?_⟩
  · show PyData.depthAll ds + 1 ≤ k + 1
    omega
  · show wtAll ds + 4 ≤ _
    omega
  · simp [PyData.showable, h3]
theorem B.tuple {k u n : Nat} {ds : List PyData} (h : ∀ x ∈ ds, B k u x) (hn : ds.length ≤ n) : B (k + 1) (n * (u + 2) + 4) (.tuple ds) := by
  obtain ⟨h1, h2, h3⟩ := all_bnd h
  have := Nat.mul_le_mul_right (u + 2) hn
  refine ⟨?_, ?_, ?_⟩
  · show PyData.depthAll ds + 1 ≤ k + 1
    omega
  · show wtAll ds + 4 ≤ _
    omega
  · simp [PyData.showable, h3]
theorem b_none {k : Nat} : B k 200 .none := ⟨Nat.zero_le _, by decide, rfl⟩
theorem b_bool {k : Nat} {b : Bool} : B k 200 (.bool b) := ⟨Nat.zero_le _, by show 5 ≤ 200; decide, rfl⟩
theorem b_int {k : Nat} {i : Int} (h : i.natAbs < 2 ^ 140) : B k 200 (.int i) := by
  have h1 : i.natAbs.log2 < 140 := PySem.Flt.log2_lt_of (by decide) h
  exact ⟨Nat.zero_le _, by show i.natAbs.log2 + 4 ≤ 200; omega, by simp [PyData.showable]; omega⟩
/-! ### a def that is called where no repr is under way -/
structure FnG (P : Program) (w : World) (K : PySem.W.Frag) (mg : Str → Option Value) (base : Heap) (k : Nat) (f : Addr) (fd : FuncData) (ps : List Str) (sp : Sp) : Prop where
  run : ∀ (A : Around) (outer : List Env) (s : Shared) (H : Hp) (args : Args) (us : List Value) (vs : List V) (Q : VK) (E : XK), A.guards = some [] → Room k A → Env0 P w K mg base A outer s H → BindsTo s fd args (ps.zip us) → Vals vs us → sp vs H Q E →
    codeAny (model P w) A (.call (.ref f) args) (CR CX0 outer P w H s Q E) s
theorem fng_of {P : Program} {w : World} {K : PySem.W.Frag} {mg : Str → Option Value} {base : Heap} {x qual : Str} {st : Stmt} {f : Addr} {fd : FuncData} {N ps : List Str} {k : Nat} {sp : Sp} (F : Fun K x qual st f fd) (S : FnScope N ps (defScope st)) (len : ∀ vs H Q E, sp vs H Q E → vs.length = ps.length)
    (hbody : ∀ (cdv : Value) (A : Around) (outer : List Env) (s : Shared) (H : Hp) (vs : List V) (Q : VK) (E : XK), A.guards = some [] → Room k (A.deeper (envOfC qual (defScope st) s.heap.objs.size f cdv)) → sp vs H Q E →
      ∃ t, PSs (cxOf CX0 P w K mg base N qual (defScope st) f cdv A outer s H E).nox (defBody st) t ∧ t { nx := fun _ H' => Q .non H', rt := Q } (start N vs) H) : FnG P w K mg base (k + 1) f fd ps sp := by
  obtain ⟨oc, od, kV, doc, pm, an, cdv, ct, osl, rfl, lk, hcd⟩ := F.ex
  constructor
  intro A outer s H args us vs Q E hgd hr e0 hb r hsp
  have hl : vs.length = ps.length := len _ _ _ _ hsp
  have up : ∀ b o, base.get? b = some o → s.heap.get? b = some o := fun b o e => (e0.bs b o e).1
  have KX : K.In s.heap := e0.mod.kin.keeps up
  have pk : ∀ y ∈ ps.zip us, (defScope st).names.lookup y.1 = some .local ∨ ((defScope st).names.lookup y.1 = some .cell ∧ ((cellsFrom (s.heap.objs.size + 1) (defScope st).names []).lookup y.1).isSome = true) := by
    rintro ⟨n, v⟩ hy
    exact (S.par n (List.of_mem_zip hy).1).imp id fun q => ⟨q, PySem.W.cellsFrom_some _ _ _ (.inl q)⟩
  refine codeAny_call_function hr.depth (KX _ _ lk) rfl S.co S.gen rfl (PySem.W.codeRec_of KX hcd) (hb _ _ _ _ (wpAny_newFunctionEnv_cells S.kind pk fun env he s1 x => ?_))
  subst he
  obtain ⟨t, ht, hq⟩ := hbody cdv A outer s H vs Q E hgd (hr.deeper _) hsp
  refine ⟨(e0.mod.nolimit.keeps up).keeps x.toInCall.keep, codeAny_func (wpAny_mono (ht.nox.run [] s1 (start N vs) H _ (inv_start S hr.hd e0 hl r x) hq) (fun fl s' hs => ?_) fun _ _ z => z)⟩
  cases fl with
  | ret u =>
    obtain ⟨v, _, H', J, rv, z⟩ := hs
    exact ⟨v, H', J.os, J.bare, J.base, J.hok, rv, z⟩
  | next =>
    obtain ⟨_, H', J, z⟩ := hs
    exact ⟨.non, H', J.os, J.bare, J.base, J.hok, rfl, z⟩
  | brk => exact (let ⟨_, _, _, z⟩ := hs; z : False).elim
  | cont => exact (let ⟨_, _, _, z⟩ := hs; z : False).elim
/-! ### repr of data -/
section
variable {X : Cx} {pins : List (Addr × Obj)} {σ : L2.St} {H : Hp} {s : Shared}
mutual
theorem Rp.reads (hsys : ∃ o, X.base.get? sysModules = some o) (I : Inv X pins σ H s) : ∀ (d : PyData) (v : V) (u : Value), Rp H v d → RelV v u → ∃ as, Reads s.heap u d as ∧ sysModules ∉ as
  | .none, _, _, h, r => by cases h; cases r; exact ⟨_, Reads.none, by simp⟩
  | .bool b, _, _, h, r => by cases h; cases r; exact ⟨_, Reads.bool b, by simp⟩
  | .int i, _, _, h, r => by cases h; obtain ⟨t, rfl⟩ := r; exact ⟨_, Reads.int i t, by simp⟩
  | .str x, _, _, h, r => by cases h; obtain ⟨t, rfl⟩ := r; exact ⟨_, Reads.str x t, by simp⟩
  | .list ds, _, _, h, r => by
    cases h with
    | @lst a xs _ hs ha =>
      cases r
      obtain ⟨its, rv, ⟨o, n, ho, hc, _, hd⟩, _⟩ := I.list (SqL.of hs)
      obtain ⟨as, hr, hn⟩ := RpAll.reads hsys I ds _ its ha rv
      refine ⟨_, Reads.list ho hc hd hr, fun z => (List.mem_cons.mp z).elim (fun e => ?_) hn⟩
      obtain ⟨o1, ho1⟩ := hsys
      have z := (I.bs _ _ ho1).2
      rw [e, hs] at z
      cases z
  | .tuple ds, _, _, h, r => by
    cases h with
    | tup hs ha =>
      cases r
      obtain ⟨its, rv, ⟨o, ho, hc, n, hd⟩, _⟩ := I.tuple (SqT.of hs)
      obtain ⟨as, hr, hn⟩ := RpAll.reads hsys I ds _ its ha rv
      exact ⟨_, Reads.tuple ho hc hd hr, hn⟩
  | .dict kvs, _, _, h, r => by
    cases h with
    | @dct a hs =>
      cases r
      obtain ⟨_, hne, vs, kv, o, es, ep, ho, hx, hd, _, hp, _⟩ := (show ObjOk X.prog X.w H s.heap a (.dK []) from I.hok a _ hs)
      cases kv
      have e0 : es.toList = [] := List.eq_nil_of_length_eq_zero hp.length
      refine ⟨_, Reads.dict ho hx.1 hd (by rw [e0]; exact .nil) (by rw [e0]; exact .nil), fun z => ?_⟩
      have z' : sysModules = a := by simpa using z
      rw [z'] at hne
      simp at hne
theorem RpAll.reads (hsys : ∃ o, X.base.get? sysModules = some o) (I : Inv X pins σ H s) : ∀ (ds : List PyData) (vs : List V) (us : List Value), RpAll H vs ds → Vals vs us → ∃ as, ReadsAll s.heap us ds as ∧ sysModules ∉ as
  | [], _, _, h, r => by cases h; cases r; exact ⟨_, ReadsAll.nil, by simp⟩
  | d :: ds, _, _, h, r => by
    cases h with
    | cons h1 h2 =>
      cases r with
      | cons r1 r2 =>
        obtain ⟨as, q1, n1⟩ := Rp.reads hsys I d _ _ h1 r1
        obtain ⟨bs, q2, n2⟩ := RpAll.reads hsys I ds _ _ h2 r2
        exact ⟨_, ReadsAll.cons q1 q2, fun z => (List.mem_append.mp z).elim n1 n2⟩
end
end
/-! ### how long a thing is, shown -/
theorem piled_le {ts : List Str} : ∀ {ds : List PyData}, ts = PyData.shownAll ds → (∀ d ∈ ds, d.shown.length ≤ wt d) → piled ts ≤ wtAll ds
  | [], e, _ => by rw [e]; exact Nat.le_refl 0
  | d :: ds, e, h => by
    have ih := piled_le (ts := PyData.shownAll ds) rfl fun x hx => h x (List.mem_cons_of_mem _ hx)
    have h1 := h d List.mem_cons_self
    rw [e]
    show d.shown.length + 2 + piled (PyData.shownAll ds) ≤ wt d + 2 + wtAll ds
    omega
theorem list_len (ts : List Str) : (listText ts).length ≤ piled ts + 2 := by
  cases ts with
  | nil => decide +kernel
  | cons t r =>
    have h := textFrom_length_pos r 1 (("[" : Str) ++ (if (0 : Nat) > 0 then ", " else "" : String) ++ t) (Nat.succ_pos 0)
    have hX : (listText (t :: r)).length = (textFrom 1 (("[" : Str) ++ (if (0 : Nat) > 0 then ", " else "" : String) ++ t) r).length + 1 := by
      show (textFrom 1 _ r ++ "]").length = _
      rw [Str.length_append]
      rfl
    have e1 : ((("[" : Str) ++ (if (0 : Nat) > 0 then ", " else "" : String) ++ t) : Str).length = 1 + t.length := by
      rw [Str.length_append, Str.length_append]
      rfl
    have e2 : piled (t :: r) = t.length + 2 + piled r := rfl
    omega
theorem tuple_len (ts : List Str) : (tupleText ts).length ≤ piled ts + 3 := by
  have h : (Str.join ", " ts).length ≤ piled ts := by
    by_cases e : ts = []
    · rw [e]; decide +kernel
    · have := join_length_add ts e
      omega
  unfold tupleText
  rw [Str.length_append, Str.length_append]
  have h1 : (("(" : Str)).length = 1 := by decide +kernel
  have h2 : ((if ts.length == 1 then ",)" else ")" : String) : Str).length ≤ 2 := by
    split <;> decide +kernel
  omega
mutual
theorem shown_le : ∀ d : PyData, wt d ≤ 10000000 → d.showable = true → d.shown.length ≤ wt d
  | .none, _, _ => by decide +kernel
  | .bool b, _, _ => by cases b <;> decide +kernel
  | .int i, _, _ => by
    have h := int_text_length_le (a := i) (k := i.natAbs.log2 + 1) (Nat.succ_pos _) (Nat.lt_succ_self _)
    show (Str.ofString (toString i)).length ≤ i.natAbs.log2 + 4
    rw [PySem.ofString_length]
    omega
  | .str x, _, _ => Nat.le_refl _
  | .list ds, h, s => by
    have h1 := shown_all ds (by have : wt (.list ds) = wtAll ds + 4 := rfl; omega) (by simpa [PyData.showable] using s)
    have h2 := piled_le rfl h1
    have h3 := list_len (PyData.shownAll ds)
    show (listText (PyData.shownAll ds)).length ≤ wtAll ds + 4
    omega
  | .tuple ds, h, s => by
    have h1 := shown_all ds (by have : wt (.tuple ds) = wtAll ds + 4 := rfl; omega) (by simpa [PyData.showable] using s)
    have h2 := piled_le rfl h1
    have h3 := tuple_len (PyData.shownAll ds)
    show (tupleText (PyData.shownAll ds)).length ≤ wtAll ds + 4
    omega
  | .dict [], _, _ => by decide +kernel
  | .dict (x :: kvs), h, _ => by
    have : wt (.dict (x :: kvs)) = (kvs.length + 1) * 100000000 + 2 := rfl
    omega
theorem shown_all : ∀ ds : List PyData, wtAll ds ≤ 10000000 → PyData.showableAll ds = true → ∀ d ∈ ds, d.shown.length ≤ wt d
  | [], _, _, d, hd => nomatch hd
  | x :: ds, h, s, d, hd => by
    have e : wtAll (x :: ds) = wt x + 2 + wtAll ds := rfl
    have s' : x.showable = true ∧ PyData.showableAll ds = true := by simpa [PyData.showableAll] using s
    rcases List.mem_cons.mp hd with z | z
    · rw [z]
      exact shown_le x (by omega) s'.1
    · exact shown_all ds (by omega) s'.2 d z
end
/-! ### repr(x) of a list or a tuple -/
theorem call_reprD {X : Cx} {k : Nat} (hg : X.A.guards = some []) (hr : Room k X.A) (hsys : ∃ o, X.base.get? sysModules = some o) :
    CallR X (.builtin "repr") (fun xs H Q => ∃ v d a, xs = [v] ∧ v = .ref a ∧ Rp H v d ∧ B 100 10000000 d ∧ Q (.str d.shown) H) := by
  intro pins s σ H xs us Q I r h
  obtain ⟨v, d, a, rfl, rfl, hR, hB, q⟩ := h
  obtain ⟨u, rfl, rx⟩ := vals1 r
  obtain ⟨as, hrd, hno⟩ := Rp.reads hsys I d _ _ hR rx
  cases rx
  refine repr_of_reads' hrd hB.sh (fun _ => hno) hg (by have := hr.un; have := hB.dp; omega) (fun _ _ e => e) (fun h' u tk hk => ⟨.str _, H, I.kept hk, ⟨_, rfl⟩, q⟩) ?_
  have h1 := shown_le d hB.wt hB.sh
  have h2 := hB.wt
  rw [sizeLine_eq]
  omega
structure CalG (P : Program) (w : World) (K : PySem.W.Frag) (mg : Str → Option Value) (base : Heap) (k : Nat) (x : Str) (ps : List Str) (sp : Sp) : Prop where
  ex : ∃ f fd, mg x = some (.ref f) ∧ PySem.W.keepIn K (.ref f) = true ∧ Binds K fd ps [] ∧ FnG P w K mg base k f fd ps sp
theorem pe_calG {X : Cx} {k : Nat} {x : Str} {ps : List Str} {sp : Sp} {p pos : Pos} {e : Expr} {es : List Expr} {t : TA} (C : CalG X.prog X.w X.K X.mg X.base k x ps sp) (hgd : X.A.guards = some []) (len : ∀ vs H Q E, sp vs H Q E → vs.length = ps.length) (hr : Room k X.A) (hg : Gl X x) (ha : PA X (e :: es) t) (hdb : (x == ("__debug__" : Str)) = false := by decide)
    (he : starEach (e :: es) X.env = (false, eval e X.env) :: starEach es X.env := by rfl) (hpl : (backTo pos (starEach es X.env)).any (·.1) = false := by rfl) : PE X (.Call (.Name x p) (e :: es) [] pos) (tCall sp [] E0 t) := by
  obtain ⟨f, fd, h1, h2, h3, h4⟩ := C.ex
  refine ⟨fun pins s σ H Q I h => wpAny_Call_Name_kw (ld_glob I hg h1 ?_ hdb)⟩
  have run := ha.run pos pins s σ H _ I h
  refine PySem.W.callWith_K (h₀ := X.base) I.ok.mod.kin h2 (thn run fun us s1 ⟨vs, H1, I1, r, q⟩ => ⟨I1.kIn, ?_⟩) he hpl
  have q : sp (vs ++ []) H1 Q E0 := q
  rw [List.append_nil] at q
  have b := h3 s1 us I1.kIn (by rw [List.append_nil, ← r.length]; exact len _ _ _ _ q)
  rw [List.append_nil] at b
  exact wpAny_call (codeAny_mono (h4.run X.A X.stack s1 H1 ⟨us, []⟩ us vs Q E0 hgd hr I1.env0 b r q) fun z s' hz => match z, hz with
    | .ok (.ret _), hz => I1.after hz
    | .error e, hz => pass0 pins σ H1 s1 e s' I1 hz)
/-! ### repr of None, a number, a list or a tuple -/
theorem call_reprA {X : Cx} {k : Nat} (hg : X.A.guards = some []) (hr : Room k X.A) (hsys : ∃ o, X.base.get? sysModules = some o) :
    CallR X (.builtin "repr") (fun xs H Q => ∃ v d, xs = [v] ∧ Rp H v d ∧ B 100 1000 d ∧ Q (.str d.shown) H) := by
  intro pins s σ H xs us Q I r h
  obtain ⟨v, d, rfl, hR, hB, q⟩ := h
  have rest : ∀ a, v = .ref a → wpAny (model X.prog X.w) X.A (call (.builtin "repr") us) (EP X pins σ Q) X.xe s := fun a e =>
    call_reprD hg hr hsys pins s σ H [v] us Q I r ⟨v, d, a, rfl, e, hR, hB.mono (by decide) (by decide), q⟩
  obtain ⟨u, rfl, rx⟩ := vals1 r
  cases hR with
  | non => cases rx; exact PySem.P.repr_of_none ⟨.str _, H, I.tok _, ⟨_, rfl⟩, q⟩
  | bl b => cases rx; exact PySem.P.repr_of_bool ⟨.str _, H, I.tok _, ⟨_, rfl⟩, q⟩
  | int i =>
    obtain ⟨t, rfl⟩ := (show ∃ t, u = Value.int i t from rx)
    exact PySem.P.repr_of_int (by have := hB.sh; simpa [PyData.showable] using this) ⟨.str _, H, I.tok _, ⟨_, rfl⟩, q⟩
  | str x =>
    obtain ⟨t, rfl⟩ := (show ∃ t, u = Value.str x t from rx)
    exact PySem.P.repr_of_str ⟨.str _, H, I.tok _, ⟨_, rfl⟩, q⟩ (by have h1 : (reprText x).length ≤ 1000 := hB.wt; rw [sizeLine_eq]; omega)
  | lst h1 h2 => exact rest _ rfl
  | tup h1 h2 => exact rest _ rfl
  | dct h1 => exact rest _ rfl
end CL
set_option Elab.async false
set_option linter.all false
set_option maxRecDepth 100000
set_option maxHeartbeats 4000000
namespace CL
open PySem PySem.Spec PyProof.Rows L2 GE
abbrev sDeed : Stmt := topS 23
abbrev nDeed : List Str := ["bag", "deeds", "most", "stand", "deed"]
theorem scDeed : FnScope nDeed ["bag", "deeds", "most"] (defScope sDeed) := ⟨rfl, rfl, rfl, by decide +kernel, rfl, by decide +kernel, by decide +kernel⟩
theorem ixT_blk {X : Cx} {s : Shared} {H : Hp} {scope : Scope} {cenv : Env} {fp : List Addr} : IxR (X.blk s H scope cenv fp) (rIxT X.K) := ix_tup
theorem dget_blk {X : Cx} {s : Shared} {H : Hp} {scope : Scope} {cenv : Env} {fp : List Addr} {o i : Expr} {td ty : TE} {pos : Pos} (hu : X.A.units + 1 < cLine) (ho : PE (X.blk s H scope cenv fp) o td) (hi : PE (X.blk s H scope cenv fp) i ty) (hs : NoSl i) : PE (X.blk s H scope cenv fp) (.Subscript o i pos) (tDGet td ty) := pe_dget hu ho hi hs
def sgn : Deed → Int
  | .come _ => 1
  | .serve => -1
theorem foldl_cnt : ∀ (ds : List Deed) (s : LS), ((ds.foldl stepS s).ps.length : Int) - (ds.foldl stepS s).sv.length = (s.ps.length : Int) - s.sv.length + (ds.map sgn).sum
  | [], s => by simp
  | d :: ds, s => by
    show (((ds.foldl stepS (stepS s d))).ps.length : Int) - ((ds.foldl stepS (stepS s d))).sv.length = _
    rw [foldl_cnt ds, List.map_cons, List.sum_cons]
    cases d with
    | come p =>
      have hps : (stepS s (.come p)).ps.length = s.ps.length + 1 := by show (bump _ _ ++ [0]).length = _; rw [List.length_append, bump_len]; rfl
      have hsv : (stepS s (.come p)).sv.length = s.sv.length := rfl
      rw [hps, hsv]
      show _ = _ + ((1 : Int) + _)
      omega
    | serve =>
      have hps : (stepS s .serve).ps.length = s.ps.length := rfl
      have hsv : (stepS s .serve).sv.length = s.sv.length + 1 := by show (s.sv ++ [_]).length = _; rw [List.length_append]; rfl
      rw [hps, hsv]
      show _ = _ + ((-1 : Int) + _)
      omega
theorem Vd.sum {ds : List Deed} (h : Vd ds) : (ds.map sgn).sum = ((stF ds).xs.length : Int) := by
  have h1 := foldl_cnt ds LS.nil
  have h2 := h.ok.tot
  have e : ds.foldl stepS LS.nil = stF ds := rfl
  rw [e] at h1
  have z1 : LS.nil.ps.length = 0 := rfl
  have z2 : LS.nil.sv.length = 0 := rfl
  rw [z1, z2] at h1
  omega
def OkD (d : Deed) : Prop := ∀ p, d = .come p → isPatience (optD p) = true
def spDeed (r : Bg) : Sp := fun vs H Q _ => ∃ (A : Addr) (ws : List V) (ds : List Deed) (m : Int) (n : Nat), vs = [.ref r.a, .ref A, .int m] ∧ BagAt n H r ∧ n + 5 < M60 ∧ 2 ≤ m ∧ m ≤ GREAT ∧ H A = some (.lst ws) ∧ All2 (DeedV H) ws ds ∧ Vd ds ∧ ds.length ≤ 300 ∧
  ∀ t d H', BagAt (n + 5) H' r → Mv r H H' → DeedV H' (.ref t) d → Vd (ds ++ [d]) → OkD d → Q (.ref t) H'
section
variable {P : Program} {w : World} {K : PySem.W.Frag} {mg : Str → Option Value} {base : Heap} {C : Addr}
theorem ok_deed {f : Addr} {r : Bg} {fd : FuncData} (F : Fun K "_law_deed" "_law_deed" sDeed f fd) (hsum : mg "sum" = none) (CD : Cal P w K mg base 2 "_law_draw" ["bag", "many"] (spDraw r)) (CPL : Cal P w K mg base 3 "_law_patience" ["bag", "most"] (spPatL r)) : FnOk P w K mg base CX0 4 f fd ["bag", "deeds", "most"] (spDeed r) := by
  refine F.ok scDeed (fun vs H Q E ⟨A, ws, ds, m, n, e, _⟩ => by rw [e]; rfl) (fun cdv A' outer s H vs Q E hr h => ?_)
  obtain ⟨A, ws, ds, m, n, rfl, hb, hn, hm2, hmG, eA, hws, hv, hl, q⟩ := h
  have nd := scDeed.nd
  refine ⟨_, (pss_cons (ps_set (i := 3) nd rfl (.inl rfl) (pe_callB (cr_sum rfl) (by rfl) hsum (by decide +kernel) (pa_cons (pe_lc (own := [("deed", 4)]) (g := gName 4) (tt := tYes) rfl nd (pi_list (pv 1)) (blkOk_by (own := [("deed", 4)]) (N := nDeed) (sc := defScope sDeed) (by decide +kernel)) (fun _ _ _ _ _ => pg_name (i := 4) nd rfl (Or.inl rfl)) (fun _ _ _ _ _ => pts_nil) (fun _ _ _ _ _ => pe_ifExp (pt_cmpR op_eq (pe_ix ixT_blk (pv 4) pe_int (fun _ _ => rfl)) pe_str (nomark _)) pe_int (pe_un un_neg pe_int))) pa_nil)))
      (pss_cons (ps_if (PW.pt (pw_and (pt_cmpR op_gt (pv 3) pe_int (nomark _)) (pw_and1 (pt_cmpR op_eq (pe_cal CD (hr.mono (by decide)) (by rfl) (pa_cons (pv 0) (pa_cons pe_int pa_nil))) pe_int (nomark _))))) (pss_one (ps_ret (pe_tup (pa_cons pe_str pa_nil)))) pss_nil)
      (pss_one (ps_ret (pe_tup (pa_cons pe_str (pa_cons (pe_cal CPL (hr.mono (by decide)) (by rfl) (pa_cons (pv 0) (pa_cons (pv 2) pa_nil))) pa_nil))))))), ?_⟩
  have hwl := hws.length
  refine ⟨.ref A, rfl, A, rfl, ⟨_, SqL.of eA⟩, fun D nD => ?_⟩
  refine lc_list (K := K) (a := A) (xs := ws) (fun i H3 => (∀ b o, b ≠ D → H b = some o → H3 b = some o) ∧ H3 D = some (.lst (((ds.take i).map sgn).map V.int)))
    ⟨fun b o nb e => by rw [upd_ne nb]; exact e, upd_same⟩ (fun i H3 _ ⟨m3, _⟩ => SqL.of (m3 _ _ (fun z => by rw [z, nD] at eA; cases eA) eA)) (fun i v H3 hi ⟨m3, eD⟩ => ?_) (fun H3 ⟨m3, eD⟩ => ?_)
  · obtain ⟨d, hd, hdv⟩ := hws.get hi
    have hil := (List.getElem?_eq_some_iff.mp hd).1
    have hsn : (((ds.take (i + 1)).map sgn).map V.int) = ((ds.take i).map sgn).map V.int ++ [V.int (sgn d)] := by rw [List.take_add_one, hd, List.map_append, List.map_append]; rfl
    have fin : ∀ {acc : List V}, acc = ((ds.take i).map sgn).map V.int → H3 D = some (.lst acc) ∧ acc.length < sizeLine ∧ ((∀ b o, b ≠ D → H b = some o → (upd H3 D (.lst (acc ++ [V.int (sgn d)]))) b = some o) ∧ (upd H3 D (.lst (acc ++ [V.int (sgn d)]))) D = some (.lst (((ds.take (i + 1)).map sgn).map V.int))) := fun {acc} e => by
      subst e
      exact ⟨eD, by rw [List.length_map, List.length_map, List.length_take]; exact small1000 (by omega), fun b o nb e => by rw [upd_ne nb]; exact m3 b o nb e, by rw [upd_same, hsn]⟩
    cases d with
    | come p =>
      obtain ⟨t, rfl, et⟩ := hdv
      have et3 := m3 t _ (fun z => by rw [z, nD] at et; cases et) et
      refine ⟨rfl, yesT ⟨.ref t, rfl, t, _, 0, .str "come", rfl, rfl, SqT.of et3, atI_nat (j := 0) rfl, rfl, _, rfl, ite2 (fun _ => ?_) (fun y => absurd (decide_eq_true rfl) y)⟩⟩
      exact ⟨_, fin rfl⟩
    | serve =>
      obtain ⟨t, rfl, et⟩ := hdv
      have et3 := m3 t _ (fun z => by rw [z, nD] at et; cases et) et
      refine ⟨rfl, yesT ⟨.ref t, rfl, t, _, 0, .str "serve", rfl, rfl, SqT.of et3, atI_nat (j := 0) rfl, rfl, _, rfl, ite2 (fun y => absurd (of_decide_eq_true y) (fun z => word_ne (by injection z))) (fun _ => ?_)⟩⟩
      exact ⟨1, rfl, _, fin rfl⟩
  · rw [hwl, List.take_length] at eD
    have s3 : Same H H3 := fun b o e => m3 b o (fun z => by rw [z, nD] at e; cases e) e
    refine ⟨D, (ds.map sgn), rfl, SqL.of eD, ?_⟩
    rw [hv.sum]
    have b3 := hb.same s3
    dsimp only [gName]
    show tSeq _ _ _ [some (.ref r.a), some (.ref A), some (.int m), some (.int ((stF ds).xs.length : Int)), none] H3
    have COME : ∀ (H4 : Hp) (k : Nat), BagAt k H4 r → k ≤ n + 1 → Mv r H H4 → tRet (tTup (tCons (tC (.str "come")) (tCons (tCall (spPatL r) [] E0 (tCons (tVar 0) (tCons (tVar 2) tNil))) tNil))) { nx := fun _ H' => Q .non H', rt := Q } [some (.ref r.a), some (.ref A), some (.int m), some (.int ((stF ds).xs.length : Int)), none] H4 := fun H4 k b4 hk v4 => by
      refine ⟨.ref r.a, rfl, .int m, rfl, m, k, rfl, b4, by omega, hm2, hmG, fun o H5 b5 v5 hp _ => ⟨small_le (by show 2 ≤ 1000; decide), fun t nt => ?_⟩⟩
      exact q t (.come o) _ ((b5.same (same_upd nt)).mono (by omega)) ((v4.trans v5).trans (Mv.of (same_upd nt))) ⟨t, rfl, upd_same⟩ (hv.come o) (fun p e => by cases e; exact hp)
    refine ⟨.int ((stF ds).xs.length : Int), rfl, _, _, rfl, rfl, _, rfl, ite2 (fun y => ?_) (fun _ => COME H3 n b3 (by omega) (Mv.of s3))⟩
    have hx : (stF ds).xs ≠ [] := fun z => by
      have y := of_decide_eq_true y
      rw [z] at y
      exact absurd y (by decide)
    refine ⟨.ref r.a, rfl, 4, n, rfl, b3, by omega, by decide, by decide, fun x H4 b4 v4 _ _ => ⟨rfl, _, rfl, ite2 (fun _ => ?_) (fun _ => COME H4 (n + 1) b4 (Nat.le_refl _) ((Mv.of s3).trans v4))⟩⟩
    refine ⟨small_le (by show 1 ≤ 1000; decide), fun t nt => ?_⟩
    exact q t .serve _ ((b4.same (same_upd nt)).mono (by omega)) (((Mv.of s3).trans v4).trans (Mv.of (same_upd nt))) ⟨t, rfl, upd_same⟩ (hv.serve hx) (fun p e => by cases e)
end
end CL
set_option Elab.async false
set_option linter.all false
set_option maxRecDepth 100000
set_option maxHeartbeats 4000000
namespace CL
open PySem PySem.Spec PyProof.Rows L2 GE
abbrev sStep : Stmt := topS 25
abbrev nStep : List Str := ["bag", "line", "deeds", "most", "deed", "front", "number", "one"]
theorem scStep : FnScope nStep ["bag", "line", "deeds", "most"] (defScope sStep) := ⟨rfl, rfl, rfl, by decide +kernel, rfl, by decide +kernel, by decide +kernel⟩
theorem Flds.undo {fs : List (Str × V)} {L : LnA} (h : Flds fs L) : fs.lookup ("undo" : Str) = none := h.no _ (by decide +kernel) (by decide +kernel) (by decide +kernel) (by decide +kernel) (by decide +kernel)
theorem Flds.hist {fs : List (Str × V)} {L : LnA} (h : Flds fs L) : fs.lookup ("history" : Str) = none := h.no _ (by decide +kernel) (by decide +kernel) (by decide +kernel) (by decide +kernel) (by decide +kernel)
def isCome : Deed → Bool
  | .come _ => true
  | .serve => false
theorem foldl_come : ∀ (ds : List Deed) (s : LS), (ds.foldl stepS s).ps.length = s.ps.length + (ds.filter isCome).length
  | [], s => rfl
  | d :: ds, s => by
    show ((ds.foldl stepS (stepS s d))).ps.length = _
    rw [foldl_come ds, List.filter_cons]
    cases d with
    | come p =>
      have hps : (stepS s (.come p)).ps.length = s.ps.length + 1 := by show (bump _ _ ++ [0]).length = _; rw [List.length_append, bump_len]; rfl
      rw [hps]
      show _ = _ + ((_ :: _ : List Deed)).length
      rw [List.length_cons]
      omega
    | serve => rfl
theorem come_count (ds : List Deed) : (ds.filter isCome).length = (stF ds).ps.length := by
  have h := foldl_come ds LS.nil
  have e : ds.foldl stepS LS.nil = stF ds := rfl
  have z : LS.nil.ps.length = 0 := rfl
  rw [e, z] at h
  omega
theorem serve_eq {s : LS} {x : Nat} {xs : List Nat} {r : Option Int} (h1 : s.xs = x :: xs) (h2 : s.rs.head? = some r) : serveS s x r = stepS s .serve := by
  show serveS s x r = serveS s (s.xs.headD 0) (s.rs.headD none)
  rw [h1, List.headD_cons, List.headD_eq_head?_getD, h2]
  rfl
/-! ### a bag, a line, and the deeds that it came by -/
structure Dis2 (r : Bg) (L : LnA) (A : Addr) : Prop where
  aa : ¬ L.has r.a
  ac : ¬ L.has r.c
  ag : ¬ L.has A
  ar : A ≠ r.a
structure Sd (C : Addr) (n : Nat) (H : Hp) (r : Bg) (L : LnA) (A : Addr) (s : LS) (ws : List V) (ds : List Deed) : Prop where
  bag : BagAt n H r
  ln : LineAt C H L s
  al : H A = some (.lst ws)
  aw : All2 (DeedV H) ws ds
/-- all but the bag and a line's own lists stays -/
structure Mx (r : Bg) (L : LnA) (H H' : Hp) : Prop where
  keep : ∀ b o, b ≠ r.a → ¬ L.has b → H b = some o → H' b = some o
theorem Mx.of {r : Bg} {L : LnA} {H H' : Hp} (m : Same H H') : Mx r L H H' := ⟨fun b o _ _ e => m b o e⟩
theorem Mx.mv {r : Bg} {L : LnA} {H H' : Hp} (m : Mv r H H') : Mx r L H H' := ⟨fun b o n _ e => m.keep b o n e⟩
theorem Mx.mvL {r : Bg} {L : LnA} {H H' : Hp} (m : MvL L H H') : Mx r L H H' := ⟨fun b o _ n e => m.keep b o n e⟩
theorem Mx.trans {r : Bg} {L : LnA} {H H1 H2 : Hp} (a : Mx r L H H1) (b : Mx r L H1 H2) : Mx r L H H2 := ⟨fun c o n1 n2 e => b.keep c o n1 n2 (a.keep c o n1 n2 e)⟩
section
variable {C : Addr} {n m : Nat} {H H' : Hp} {r : Bg} {L : LnA} {A : Addr} {s s' : LS} {ws : List V} {ds : List Deed}
theorem Sd.same (w : Sd C n H r L A s ws ds) (m : Same H H') : Sd C n H' r L A s ws ds := ⟨w.bag.same m, w.ln.same m, m _ _ w.al, w.aw.imp fun _ _ => DeedV.kx fun t ys e => m _ _ e⟩
theorem Sd.mv (w : Sd C n H r L A s ws ds) (d : Dis2 r L A) (b : BagAt m H' r) (v : Mv r H H') : Sd C m H' r L A s ws ds := ⟨b, w.ln.mv w.bag d.aa v, v.keep _ _ d.ar w.al, w.aw.imp fun _ _ => DeedV.kx fun t ys e => v.keep _ _ (fun z => by
  obtain ⟨vs, e2⟩ := w.bag.isl
  rw [z, e2] at e
  cases e) e⟩
theorem Sd.mvL (w : Sd C n H r L A s ws ds) (d : Dis2 r L A) (l : LineAt C H' L s') (v : MvL L H H') : Sd C n H' r L A s' ws ds := ⟨w.bag.mvL d.aa d.ac v, l, v.keep _ _ d.ag w.al, w.aw.imp fun _ _ => DeedV.kx fun t ys e => v.keep _ _ (w.ln.nol e fun _ => nofun) e⟩
end
def spStep (C : Addr) : Sp := fun vs H Q _ => ∃ (r : Bg) (L : LnA) (A : Addr) (ws : List V) (ds : List Deed) (m : Int) (n : Nat), vs = [.ref r.a, .ref L.o, .ref A, .int m] ∧ Sd C n H r L A (stF ds) ws ds ∧ Dis2 r L A ∧ n + 6 < M60 ∧ 2 ≤ m ∧ m ≤ GREAT ∧ Vd ds ∧ ds.length ≤ 200 ∧
  ∀ A' ws' ds' H', Sd C (n + 6) H' r L A' (stF ds') ws' ds' → Mx r L H H' → H A' = none → Vd ds' → ds'.length ≤ ds.length + 1 → (∀ d ∈ ds', d ∈ ds ∨ OkD d) → Q (.ref A') H'
theorem sm_int {i : Int} (h0 : 0 ≤ i) (h1 : i < 1000) : B 100 1000 (.int i) := by
  have h2 : (1000 : Nat) ≤ 2 ^ 140 := by decide
  exact (b_int (k := 0) (by omega)).mono (by decide) (by decide)
theorem seq_mk {A B : TS} {D : Ends} {σ : L2.St} {H : Hp} (h : ∀ nx : L2.St → Hp → Prop, (∀ σ' H', B D σ' H' → nx σ' H') → A { D with nx := nx } σ H) : tSeq A B D σ H := h (B D) fun _ _ z => z
section
variable {P : Program} {w : World} {K : PySem.W.Frag} {mg : Str → Option Value} {base : Heap} {C : Addr}
theorem ok_step {f fU fS fC : Addr} {fd fdU fdS fdC : FuncData} (F : Fun K "_law_step" "_law_step" sStep f fd) (hT : Nm mg) (T : LnT K mg C) (hrepr : mg "repr" = none) (hsys : ∃ o, base.get? sysModules = some o)
    (mU : Meth K C "undo" fU) (GU : FnOk P w K mg base CX0 2 fU fdU ["self"] (spUndoM C)) (bU : Binds K fdU ["self"] [])
    (mS : Meth K C "serve" fS) (GS : FnOk P w K mg base CX0 1 fS fdS ["self"] (spServeM C)) (bS : Binds K fdS ["self"] [])
    (mC : Meth K C "come" fC) (GC : FnOk P w K mg base CX0 3 fC fdC ["self", "patience"] (spComeM C)) (bC : Binds K fdC ["self", "patience"] [])
    (CD : Cal P w K mg base 4 "_law_draw" ["bag", "many"] (spE spDraw)) (CDe : Cal P w K mg base 4 "_law_deed" ["bag", "deeds", "most"] (spE spDeed)) (CDo : Cal P w K mg base 4 "_law_done" ["deeds"] spDone) : FnG P w K mg base 6 f fd ["bag", "line", "deeds", "most"] (spStep C) := by
  refine fng_of F scStep (fun vs H Q E ⟨r, L, A, ws, ds, m, n, e, _⟩ => by rw [e]; rfl) (fun cdv A' outer s H vs Q E hgd hr h => ?_)
  obtain ⟨r, L, A, ws, ds, m, n, rfl, sd, dis, hn, hm2, hmG, hv, hl, q⟩ := h
  have nd := scStep.nd
  refine ⟨_, (pss_cons (ps_if (PW.pt (pw_and (pt_cmpR (op_neE hr.units0) (pv 2) (pe_lst pa_nil) (nomark _)) (pw_and1 (pt_cmpR op_eq (pe_cal CD (hr.mono (by decide)) (by rfl) (pa_cons (pv 0) (pa_cons pe_int pa_nil))) pe_int (nomark _))))) (pss_one (ps_ret (pe_ifExp (pt_cmp (pc_isN (pe_meth0 (pv 1) T.cl mU GU (hr.mono (by decide)) bU .nil pass0))) (pe_slice sl_list (pv 2) po_none (po_some (pe_un un_neg pe_int))) pe_non))) pss_nil)
      (pss_cons (ps_set (i := 4) nd rfl (.inl rfl) (pe_cal CDe (hr.mono (by decide)) (by rfl) (pa_cons (pv 0) (pa_cons (pv 2) (pa_cons (pv 3) pa_nil)))))
      (pss_cons (ps_if (pt_cmpR op_eq (pe_ix ix_tup (pv 4) pe_int (fun _ _ => rfl)) pe_str (nomark _)) (pss_cons (ps_set (i := 5) nd rfl (.inl rfl) (pe_ix ix_list (pe_ix ix_tup (pe_cal CDo (hr.mono (by decide)) (by rfl) (pa_cons (pv 2) pa_nil)) pe_int (fun _ _ => rfl)) pe_int (fun _ _ => rfl)))
      (pss_one (ps_ret (pe_ifExp (pt_cmpR op_eq (pe_callB (call_reprA hgd hr hsys) (by rfl) hrepr (by decide +kernel) (pa_cons (pe_meth0 (pv 1) T.cl mS GS (hr.mono (by decide)) bS .nil pass0) pa_nil)) (pe_callB (call_reprA hgd hr hsys) (by rfl) hrepr (by decide +kernel) (pa_cons (pv 5) pa_nil)) (nomark _)) (pe_op op_cat (pv 2) (pe_lst (pa_cons (pv 4) pa_nil))) pe_non)))) pss_nil)
      (pss_cons (ps_set (i := 6) nd rfl (.inl rfl) (pe_callB call_len_seq (by rfl) hT.len PySem.boot_len (pa_cons (pe_lc (own := [("one", 7)]) (g := gName 7) rfl nd (pi_list (pv 2)) (blkOk_by (own := [("one", 7)]) (N := nStep) (sc := defScope sStep) (by decide +kernel)) (fun _ _ _ _ _ => pg_name (i := 7) nd rfl (Or.inl rfl)) (fun _ _ _ _ _ => pts_one (pt_cmpR op_eq (pe_ix ixT_blk (pv 7) pe_int (fun _ _ => rfl)) pe_str (nomark _))) (fun _ _ _ _ _ => pv 7)) pa_nil)))
      (pss_one (ps_ret (pe_ifExp (pt_cmpR op_eq (pe_callB (call_reprA hgd hr hsys) (by rfl) hrepr (by decide +kernel) (pa_cons (pe_meth (pv 1) T.cl mC GC (hr.mono (by decide)) bC .nil pass0 (pa_cons (pe_ix ix_tup (pv 4) pe_int (fun _ _ => rfl)) pa_nil)) pa_nil)) (pe_callB (call_reprA hgd hr hsys) (by rfl) hrepr (by decide +kernel) (pa_cons (pv 6) pa_nil)) (nomark _)) (pe_op op_cat (pv 2) (pe_lst (pa_cons (pv 4) pa_nil))) pe_non))))))), ?_⟩
  have hok := hv.ok
  obtain ⟨c1, c2⟩ := ds_count hv 200 hl
  have hwl := sd.aw.length
  dsimp only []
  show tSeq (tIfS _ _ _) _ _ [some (.ref r.a), some (.ref L.o), some (.ref A), some (.int m), none, none, none, none] H
  refine seq_mk fun nx hnx => ?_
  have REST : ∀ H2 k, Sd C k H2 r L A (stF ds) ws ds → k ≤ n + 1 → Mx r L H H2 → (∀ b, H2 b = none → H b = none) → nx [some (.ref r.a), some (.ref L.o), some (.ref A), some (.int m), none, none, none, none] H2 := by
    intro H2 k sd2 hk mx2 fr2
    refine hnx _ _ ?_
    have lay : ∀ {G : Hp} {t : Addr} {kk : Nat} {s' : LS} {d : Deed}, Sd C kk G r L A s' ws ds → DeedV G (.ref t) d → ∀ p, G p = none → ∀ T, (upd G p (.lst [.ref t])) T = none → Sd C kk (upd (upd G p (.lst [.ref t])) T (.lst (ws ++ [.ref t]))) r L T s' (ws ++ [.ref t]) (ds ++ [d]) := fun {G t kk s' d} w hd p np T nT => by
      have st : Same G (upd (upd G p (.lst [.ref t])) T (.lst (ws ++ [.ref t]))) := (same_upd np).trans (same_upd nT)
      exact ⟨w.bag.same st, w.ln.same st, upd_same, All2.snoc ((w.aw.imp fun _ _ => DeedV.kx fun t ys e => st _ _ e)) (DeedV.kx (fun t ys e => st _ _ e) hd)⟩
    have new : ∀ {G : Hp}, Mx r L H2 G → BagAt (n + 6) G r → (∀ b, L.has b → G b ≠ none) → ∀ b, G b = none → H b = none := fun {G} mx hb hl b e => fr2 b (by
      cases z : H2 b with
      | none => rfl
      | some o =>
        have nl : ¬ L.has b := fun hp => hl b hp e
        have nr : b ≠ r.a := fun hp => hb.some (by rw [← hp]; exact e)
        rw [mx.keep _ _ nr nl z] at e
        cases e)
    -- deed = _law_deed(bag, deeds, most)
    refine ⟨.ref r.a, rfl, .ref A, rfl, .int m, rfl, r, A, ws, ds, m, k, rfl, sd2.bag, by omega, hm2, hmG, sd2.al, sd2.aw, hv, by omega, fun t d H3 b3 v3 hdv hvd hokd => ?_⟩
    have sd3 := (sd2.mv dis b3 v3)
    have mx3 : Mx r L H2 H3 := Mx.mv v3
    have sd3 : Sd C (n + 6) H3 r L A (stF ds) ws ds := ⟨sd3.bag.mono (by omega), sd3.ln, sd3.al, sd3.aw⟩
    have hlen : ∀ d' ∈ ds ++ [d], d' ∈ ds ∨ OkD d' := fun d' hd' => (List.mem_append.mp hd').imp id fun z => by rw [List.mem_singleton.mp z]; exact hokd
    show tSeq _ _ _ [some (.ref r.a), some (.ref L.o), some (.ref A), some (.int m), some (.ref t), none, none, none] H3
    cases d with
    | serve =>
      obtain ⟨t', et', et⟩ := id hdv
      cases et'
      refine ⟨.ref t, rfl, t, _, 0, .str "serve", rfl, rfl, SqT.of et, atI_nat (j := 0) rfl, rfl, _, rfl, ite2 (fun _ => ?_) (fun y => absurd (decide_eq_true rfl) y)⟩
      have hx := hvd.last
      obtain ⟨x, xs, ex⟩ : ∃ x xs, (stF ds).xs = x :: xs := by
        cases z : (stF ds).xs with
        | nil => exact absurd z hx
        | cons x xs => exact ⟨x, xs, rfl⟩
      have hx200 : x < 1000 := by
        have := hok.lt x (by rw [ex]; exact List.mem_cons_self)
        omega
      have bx : B 100 1000 (.int (x : Int)) := sm_int (by omega) (by omega)
      -- front = _law_done(deeds)[0][0]
      refine ⟨.ref A, rfl, A, ws, ds, rfl, sd3.al, sd3.aw, hv, by omega, fun t1 S D P1 H4 f s4 et1 eS _ _ _ _ _ _ => ?_⟩
      have sd4 := sd3.same s4
      have mx4 := mx3.trans (Mx.of s4)
      rw [ex] at eS
      refine ⟨t1, _, 0, .ref S, rfl, rfl, SqT.of et1, atI_nat (j := 0) rfl, S, _, 0, .int (x : Int), rfl, rfl, SqL.of eS, atI_nat (j := 0) rfl, ?_⟩
      dsimp only [gName]
      show tRet _ _ [some (.ref r.a), some (.ref L.o), some (.ref A), some (.int m), some (.ref t), some (.int (x : Int)), none, none] H4
      obtain ⟨dx, fs, hob, hf⟩ := sd4.ln.ob
      refine ⟨.ref L.o, rfl, L.o, dx, fs, rfl, hob, hf.serve, L, stF ds, x, xs, rfl, sd4.ln, ex, by omega, fun H5 rr hrr l5 m5 => ?_⟩
      have sd5 := sd4.mvL dis l5 m5
      have mx5 := mx4.trans (Mx.mvL m5)
      have hd5 : DeedV H5 (.ref t) .serve := ⟨t, rfl, m5.keep _ _ (sd4.ln.nol (s4 _ _ et) fun _ => nofun) (s4 _ _ et)⟩
      refine ⟨_, .int (x : Int), rfl, .int _, bx, .int (x : Int), rfl, _, .int (x : Int), rfl, .int _, bx, rfl, _, rfl, ite2 (fun _ => ?_) (fun y => absurd (decide_eq_true rfl) y)⟩
      refine ⟨.ref A, rfl, .ref t, rfl, small_le (by show 1 ≤ 1000; decide), fun p np => ⟨A, p, ws, _, rfl, rfl, (same_upd np) _ _ sd5.al, upd_same, small_add (by have := sd5.aw.length; omega) (by show 1 ≤ 1000; decide), fun T nT => ?_⟩⟩
      have sd6 := lay sd5 hd5 p np T nT
      rw [serve_eq ex hrr, ← stF_snoc] at sd6
      refine q T _ _ _ sd6 (mx2.trans (mx5.trans (Mx.of ((same_upd np).trans (same_upd nT))))) (new mx5 sd5.bag (fun b hb e => by
        obtain ⟨vs, e2⟩ := sd5.ln.isl hb
        rw [e] at e2
        cases e2) T ((same_upd np).free nT)) hvd (by rw [List.length_append]; exact Nat.le_refl _) hlen
    | come p =>
      obtain ⟨t', et', et⟩ := id hdv
      cases et'
      have hp := hokd p rfl
      refine ⟨.ref t, rfl, t, _, 0, .str "come", rfl, rfl, SqT.of et, atI_nat (j := 0) rfl, rfl, _, rfl, ite2 (fun y => absurd (of_decide_eq_true y) (fun z => word_ne (by injection z with z; exact z.symm))) (fun _ => ?_)⟩
      -- number = len([..])
      refine ⟨.ref A, rfl, A, rfl, ⟨_, SqL.of sd3.al⟩, fun D nD => ?_⟩
      have nAD : A ≠ D := fun z => by rw [← z, sd3.al] at nD; cases nD
      refine lc_list (K := K) (a := A) (xs := ws) (fun i H4 => (∀ b o, b ≠ D → H3 b = some o → H4 b = some o) ∧ ∃ acc, H4 D = some (.lst acc) ∧ acc.length = ((ds.take i).filter isCome).length)
        ⟨fun b o nb e => by rw [upd_ne nb]; exact e, [], upd_same, rfl⟩ (fun i H4 _ ⟨m4, _⟩ => SqL.of (m4 _ _ nAD sd3.al)) (fun i v H4 hi ⟨m4, acc, eD, hacc⟩ => ?_) (fun H4 ⟨m4, acc, eD, hacc⟩ => ?_)
      · obtain ⟨d, hd, hdv'⟩ := sd3.aw.get hi
        have hil := (List.getElem?_eq_some_iff.mp hd).1
        have hsn : ds.take (i + 1) = ds.take i ++ [d] := by rw [List.take_add_one, hd]; rfl
        cases d with
        | come p' =>
          obtain ⟨t2, rfl, et2⟩ := hdv'
          have et4 := m4 t2 _ (fun z => by rw [z, nD] at et2; cases et2) et2
          refine ⟨rfl, .ref t2, rfl, t2, _, 0, .str "come", rfl, rfl, SqT.of et4, atI_nat (j := 0) rfl, rfl, _, rfl, ite2 (fun _ => ?_) (fun y => absurd (decide_eq_true rfl) y)⟩
          refine ⟨.ref t2, rfl, acc, eD, ?_, fun b o nb e => by rw [upd_ne nb]; exact m4 b o nb e, _, upd_same, ?_⟩
          · have := List.length_filter_le isCome (ds.take i)
            rw [List.length_take] at this
            exact small1000 (by omega)
          · rw [hsn, List.filter_append, List.length_append, List.length_append, hacc]
            rfl
        | serve =>
          obtain ⟨t2, rfl, et2⟩ := hdv'
          have et4 := m4 t2 _ (fun z => by rw [z, nD] at et2; cases et2) et2
          refine ⟨rfl, .ref t2, rfl, t2, _, 0, .str "serve", rfl, rfl, SqT.of et4, atI_nat (j := 0) rfl, rfl, _, rfl, ite2 (fun y => absurd (of_decide_eq_true y) (fun z => word_ne (by injection z))) (fun _ => ?_)⟩
          refine ⟨m4, acc, eD, ?_⟩
          rw [hsn, List.filter_append, List.length_append, hacc]
          rfl
      rw [hwl, List.take_length, come_count] at hacc
      have s4 : Same H3 H4 := fun b o e => m4 b o (fun z => by rw [z, nD] at e; cases e) e
      have sd4 := sd3.same s4
      have mx4 := mx3.trans (Mx.of s4)
      refine ⟨D, acc, rfl, .inl (SqL.of eD), ?_⟩
      rw [hacc]
      dsimp only [gName]
      show tRet _ _ [some (.ref r.a), some (.ref L.o), some (.ref A), some (.int m), some (.ref t), none, some (.int ((stF ds).ps.length : Int)), none] H4
      have bn : B 100 1000 (.int ((stF ds).ps.length : Int)) := sm_int (by omega) (by omega)
      obtain ⟨dx, fs, hob, hf⟩ := sd4.ln.ob
      have et4 := s4 _ _ et
      refine ⟨.ref L.o, rfl, L.o, dx, fs, rfl, hob, hf.come, .ref t, rfl, t, _, 1, optV p, rfl, rfl, SqT.of et4, atI_nat (j := 1) rfl, L, stF ds, p, rfl, sd4.ln, hp, by omega, fun H5 l5 m5 => ?_⟩
      have sd5 := sd4.mvL dis l5 m5
      have mx5 := mx4.trans (Mx.mvL m5)
      have hd5 : DeedV H5 (.ref t) (.come p) := ⟨t, rfl, m5.keep _ _ (sd4.ln.nol et4 fun _ => nofun) et4⟩
      refine ⟨_, .int ((stF ds).ps.length : Int), rfl, .int _, bn, .int ((stF ds).ps.length : Int), rfl, _, .int ((stF ds).ps.length : Int), rfl, .int _, bn, rfl, _, rfl, ite2 (fun _ => ?_) (fun y => absurd (decide_eq_true rfl) y)⟩
      refine ⟨.ref A, rfl, .ref t, rfl, small_le (by show 1 ≤ 1000; decide), fun p' np => ⟨A, p', ws, _, rfl, rfl, (same_upd np) _ _ sd5.al, upd_same, small_add (by have := sd5.aw.length; omega) (by show 1 ≤ 1000; decide), fun T nT => ?_⟩⟩
      have sd6 := lay sd5 hd5 p' np T nT
      have ec : comeS (stF ds) p = stF (ds ++ [.come p]) := by rw [stF_snoc]; rfl
      rw [ec] at sd6
      refine q T _ _ _ sd6 (mx2.trans (mx5.trans (Mx.of ((same_upd np).trans (same_upd nT))))) (new mx5 sd5.bag (fun b hb e => by
        obtain ⟨vs, e2⟩ := sd5.ln.isl hb
        rw [e] at e2
        cases e2) T ((same_upd np).free nT)) hvd (by rw [List.length_append]; exact Nat.le_refl _) hlen
  refine ⟨.ref A, rfl, Nat.zero_le _, fun Z nZ => ⟨A, Z, ws, rfl, rfl, (same_upd nZ) _ _ sd.al, upd_same, _, rfl, ?_⟩⟩
  have sd1 := sd.same (same_upd (o := .lst []) nZ)
  have mx1 : Mx r L H (upd H Z (.lst [])) := Mx.of (same_upd nZ)
  have fr1 : ∀ b, (upd H Z (.lst [])) b = none → H b = none := fun b e => (same_upd nZ).free e
  generalize upd H Z (.lst []) = H1 at sd1 mx1 fr1
  refine ite2 (fun y => ?_) (fun _ => REST H1 n sd1 (Nat.le_succ n) mx1 fr1)
  refine ⟨.ref r.a, rfl, r, 5, n, rfl, sd1.bag, by omega, by decide, by decide, fun x H2 b2 v2 _ _ => ⟨rfl, _, rfl, ite2 (fun _ => ?_) (fun _ => ?_)⟩⟩
  · -- undone
    have sd2 := sd1.mv dis b2 v2
    obtain ⟨es, d, rfl⟩ : ∃ es d, ds = es ++ [d] := by
      rcases List.eq_nil_or_concat ds with z | ⟨es, d, z⟩
      · subst z
        rw [List.eq_nil_of_length_eq_zero hwl] at y
        exact absurd y (by simp)
      · exact ⟨es, d, by rw [z, List.concat_eq_append]⟩
    have hve := hv.pre
    obtain ⟨dx, fs, hob, hf⟩ := sd2.ln.ob
    obtain ⟨e1, e2⟩ := ds_count hve 200 (by rw [List.length_append] at hl; omega)
    refine ⟨.ref L.o, rfl, L.o, dx, fs, rfl, hob, hf.undo, L, stF es, d, rfl, by rw [← stF_snoc]; exact sd2.ln, hve.ok, fun z => by subst z; exact hv.last, by omega, fun H3 l3 m3 => ⟨_, rfl, ite2 (fun _ => ?_) (fun z => absurd (decide_eq_true rfl) z)⟩⟩
    have sd3 := sd2.mvL dis l3 m3
    refine ⟨.ref A, rfl, 1, rfl, _, rfl, A, ws, rfl, SqL.of sd3.al, fun p np => ?_⟩
    obtain ⟨us, u, rfl, au, _⟩ := sd3.aw.unsnoc
    have e3 : cutV (us ++ [u]) none (some (-1)) = us := by
      rw [cut_last, List.length_append, List.length_singleton, Nat.add_sub_cancel, List.take_left]
    rw [e3]
    have s4 : Same H3 (upd H3 p (.lst us)) := same_upd np
    refine q p us es _ ⟨(sd3.bag.same s4).mono (by omega), sd3.ln.same s4, upd_same, au.imp fun _ _ => DeedV.kx fun t ys e => s4 _ _ e⟩ ((mx1.trans (Mx.mv v2)).trans ((Mx.mvL m3).trans (Mx.of s4))) ?_ hve (by rw [List.length_append]; omega) fun d hd => .inl (List.mem_append.mpr (.inl hd))
    refine fr1 p ?_
    cases z : H1 p with
    | none => rfl
    | some o =>
      have nl : ¬ L.has p := fun hp => by
        obtain ⟨vs, e⟩ := sd3.ln.isl hp
        rw [np] at e
        cases e
      have nr : p ≠ r.a := fun hp => sd3.bag.some (by rw [← hp]; exact np)
      have := m3.keep _ _ nl (v2.keep _ _ nr z)
      rw [np] at this
      cases this
  · refine REST H2 (n + 1) (sd1.mv dis b2 v2) (Nat.le_refl _) (mx1.trans (Mx.mv v2)) fun b e => fr1 b ?_
    cases z : H1 b with
    | none => rfl
    | some o =>
      have nr : b ≠ r.a := fun hp => b2.some (by rw [← hp]; exact e)
      rw [v2.keep _ _ nr z] at e
      cases e
end
end CL
set_option Elab.async false
set_option linter.all false
set_option maxRecDepth 100000
set_option maxHeartbeats 4000000
namespace CL
open PySem PySem.Spec PyProof.Rows L2 GE
abbrev sLRight : Stmt := topS 24
abbrev nRight : List Str := ["line", "deeds", "stand", "rest", "past", "told", "due", "some", "person"]
theorem scRight : FnScope nRight ["line", "deeds"] (defScope sLRight) := ⟨rfl, rfl, rfl, by decide +kernel, rfl, by decide +kernel, by decide +kernel⟩
theorem opts_rp {H : Hp} : ∀ os : List (Option Int), RpAll H (os.map optV) (os.map optD)
  | [] => .nil
  | o :: os => .cons (rp_opt2 o) (opts_rp os)
def deedD : Deed → PyData
  | .come p => .tuple [.str "come", optD p]
  | .serve => .tuple [.str "serve"]
theorem deeds_rp {H : Hp} : ∀ {ws : List V} {ds : List Deed}, All2 (DeedV H) ws ds → RpAll H ws (ds.map deedD)
  | _, _, .nil => .nil
  | _, d :: _, .cons h t => by
    refine .cons ?_ (deeds_rp t)
    cases d with
    | come p =>
      obtain ⟨t, rfl, e⟩ := h
      exact .tup e (.cons (.str _) (.cons (rp_opt2 p) .nil))
    | serve =>
      obtain ⟨t, rfl, e⟩ := h
      exact .tup e (.cons (.str _) .nil)
def Rng (o : Option Int) : Prop := isPatience (optD o) = true
theorem rng_int {i : Int} (h : Rng (some i)) : 0 ≤ i ∧ i ≤ GREAT := by
  have h : (decide (0 ≤ i) && decide (i ≤ GREAT)) = true := h
  rw [Bool.and_eq_true] at h
  exact ⟨of_decide_eq_true h.1, of_decide_eq_true h.2⟩
theorem goes_rng : ∀ (p : Nat) (l : List (Option Int)), (∀ o ∈ l, Rng o) → ∀ o ∈ (goes p l).2, Rng o
  | 0, l, h => h
  | p + 1, l, h => by
    cases q : l[p]? with
    | none => rw [goes_eX q]; exact h
    | some o =>
      cases o with
      | none => rw [goes_eN q]; exact goes_rng p l h
      | some v =>
        by_cases hv : v = 0
        · subst hv; rw [goes_e0 q]; exact h
        · rw [goes_eS q hv]
          refine goes_rng p _ fun o ho => ?_
          rcases List.mem_or_eq_of_mem_set ho with z | z
          · exact h o z
          · subst z
            obtain ⟨h1, h2⟩ := rng_int (h _ (List.mem_of_getElem? q))
            exact pat_some (by omega) (by omega)
theorem Vd.rng : ∀ {ds : List Deed}, (∀ d ∈ ds, OkD d) → ∀ o ∈ (stF ds).rs, Rng o := by
  intro ds
  induction hn : ds.length generalizing ds with
  | zero =>
    intro _ o ho
    rw [List.eq_nil_of_length_eq_zero hn] at ho
    cases ho
  | succ n ih =>
    intro h
    rcases List.eq_nil_or_concat ds with z | ⟨es, d, z⟩
    · subst z; cases hn
    · rw [List.concat_eq_append] at z
      subst z
      have hes := ih (ds := es) (by rw [List.length_append] at hn; simp at hn; exact hn) fun d hd => h d (List.mem_append.mpr (.inl hd))
      rw [stF_snoc]
      intro o ho
      cases d with
      | come p =>
        rcases List.mem_append.mp (show o ∈ (goes (stF es).rs.length (stF es).rs).2.take (stF es).k ++ p :: (goes (stF es).rs.length (stF es).rs).2.drop (stF es).k from ho) with z | z
        · exact goes_rng _ _ hes o (List.mem_of_mem_take z)
        · rcases List.mem_cons.mp z with z | z
          · rw [z]; exact h (.come p) (List.mem_append.mpr (.inr (List.mem_singleton.mpr rfl))) p rfl
          · exact goes_rng _ _ hes o (List.mem_of_mem_drop z)
      | serve => exact hes o (List.mem_of_mem_tail ho)
theorem b_rng {o : Option Int} (h : Rng o) : B 0 200 (optD o) := by
  cases o with
  | none => exact b_none
  | some i =>
    obtain ⟨h1, h2⟩ := rng_int h
    have h3 : (1000000000000000000000000000000 : Nat) ≤ 2 ^ 140 := by decide
    have h4 : GREAT = 1000000000000000000000000000000 := rfl
    have h5 : (2 : Nat) ^ 140 = 1393796574908163946345982392040522594123776 := by decide +kernel
    exact b_int (by omega)
def dataR (ds : List Deed) : PyData := .list [.list ((so (stF ds).xs).map optD), .list ((stF ds).rs.map optD), .list (ds.map deedD)]
theorem dataR_b {ds : List Deed} (hv : Vd ds) (ho : ∀ d ∈ ds, OkD d) (hl : ds.length ≤ 200) : B 100 10000000 (dataR ds) := by
  obtain ⟨c1, c2⟩ := ds_count hv 200 hl
  have ok := hv.ok
  have b1 : B 1 50000 (.list ((so (stF ds).xs).map optD)) := by
    refine (B.list (k := 0) (u := 200) (n := 200) (fun x hx => ?_) (by rw [List.length_map]; unfold so; rw [List.length_map]; exact c2)).mono (by decide) (by decide)
    obtain ⟨o, ho, rfl⟩ := List.mem_map.mp hx
    obtain ⟨y, hy, rfl⟩ := List.mem_map.mp ho
    have := ok.lt y hy
    have h3 : (1000 : Nat) ≤ 2 ^ 140 := by decide
    exact b_int (by omega)
  have b2 : B 1 50000 (.list ((stF ds).rs.map optD)) := by
    refine (B.list (k := 0) (u := 200) (n := 200) (fun x hx => ?_) (by rw [List.length_map, ← ok.len]; exact c2)).mono (by decide) (by decide)
    obtain ⟨o, hmem, rfl⟩ := List.mem_map.mp hx
    exact b_rng (Vd.rng ho o hmem)
  have b3 : B 2 200000 (.list (ds.map deedD)) := by
    refine (B.list (k := 1) (u := 500) (n := 200) (fun x hx => ?_) (by rw [List.length_map]; exact hl)).mono (by decide) (by decide)
    obtain ⟨d, hmem, rfl⟩ := List.mem_map.mp hx
    have bs : ∀ z : Str, (reprText z).length ≤ 200 → B 0 200 (.str z) := fun z hz => ⟨Nat.zero_le _, hz, rfl⟩
    have w1 : B 0 200 (.str "come") := bs _ (by decide +kernel)
    have w2 : B 0 200 (.str "serve") := bs _ (by decide +kernel)
    cases d with
    | come p =>
      refine (B.tuple (k := 0) (u := 200) (n := 2) (fun y hy => ?_) (Nat.le_refl _)).mono (by decide) (by decide)
      rcases List.mem_cons.mp hy with z | z
      · rw [z]; exact w1
      · rw [List.mem_singleton.mp z]; exact b_rng (ho _ hmem p rfl)
    | serve =>
      refine (B.tuple (k := 0) (u := 200) (n := 1) (fun y hy => ?_) (Nat.le_refl _)).mono (by decide) (by decide)
      rw [List.mem_singleton.mp hy]; exact w2
  refine (B.list (k := 2) (u := 200000) (n := 3) (fun x hx => ?_) (Nat.le_refl _)).mono (by decide) (by decide)
  rcases List.mem_cons.mp hx with z | z
  · rw [z]; exact b1.mono (by decide) (by decide)
  · rcases List.mem_cons.mp z with z | z
    · rw [z]; exact b2.mono (by decide) (by decide)
    · rw [List.mem_singleton.mp z]; exact b3
/-- what is told, as data -/
theorem dataR_rp {H : Hp} {ds : List Deed} {a q l h : Addr} {ws : List V} (ea : H a = some (.lst [.ref q, .ref l, .ref h])) (eq : H q = some (.lst (ppl (stF ds).xs))) (el : H l = some (.lst ((stF ds).rs.map optV))) (eh : H h = some (.lst ws)) (aw : All2 (DeedV H) ws ds) : Rp H (.ref a) (dataR ds) := by
  rw [ppl_so] at eq
  exact .lst ea (.cons (.lst eq (opts_rp _)) (.cons (.lst el (opts_rp _)) (.cons (.lst eh (deeds_rp aw)) .nil)))
theorem LineAt.kd {C : Addr} {H H' : Hp} {L : LnA} {s : LS} (h : LineAt C H L s) (k : ∀ b o, (∀ kvs, o ≠ .dK kvs) → H b = some o → H' b = some o) : LineAt C H' L s := by
  obtain ⟨dx, fs, ho, hf⟩ := h.ob
  obtain ⟨vs, e1, a1⟩ := h.se
  obtain ⟨ws, e2, a2⟩ := h.de
  have kt : ∀ t ys, H t = some (.tup ys) → H' t = some (.tup ys) := fun t ys e => k t _ (fun _ => nofun) e
  exact ⟨⟨dx, fs, k _ _ (fun _ => nofun) ho, hf⟩, k _ _ (fun _ => nofun) h.pe, k _ _ (fun _ => nofun) h.re, k _ _ (fun _ => nofun) h.pa, ⟨vs, k _ _ (fun _ => nofun) e1, a1.imp fun _ _ => ServV.kx kt⟩, ⟨ws, k _ _ (fun _ => nofun) e2, a2.imp fun _ _ => DeedV.kx kt⟩, h.nd, h.ok⟩
def spRight (C : Addr) : Sp := fun vs H Q _ => ∃ (L : LnA) (A : Addr) (ws : List V) (ds : List Deed), vs = [.ref L.o, .ref A] ∧ LineAt C H L (stF ds) ∧ H A = some (.lst ws) ∧ All2 (DeedV H) ws ds ∧ Vd ds ∧ (∀ d ∈ ds, OkD d) ∧ ds.length ≤ 200 ∧ ∀ H', Same H H' → Q (.bl true) H'
section
variable {P : Program} {w : World} {K : PySem.W.Frag} {mg : Str → Option Value} {base : Heap} {C : Addr}
theorem ok_right {f fQ fL fH fW fLN : Addr} {fd fdQ fdL fdH fdW fdLN : FuncData} (F : Fun K "_law_right" "_law_right" sLRight f fd) (hT : Nm mg) (T : LnT K mg C) (hrepr : mg "repr" = none) (hsys : ∃ o, base.get? sysModules = some o)
    (mQ : Meth K C "queue" fQ) (GQ : FnOk P w K mg base CX0 1 fQ fdQ ["self"] (spQueM C)) (bQ : Binds K fdQ ["self"] [])
    (mL : Meth K C "left" fL) (GL : FnOk P w K mg base CX0 1 fL fdL ["self"] (spLeftM C)) (bL : Binds K fdL ["self"] [])
    (mH : Meth K C "history" fH) (GH : FnOk P w K mg base CX0 1 fH fdH ["self"] (spHistM C)) (bH : Binds K fdH ["self"] [])
    (mW : Meth K C "went_past" fW) (GW : FnOk P w K mg base CX0 2 fW fdW ["self", "person"] (spWentM C)) (bW : Binds K fdW ["self", "person"] [])
    (hLs : PySem.W.findIn K (.ref C) "__len__" = some (some (.ref fLN))) (hLf : PySem.W.isFn K (.ref fLN) = true) (GLN : FnOk P w K mg base CX0 1 fLN fdLN ["self"] (spLenM C)) (bLN : Binds K fdLN ["self"] [])
    (CDo : Cal P w K mg base 4 "_law_done" ["deeds"] spDone) : FnG P w K mg base 6 f fd ["line", "deeds"] (spRight C) := by
  refine fng_of F scRight (fun vs H Q E ⟨L, A, ws, ds, e, _⟩ => by rw [e]; rfl) (fun cdv A' outer s H vs Q E hgd hr h => ?_)
  obtain ⟨L, A, ws, ds, rfl, ln, eA, hws, hv, ho, hl, q⟩ := h
  have nd := scRight.nd
  have hu := hu_of hr
  refine ⟨_, (pss_cons (ps_asg (pe_cal CDo (hr.mono (by decide)) (by rfl) (pa_cons (pv 1) pa_nil)) (pg_tup rfl (pgs_cons (pg_name (i := 2) nd rfl (.inl rfl)) (pgs_cons (pg_name (i := 3) nd rfl (.inr rfl)) (pgs_cons (pg_name (i := 4) nd rfl (.inr rfl)) pgs_nil)))))
      (pss_cons (ps_set (i := 5) nd rfl (.inl rfl) (pe_lst (pa_cons (pe_meth0 (pv 0) T.cl mQ GQ (hr.mono (by decide)) bQ .nil pass0) (pa_cons (pe_meth0 (pv 0) T.cl mL GL (hr.mono (by decide)) bL .nil pass0) (pa_cons (pe_meth0 (pv 0) T.cl mH GH (hr.mono (by decide)) bH .nil pass0) pa_nil)))))
      (pss_cons (ps_set (i := 6) nd rfl (.inl rfl) (pe_lst (pa_cons (pv 2) (pa_cons (pe_lc (own := [("person", 8)]) (g := gName 8) (tt := tYes) rfl nd (pi_list (pv 2)) (blkOk_by (own := [("person", 8)]) (N := nRight) (sc := defScope sLRight) (by decide +kernel)) (fun _ _ _ _ _ => pg_name (i := 8) nd rfl (Or.inl rfl)) (fun _ _ _ _ _ => pts_nil) (fun _ _ _ _ _ => dget_blk hu (pv 3) (pv 8) (fun _ _ => rfl))) (pa_cons (pv 1) pa_nil)))))
      (pss_cons (ps_if (PW.pt (pw_or (pt_cmpR op_ne (pe_callB (call_reprD hgd hr hsys) (by rfl) hrepr (by decide +kernel) (pa_cons (pv 5) pa_nil)) (pe_callB (call_reprD hgd hr hsys) (by rfl) hrepr (by decide +kernel) (pa_cons (pv 6) pa_nil)) (nomark _)) (pw_or1 (pt_cmpR op_ne (pe_callB (call_lenOwn GLN (hr.mono (by decide)) hLs hLf bLN pass0) (by rfl) hT.len PySem.boot_len (pa_cons (pv 0) pa_nil)) (pe_callB call_len_seq (by rfl) hT.len PySem.boot_len (pa_cons (pv 2) pa_nil)) (nomark _))))) (pss_one (ps_ret pe_bl)) pss_nil)
      (pss_cons (ps_if (pt_cmpR (op_neE hr.units0) (pe_lock (pe_lc (own := [("person", 8)]) (g := gName 8) rfl nd (pi_keys (pv 4)) (blkOk_by (own := [("person", 8)]) (N := nRight) (sc := defScope sLRight) (by decide +kernel)) (fun _ _ _ _ _ => pg_name (i := 8) nd rfl (Or.inl rfl)) (fun _ _ _ _ _ => pts_one (pt_cmpR op_ne (pe_meth (pv 0) T.cl mW GW (hr.mono (by decide)) bW .nil pass0 (pa_cons (pv 8) pa_nil)) (dget_blk hu (pv 4) (pv 8) (fun _ _ => rfl)) (nomark _))) (fun _ _ _ _ _ => pv 8))) (pe_lst pa_nil) (nomark _)) (pss_one (ps_ret pe_bl)) pss_nil)
      (pss_cons (ps_for PassesOwn.never rfl (pi_list (pv 5)) (pg_name (i := 7) nd rfl (.inl rfl)) (pss_one (ps_expr (pe_bm PySem.F.plainAttrs_list PySem.F.slot_list_append PySem.F.type_list_append mt_append (pv 7) (pa_cons pe_non pa_nil)))))
      (pss_one (ps_ret (pe_cmpR op_eq (pe_callB (call_reprD hgd hr hsys) (by rfl) hrepr (by decide +kernel) (pa_cons (pe_lst (pa_cons (pe_meth0 (pv 0) T.cl mQ GQ (hr.mono (by decide)) bQ .nil pass0) (pa_cons (pe_meth0 (pv 0) T.cl mL GL (hr.mono (by decide)) bL .nil pass0) (pa_cons (pe_meth0 (pv 0) T.cl mH GH (hr.mono (by decide)) bH .nil pass0) pa_nil)))) pa_nil)) (pe_callB (call_reprD hgd hr hsys) (by rfl) hrepr (by decide +kernel) (pa_cons (pv 6) pa_nil)) (nomark _)))))))))), ?_⟩
  have hok := hv.ok
  have hB := dataR_b hv ho hl
  obtain ⟨c1, c2⟩ := ds_count hv 200 hl
  -- stand, rest, past
  refine ⟨.ref A, rfl, A, ws, ds, rfl, eA, hws, hv, by omega, fun t S D P1 H1 f1 s1 et eS hR hf eP nS nD nP => ⟨t, _, rfl, SqT.of et, rfl, .ref S, _, rfl, .ref D, _, rfl, .ref P1, _, rfl, rfl, ?_⟩⟩
  have ln1 := ln.same s1
  have aw1 := hws.imp fun _ _ => DeedV.kx fun t ys e => s1 t _ e
  show tSeq _ _ _ [some (.ref L.o), some (.ref A), some (.ref S), some (.ref D), some (.ref P1), none, none, none, none] H1
  -- told
  obtain ⟨dx, fs, hob, hf'⟩ := ln1.ob
  refine ⟨.ref L.o, rfl, L.o, dx, fs, rfl, hob, hf'.queue, L, _, rfl, ln1, fun q1 n1 => ?_⟩
  have s2 : Same H1 (upd H1 q1 (.lst (ppl (stF ds).xs))) := same_upd n1
  have e1 : (upd H1 q1 (.lst (ppl (stF ds).xs))) q1 = some (.lst (ppl (stF ds).xs)) := upd_same
  generalize upd H1 q1 (.lst (ppl (stF ds).xs)) = H2 at s2 e1
  refine ⟨.ref L.o, rfl, L.o, dx, fs, rfl, s2 _ _ hob, hf'.left, L, _, rfl, ln1.same s2, fun q2 n2 => ?_⟩
  have s3 : Same H2 (upd H2 q2 (.lst ((stF ds).rs.map optV))) := same_upd n2
  have e2 : (upd H2 q2 (.lst ((stF ds).rs.map optV))) q2 = some (.lst ((stF ds).rs.map optV)) := upd_same
  generalize upd H2 q2 (.lst ((stF ds).rs.map optV)) = H3 at s3 e2
  have q12 : q1 ≠ q2 := ne_of_none e1 n2
  have e1' := e1
  have e2' := e2
  refine ⟨.ref L.o, rfl, L.o, dx, fs, rfl, s3 _ _ (s2 _ _ hob), hf'.hist, L, _, rfl, (ln1.same s2).same s3, fun q3 ws3 n3 aw3 => ?_⟩
  rw [stF_ds] at aw3
  have s4 : Same H3 (upd H3 q3 (.lst ws3)) := same_upd n3
  have e3 : (upd H3 q3 (.lst ws3)) q3 = some (.lst ws3) := upd_same
  generalize upd H3 q3 (.lst ws3) = H4 at s4 e3
  have e3' := e3
  have q13 : q1 ≠ q3 := ne_of_none (s3 _ _ e1) n3
  have q23 : q2 ≠ q3 := ne_of_none e2 n3
  refine ⟨small_le (by show 3 ≤ 1000; decide), fun TO nTO => ?_⟩
  have s5 : Same H4 (upd H4 TO (.lst [.ref q1, .ref q2, .ref q3])) := same_upd nTO
  have eTO : (upd H4 TO (.lst [.ref q1, .ref q2, .ref q3])) TO = some (.lst [.ref q1, .ref q2, .ref q3]) := upd_same
  dsimp only [gName]
  show tSeq _ _ _ [some (.ref L.o), some (.ref A), some (.ref S), some (.ref D), some (.ref P1), some (.ref TO), none, none, none] (upd H4 TO (.lst [.ref q1, .ref q2, .ref q3]))
  generalize upd H4 TO (.lst [.ref q1, .ref q2, .ref q3]) = H5 at s5 eTO
  have s15 : Same H1 H5 := (s2.trans s3).trans (s4.trans s5)
  have e1 := s5 _ _ (s4 _ _ (s3 _ _ e1))
  have e2 := s5 _ _ (s4 _ _ e2)
  have e3 := s5 _ _ e3
  have aw5 : All2 (DeedV H5) ws3 ds := aw3.imp fun _ _ => DeedV.kx fun t ys e => s5 _ _ (s4 _ _ e)
  have ne13 : ∀ b o, H1 b = some o → b ≠ q1 ∧ b ≠ q2 ∧ b ≠ q3 ∧ b ≠ TO := fun b o e => ⟨ne_of_none e n1, ne_of_none (s2 _ _ e) n2, ne_of_none (s3 _ _ (s2 _ _ e)) n3, ne_of_none (s4 _ _ (s3 _ _ (s2 _ _ e))) nTO⟩
  have rp5 := dataR_rp eTO e1 e2 e3 aw5
  obtain ⟨kvs, k1, k2, k3⟩ := hR
  -- due
  refine ⟨.ref S, rfl, .ref S, rfl, S, rfl, ⟨_, SqL.of (s15 _ _ eS)⟩, fun D2 nD2 => ?_⟩
  have nDD : D ≠ D2 := fun z => by rw [← z, s15 _ _ k1] at nD2; cases nD2
  have nSD : S ≠ D2 := fun z => by rw [← z, s15 _ _ eS] at nD2; cases nD2
  refine lc_list (K := K) (a := S) (xs := ppl (stF ds).xs) (fun i G => (∀ b o, b ≠ D2 → H5 b = some o → G b = some o) ∧ G D2 = some (.lst ((((stF ds).xs.take i).map f1).map optV)))
    ⟨fun b o nb e => by rw [upd_ne nb]; exact e, upd_same⟩ (fun i G _ ⟨mG, _⟩ => SqL.of (mG _ _ nSD (s15 _ _ eS))) (fun i x G hx ⟨mG, eD⟩ => ?_) (fun G ⟨mG, eD⟩ => ?_)
  · have il : i < (stF ds).xs.length := by rw [← ppl_len]; exact (List.getElem?_eq_some_iff.mp hx).1
    rw [ppl_get il] at hx
    obtain rfl := (Option.some.inj hx).symm
    have hlt := hok.lt _ (List.getElem_mem il)
    have hsn : (((stF ds).xs.take (i + 1)).map f1).map optV = (((stF ds).xs.take i).map f1).map optV ++ [optV (f1 (stF ds).xs[i])] := by rw [List.take_add_one, List.getElem?_eq_getElem il, List.map_append, List.map_append]; rfl
    have dg : DGet G D (.int ((stF ds).xs[i] : Int)) (some (optV (f1 (stF ds).xs[i]))) := by rw [← k3 _ hlt]; exact DGet.k (k := Sum.inl ((stF ds).xs[i] : Int)) (mG _ _ nDD (s15 _ _ k1))
    refine ⟨rfl, yesT ⟨.ref D, rfl, .int ((stF ds).xs[i] : Int), rfl, D, _, rfl, dg, _, eD, by rw [List.length_map, List.length_map, List.length_take]; exact small1000 (by omega), fun b o nb e => by rw [upd_ne nb]; exact mG b o nb e, ?_⟩⟩
    rw [upd_same, hsn]
  rw [ppl_len, List.take_length, hf] at eD
  have s6 : Same H5 G := fun b o e => mG b o (fun z => by rw [z, nD2] at e; cases e) e
  refine ⟨.ref A, rfl, small_le (by show 3 ≤ 1000; decide), fun DU nDU => ?_⟩
  have s7 : Same G (upd G DU (.lst [.ref S, .ref D2, .ref A])) := same_upd nDU
  have eDU : (upd G DU (.lst [.ref S, .ref D2, .ref A])) DU = some (.lst [.ref S, .ref D2, .ref A]) := upd_same
  dsimp only [gName]
  show tSeq _ _ _ [some (.ref L.o), some (.ref A), some (.ref S), some (.ref D), some (.ref P1), some (.ref TO), some (.ref DU), none, none] (upd G DU (.lst [.ref S, .ref D2, .ref A]))
  generalize upd G DU (.lst [.ref S, .ref D2, .ref A]) = H7 at s7 eDU
  have s57 : Same H5 H7 := s6.trans s7
  have s17 : Same H1 H7 := s15.trans s57
  have eD7 := s7 _ _ eD
  have aw7 : All2 (DeedV H7) ws ds := aw1.imp fun _ _ => DeedV.kx fun t ys e => s17 t _ e
  have nq : ∀ b, (b = S ∨ b = D2 ∨ b = A ∨ b = DU) → b ≠ q1 ∧ b ≠ q2 ∧ b ≠ q3 := fun b hb => by
    rcases hb with rfl | rfl | rfl | rfl
    · obtain ⟨a1, a2, a3, _⟩ := ne13 _ _ eS; exact ⟨a1, a2, a3⟩
    · exact ⟨Ne.symm (ne_of_none e1 nD2), Ne.symm (ne_of_none e2 nD2), Ne.symm (ne_of_none e3 nD2)⟩
    · obtain ⟨a1, a2, a3, _⟩ := ne13 _ _ (s1 _ _ eA); exact ⟨a1, a2, a3⟩
    · exact ⟨Ne.symm (ne_of_none (s6 _ _ e1) nDU), Ne.symm (ne_of_none (s6 _ _ e2) nDU), Ne.symm (ne_of_none (s6 _ _ e3) nDU)⟩
  have rpD7 : Rp H7 (.ref DU) (dataR ds) := dataR_rp eDU (s17 _ _ eS) eD7 (s17 _ _ (s1 _ _ eA)) aw7
  have ln7 := ln1.same s17
  obtain ⟨dx7, fs7, hob7, hf7⟩ := ln7.ob
  -- repr(told) != repr(due) or len(line) != len(stand)
  refine ⟨.ref TO, rfl, .ref TO, dataR ds, TO, rfl, rfl, Rp.sm s57 rp5, hB, .ref DU, rfl, .ref DU, dataR ds, DU, rfl, rfl, rpD7, hB, rfl, _, rfl, ite2 (fun y => absurd y (by simp)) (fun _ => ?_)⟩
  refine ⟨.ref L.o, rfl, L.o, dx7, fs7, rfl, hob7, L, _, rfl, ln7, (stF ds).xs.length, rfl, by omega, .ref S, rfl, S, _, rfl, .inl (SqL.of (s17 _ _ eS)), rfl, _, rfl, ite2 (fun y => absurd y (by rw [ppl_len]; simp)) (fun _ => ?_)⟩
  -- went past
  have eP7 := s17 _ _ eP
  refine ⟨P1, _, eP7, trivial, fun od => ⟨.ref P1, rfl, P1, od, rfl, .inl ⟨_, upd_same, fun D3 nD3 => ?_⟩⟩⟩
  have hfz : (upd H7 P1 (.frz od (.dK (pastK (stF ds).ps)))) P1 = some (.frz od (.dK (pastK (stF ds).ps))) := upd_same
  have hkd : ∀ b o, (∀ kvs, o ≠ .dK kvs) → H7 b = some o → (upd H7 P1 (.frz od (.dK (pastK (stF ds).ps)))) b = some o := fun b o no e => by
    rw [upd_ne (fun z => by rw [z, eP7] at e; exact no _ (Option.some.inj e).symm)]
    exact e
  have bk : ∀ {G : Hp}, Same (upd H7 P1 (.frz od (.dK (pastK (stF ds).ps)))) G → Same H7 (upd G P1 (.dK (pastK (stF ds).ps))) := fun {G} m b o e => by
    by_cases z : b = P1
    · subst z
      rw [eP7] at e
      rw [upd_same]
      exact e
    · rw [upd_ne z]
      exact m b o (by rw [upd_ne z]; exact e)
  have lnF := ln7.kd hkd
  generalize upd H7 P1 (.frz od (.dK (pastK (stF ds).ps))) = HF at hfz bk lnF nD3
  have nP3 : P1 ≠ D3 := fun z => by rw [← z, hfz] at nD3; cases nD3
  refine lc_it walk_keys (fun i G => Same HF G ∧ G D3 = some (.lst [])) ⟨same_upd nD3, upd_same⟩ (fun i G _ ⟨mG, _⟩ => mG _ _ hfz) (fun i x G G' hi ⟨mG, eG⟩ hY => ?_) (fun G ⟨mG, eG⟩ => ⟨mG _ _ hfz, ?_⟩)
  · obtain ⟨rfl, kx, vx, hkv, rfl⟩ := hY
    rw [pastK_len] at hi
    have hkx : kx = (Sum.inl (i : Int) : Key) := by
      unfold pastK at hkv
      rw [List.getElem?_map, List.getElem?_range hi] at hkv
      cases hkv
      rfl
    subst hkx
    have lnG := lnF.same mG
    obtain ⟨dxG, fsG, hobG, hfG⟩ := lnG.ob
    refine ⟨rfl, .ref L.o, rfl, L.o, dxG, fsG, rfl, hobG, hfG.went, .int (i : Int), rfl, L, _, i, hi, rfl, lnG, fun H8 s8 => ?_⟩
    have dg : DGet H8 P1 (.int (i : Int)) (some (.int ((stF ds).ps.getD i 0 : Nat))) := by rw [← pastK_get (ps := (stF ds).ps) hi]; exact .inl ⟨_, Sum.inl (i : Int), .inr ⟨od, s8 _ _ (mG _ _ hfz)⟩, rfl, rfl⟩
    refine ⟨.ref P1, rfl, .int (i : Int), rfl, P1, _, rfl, dg, rfl, _, rfl, ite2 (fun y => absurd y ?_) (fun _ => ⟨mG.trans s8, s8 _ _ eG⟩)⟩
    have eg : (stF ds).ps.getD i 0 = (stF ds).ps[i] := by rw [List.getD_eq_getElem?_getD, List.getElem?_eq_getElem hi]; rfl
    rw [eg]
    simp
  · have s8 := bk mG
    have eD3 : (upd G P1 (.dK (pastK (stF ds).ps))) D3 = some (.lst []) := by rw [upd_ne (Ne.symm nP3)]; exact eG
    generalize upd G P1 (.dK (pastK (stF ds).ps)) = H8 at s8 eD3
    refine ⟨Nat.zero_le _, fun Z nZ => ⟨D3, Z, [], rfl, rfl, (same_upd nZ) _ _ eD3, upd_same, _, rfl, iteF ?_⟩⟩
    have s9 : Same H7 (upd H8 Z (.lst [])) := s8.trans (same_upd nZ)
    generalize upd H8 Z (.lst []) = H9 at s9
    have s59 := s57.trans s9
    have s19 := s17.trans s9
    -- for some in told: some.append(None)
    refine ⟨.ref TO, rfl, TO, rfl, ⟨_, SqL.of (s59 _ _ eTO)⟩, for_list (xs := [.ref q1, .ref q2, .ref q3]) (fun i σ G => (∃ y, σ = [some (.ref L.o), some (.ref A), some (.ref S), some (.ref D), some (.ref P1), some (.ref TO), some (.ref DU), y, none]) ∧ (∀ b, b ≠ q1 → b ≠ q2 → b ≠ q3 → G b = H9 b) ∧ (∃ us, G q1 = some (.lst us) ∧ us.length ≤ 300 + i) ∧ (∃ us, G q2 = some (.lst us) ∧ us.length ≤ 300 + i) ∧ ∃ us, G q3 = some (.lst us) ∧ us.length ≤ 300 + i)
      ⟨⟨_, rfl⟩, fun _ _ _ _ => rfl, ⟨_, s59 _ _ e1, by rw [ppl_len]; omega⟩, ⟨_, s59 _ _ e2, by rw [List.length_map, ← hok.len]; omega⟩, ⟨_, s59 _ _ e3, by rw [aw5.length]; omega⟩⟩
      (fun i σ G _ ⟨_, kG, _⟩ => SqL.of (by
        rw [kG TO (Ne.symm (ne_of_none (s4 _ _ (s3 _ _ e1')) nTO)) (Ne.symm (ne_of_none (s4 _ _ e2') nTO)) (Ne.symm (ne_of_none e3' nTO))]
        exact s59 _ _ eTO)) (fun i x σ G hx hP => ?_) (fun σ G hP => ?_)⟩
    · obtain ⟨⟨y, rfl⟩, kG, ⟨u1, g1, z1⟩, ⟨u2, g2, z2⟩, ⟨u3, g3, z3⟩⟩ := hP
      have hi3 := (List.getElem?_eq_some_iff.mp hx).1
      have sz : 1000 ≤ sizeLine := by decide
      have hi3 : i < 3 := hi3
      match i, hi3, hx with
      | 0, _, hx =>
        cases hx
        exact ⟨.ref q1, rfl, .inl ⟨rfl, _, SqL.of g1⟩, q1, u1, .non, rfl, rfl, g1, by omega, ⟨_, rfl⟩, fun b a1 a2 a3 => by rw [upd_ne a1]; exact kG b a1 a2 a3, ⟨_, upd_same, by rw [List.length_append, List.length_singleton]; omega⟩, ⟨u2, by rw [upd_ne (Ne.symm q12)]; exact g2, by omega⟩, ⟨u3, by rw [upd_ne (Ne.symm q13)]; exact g3, by omega⟩⟩
      | 1, _, hx =>
        cases hx
        exact ⟨.ref q2, rfl, .inl ⟨rfl, _, SqL.of g2⟩, q2, u2, .non, rfl, rfl, g2, by omega, ⟨_, rfl⟩, fun b a1 a2 a3 => by rw [upd_ne a2]; exact kG b a1 a2 a3, ⟨u1, by rw [upd_ne q12]; exact g1, by omega⟩, ⟨_, upd_same, by rw [List.length_append, List.length_singleton]; omega⟩, ⟨u3, by rw [upd_ne (Ne.symm q23)]; exact g3, by omega⟩⟩
      | 2, _, hx =>
        cases hx
        exact ⟨.ref q3, rfl, .inl ⟨rfl, _, SqL.of g3⟩, q3, u3, .non, rfl, rfl, g3, by omega, ⟨_, rfl⟩, fun b a1 a2 a3 => by rw [upd_ne a3]; exact kG b a1 a2 a3, ⟨u1, by rw [upd_ne q13]; exact g1, by omega⟩, ⟨u2, by rw [upd_ne q23]; exact g2, by omega⟩, ⟨_, upd_same, by rw [List.length_append, List.length_singleton]; omega⟩⟩
    · obtain ⟨⟨y, rfl⟩, kG, _⟩ := hP
      have s1G : Same H1 G := fun b o e => by
        obtain ⟨a1, a2, a3, _⟩ := ne13 b o e
        rw [kG b a1 a2 a3]
        exact s19 _ _ e
      have up : ∀ {b : Addr} {o : HO}, (b = S ∨ b = D2 ∨ b = A ∨ b = DU) → H7 b = some o → G b = some o := fun {b o} hb e => by
        obtain ⟨a1, a2, a3⟩ := nq b hb
        rw [kG b a1 a2 a3]
        exact s9 _ _ e
      have rpG : Rp G (.ref DU) (dataR ds) := dataR_rp (up (.inr (.inr (.inr rfl))) eDU) (s1G _ _ eS) (up (.inr (.inl rfl)) eD7) (s1G _ _ (s1 _ _ eA)) (aw1.imp fun _ _ => DeedV.kx fun t ys e => s1G t _ e)
      have lnG := ln1.same s1G
      dsimp only []
      show tRet _ _ [some (.ref L.o), some (.ref A), some (.ref S), some (.ref D), some (.ref P1), some (.ref TO), some (.ref DU), y, none] G
      obtain ⟨dx, fs, hob, hf'⟩ := lnG.ob
      refine ⟨.ref L.o, rfl, L.o, dx, fs, rfl, hob, hf'.queue, L, _, rfl, lnG, fun q1 n1 => ?_⟩
      have s2 : Same G (upd G q1 (.lst (ppl (stF ds).xs))) := same_upd n1
      have e1 : (upd G q1 (.lst (ppl (stF ds).xs))) q1 = some (.lst (ppl (stF ds).xs)) := upd_same
      generalize upd G q1 (.lst (ppl (stF ds).xs)) = H2 at s2 e1
      refine ⟨.ref L.o, rfl, L.o, dx, fs, rfl, s2 _ _ hob, hf'.left, L, _, rfl, lnG.same s2, fun q2 n2 => ?_⟩
      have s3 : Same H2 (upd H2 q2 (.lst ((stF ds).rs.map optV))) := same_upd n2
      have e2 : (upd H2 q2 (.lst ((stF ds).rs.map optV))) q2 = some (.lst ((stF ds).rs.map optV)) := upd_same
      generalize upd H2 q2 (.lst ((stF ds).rs.map optV)) = H3 at s3 e2
      refine ⟨.ref L.o, rfl, L.o, dx, fs, rfl, s3 _ _ (s2 _ _ hob), hf'.hist, L, _, rfl, (lnG.same s2).same s3, fun q3 ws3 n3 aw3 => ?_⟩
      rw [stF_ds] at aw3
      have s4 : Same H3 (upd H3 q3 (.lst ws3)) := same_upd n3
      have e3 : (upd H3 q3 (.lst ws3)) q3 = some (.lst ws3) := upd_same
      generalize upd H3 q3 (.lst ws3) = H4 at s4 e3
      refine ⟨small_le (by show 3 ≤ 1000; decide), fun TO nTO => ?_⟩
      have s5 : Same H4 (upd H4 TO (.lst [.ref q1, .ref q2, .ref q3])) := same_upd nTO
      have eTO : (upd H4 TO (.lst [.ref q1, .ref q2, .ref q3])) TO = some (.lst [.ref q1, .ref q2, .ref q3]) := upd_same
      generalize upd H4 TO (.lst [.ref q1, .ref q2, .ref q3]) = H5 at s5 eTO
      have rp5 := dataR_rp eTO (s5 _ _ (s4 _ _ (s3 _ _ e1))) (s5 _ _ (s4 _ _ e2)) (s5 _ _ e3) (aw3.imp fun _ _ => DeedV.kx fun t ys e => s5 _ _ (s4 _ _ e))
      have sG5 : Same G H5 := (s2.trans s3).trans (s4.trans s5)
      refine ⟨.ref TO, dataR ds, TO, rfl, rfl, rp5, hB, .ref DU, rfl, .ref DU, dataR ds, DU, rfl, rfl, Rp.sm sG5 rpG, hB, rfl, ?_⟩
      have qq := q H5 ((s1.trans s1G).trans sG5)
      have et : decide (V.str (dataR ds).shown = V.str (dataR ds).shown) = true := decide_eq_true rfl
      rw [et]
      exact qq
end
end CL
set_option Elab.async false
set_option linter.all false
set_option maxRecDepth 100000
set_option maxHeartbeats 4000000
namespace CL
open PySem PySem.Spec PyProof.Rows L2 GE
abbrev sLaw : Stmt := topS 26
abbrev nLaw : List Str := ["script", "bag", "turn", "most", "lines", "done", "time", "at", "later"]
theorem scLaw : FnScope nLaw ["script"] (defScope sLaw) := ⟨rfl, rfl, rfl, by decide +kernel, rfl, by decide +kernel, by decide +kernel⟩
def spLaw (K : PySem.W.Frag) : Sp := fun vs H Q _ => ∃ (a : Addr) (ns : List Int), vs = [.ref a] ∧ SqL K H a (ns.map V.int) ∧ ns.length ≤ 63 ∧ ∀ H', Q (.bl true) H'
/-! ### two lines side by side -/
structure W2 (C : Addr) (n : Nat) (H : Hp) (r : Bg) (A B : LnA) (x y : Addr) (d e : List Deed) : Prop where
  bag : BagAt n H r
  la : LineAt C H A (stF d)
  lb : LineAt C H B (stF e)
  xa : ∃ ws, H x = some (.lst ws) ∧ All2 (DeedV H) ws d
  yb : ∃ us, H y = some (.lst us) ∧ All2 (DeedV H) us e
  vd : Vd d
  ve : Vd e
  od : ∀ z ∈ d, OkD z
  oe : ∀ z ∈ e, OkD z
structure D2 (r : Bg) (A B : LnA) (x y : Addr) : Prop where
  ab : ∀ b, A.has b → ¬ B.has b
  ba : ∀ b, B.has b → ¬ A.has b
  aa : ¬ A.has r.a
  ac : ¬ A.has r.c
  b_a : ¬ B.has r.a
  bc : ¬ B.has r.c
  ax : ¬ A.has x
  ay : ¬ A.has y
  bx : ¬ B.has x
  by' : ¬ B.has y
  xr : x ≠ r.a
  yr : y ≠ r.a
structure D1 (r : Bg) (A B : LnA) (p : Addr) : Prop where
  a : ¬ A.has p
  b : ¬ B.has p
  r : p ≠ r.a
section
variable {C : Addr} {n m : Nat} {H H' : Hp} {r : Bg} {A B : LnA} {x y p : Addr} {d e d' : List Deed}
theorem W2.swap (w : W2 C n H r A B x y d e) : W2 C n H r B A y x e d := ⟨w.bag, w.lb, w.la, w.yb, w.xa, w.ve, w.vd, w.oe, w.od⟩
theorem D2.swap (w : D2 r A B x y) : D2 r B A y x := ⟨w.ba, w.ab, w.b_a, w.bc, w.aa, w.ac, w.by', w.bx, w.ay, w.ax, w.yr, w.xr⟩
theorem D1.swap (w : D1 r A B p) : D1 r B A p := ⟨w.b, w.a, w.r⟩
theorem W2.sd (w : W2 C n H r A B x y d e) : ∃ ws, Sd C n H r A x (stF d) ws d := by
  obtain ⟨ws, e1, a1⟩ := w.xa
  exact ⟨ws, w.bag, w.la, e1, a1⟩
theorem D2.dis (w : D2 r A B x y) : Dis2 r A x := ⟨w.aa, w.ac, w.ax, w.xr⟩
theorem W2.same (w : W2 C n H r A B x y d e) (m : Same H H') : W2 C n H' r A B x y d e := by
  obtain ⟨ws, e1, a1⟩ := w.xa
  obtain ⟨us, e2, a2⟩ := w.yb
  exact ⟨w.bag.same m, w.la.same m, w.lb.same m, ⟨ws, m _ _ e1, a1.imp fun _ _ => DeedV.kx fun t ys e => m _ _ e⟩, ⟨us, m _ _ e2, a2.imp fun _ _ => DeedV.kx fun t ys e => m _ _ e⟩, w.vd, w.ve, w.od, w.oe⟩
theorem W2.mv (w : W2 C n H r A B x y d e) (dd : D2 r A B x y) (b : BagAt m H' r) (v : Mv r H H') : W2 C m H' r A B x y d e := by
  obtain ⟨ws, e1, a1⟩ := w.xa
  obtain ⟨us, e2, a2⟩ := w.yb
  have kt : ∀ t ys, H t = some (.tup ys) → H' t = some (.tup ys) := fun t ys e => v.keep _ _ (fun z => by
    obtain ⟨vs, e2⟩ := w.bag.isl
    rw [z, e2] at e
    cases e) e
  exact ⟨b, w.la.mv w.bag dd.aa v, w.lb.mv w.bag dd.b_a v, ⟨ws, v.keep _ _ dd.xr e1, a1.imp fun _ _ => DeedV.kx kt⟩, ⟨us, v.keep _ _ dd.yr e2, a2.imp fun _ _ => DeedV.kx kt⟩, w.vd, w.ve, w.od, w.oe⟩
theorem W2.store {xs ys : List V} {g : Addr} (w : W2 C n H r A B x y d e) (eg : H g = some (.lst xs)) (dg : D1 r A B g) (hx : g ≠ x) (hy : g ≠ y) (hc : g ≠ r.c) : W2 C n (upd H g (.lst ys)) r A B x y d e := by
  obtain ⟨ws, e1, a1⟩ := w.xa
  obtain ⟨us, e2, a2⟩ := w.yb
  have kt : ∀ t zs, H t = some (.tup zs) → (upd H g (.lst ys)) t = some (.tup zs) := fun t zs e => by
    rw [upd_ne (fun z => by rw [z, eg] at e; cases e)]
    exact e
  exact ⟨w.bag.store ⟨dg.r, hc⟩, w.la.store eg dg.a, w.lb.store eg dg.b, ⟨ws, by rw [upd_ne (Ne.symm hx)]; exact e1, a1.imp fun _ _ => DeedV.kx kt⟩, ⟨us, by rw [upd_ne (Ne.symm hy)]; exact e2, a2.imp fun _ _ => DeedV.kx kt⟩, w.vd, w.ve, w.od, w.oe⟩
theorem W2.step {x' : Addr} {ws' : List V} (w : W2 C n H r A B x y d e) (dd : D2 r A B x y) (s : Sd C m H' r A x' (stF d') ws' d') (mx : Mx r A H H') (hx : H x' = none) (hv : Vd d') (ho : ∀ z ∈ d', z ∈ d ∨ OkD z) : W2 C m H' r A B x' y d' e ∧ D2 r A B x' y := by
  obtain ⟨us, e2, a2⟩ := w.yb
  have ral : ∀ {b : Addr} {o : HO}, H b = some o → (∀ vs, o ≠ .lst vs) → b ≠ r.a := fun {b o} e n z => by
    obtain ⟨vs, e2⟩ := w.bag.isl
    rw [z, e2] at e
    exact n vs (Option.some.inj e).symm
  have kt : ∀ t ys, H t = some (.tup ys) → H' t = some (.tup ys) := fun t ys e => mx.keep _ _ (ral e fun _ => nofun) (w.la.nol e fun _ => nofun) e
  have lb : LineAt C H' B (stF e) := w.lb.kx fun b o hb eb => hb.elim (fun q => mx.keep _ _ (fun z => dd.b_a (by rw [← z]; exact q)) (dd.ba b q) eb) fun q => mx.keep _ _ (ral eb q) (w.la.nol eb q) eb
  refine ⟨⟨s.bag, s.ln, lb, ⟨ws', s.al, s.aw⟩, ⟨us, mx.keep _ _ dd.yr dd.ay e2, a2.imp fun _ _ => DeedV.kx kt⟩, hv, w.ve, fun z hz => (ho z hz).elim (w.od z) id, w.oe⟩, dd.ab, dd.ba, dd.aa, dd.ac, dd.b_a, dd.bc, fun q => ?_, dd.ay, fun q => ?_, dd.by', fun q => ?_, dd.yr⟩
  · obtain ⟨vs, e⟩ := w.la.isl q
    rw [hx] at e
    cases e
  · obtain ⟨vs, e⟩ := w.lb.isl q
    rw [hx] at e
    cases e
  · exact w.bag.some (by rw [← q]; exact hx)
end
section
variable {P : Program} {w : World} {K : PySem.W.Frag} {mg : Str → Option Value} {base : Heap} {C : Addr}
theorem ok_law {f fI : Addr} {fd fdI : FuncData} (F : Fun K "law" "law" sLaw f fd) (hT : Nm mg) (T : LnT K mg C) (M : Mk K C fI)
    (GI : FnOk P w K mg base CX0 1 fI fdI ["self"] (spInit C)) (bI : Binds K fdI ["self"] [])
    (CB : Cal P w K mg base 4 "_law_bag" ["script"] (spBag K)) (CD : Cal P w K mg base 4 "_law_draw" ["bag", "many"] (spE spDraw)) (CSt : CalG P w K mg base 6 "_law_step" ["bag", "line", "deeds", "most"] (spStep C)) (CRi : CalG P w K mg base 6 "_law_right" ["line", "deeds"] (spRight C)) : FnG P w K mg base 8 f fd ["script"] (spLaw K) := by
  refine fng_of F scLaw (fun vs H Q E ⟨a, ns, e, _⟩ => by rw [e]; rfl) (fun cdv A outer s H vs Q E hgd hr h => ?_)
  obtain ⟨a, ns, rfl, hS, h63, q⟩ := h
  have nd := scLaw.nd
  refine ⟨_, (pss_cons (ps_set (i := 1) nd rfl (.inl rfl) (pe_cal CB (hr.mono (by decide)) (by rfl) (pa_cons (pv 0) pa_nil)))
      (pss_cons (ps_for PassesOwn.never rfl (pi_range1 (by rfl) hT.range (pa_cons (pe_op op_add pe_int (pe_callB (call_min2 rfl) (by rfl) hT.min (by decide +kernel) (pa_cons pe_int (pa_cons (pe_callB call_len_seq (by rfl) hT.len PySem.boot_len (pa_cons (pv 0) pa_nil)) pa_nil)))) pa_nil)) (pg_name (i := 2) nd rfl (.inl rfl)) (pss_cons (ps_set (i := 3) nd rfl (.inl rfl) (pe_ix ix_list (pe_lst (pa_cons pe_int (pa_cons pe_int (pa_cons (pe_op op_pow pe_int pe_int) pa_nil)))) (pe_cal CD (hr.mono (by decide)) (by rfl) (pa_cons (pv 1) (pa_cons pe_int pa_nil))) (fun _ _ => rfl)))
      (pss_cons (ps_set (i := 4) nd rfl (.inl rfl) (pe_lst (pa_cons (pe_make0 M GI (hr.mono (by decide)) rfl T.mgC bI .nil pass0) (pa_cons (pe_make0 M GI (hr.mono (by decide)) rfl T.mgC bI .nil pass0) pa_nil))))
      (pss_cons (ps_set (i := 5) nd rfl (.inl rfl) (pe_lst (pa_cons (pe_lst pa_nil) (pa_cons (pe_lst pa_nil) pa_nil))))
      (pss_cons (ps_for PassesOwn.never rfl (pi_range1 (by rfl) hT.range (pa_cons (pe_cal CD (hr.mono (by decide)) (by rfl) (pa_cons (pv 1) (pa_cons pe_int pa_nil))) pa_nil)) (pg_name (i := 6) nd rfl (.inl rfl)) (pss_cons (ps_set (i := 7) nd rfl (.inl rfl) (pe_cal CD (hr.mono (by decide)) (by rfl) (pa_cons (pv 1) (pa_cons pe_int pa_nil))))
      (pss_cons (ps_set (i := 8) nd rfl (.inl rfl) (pe_calG CSt hgd (fun vs H Q E ⟨r, L, A, ws, ds, m, n, e, _⟩ => by rw [e]; rfl) (hr.mono (by decide)) (by rfl) (pa_cons (pv 1) (pa_cons (pe_ix ix_list (pv 4) (pv 7) (fun _ _ => rfl)) (pa_cons (pe_ix ix_list (pv 5) (pv 7) (fun _ _ => rfl)) (pa_cons (pv 3) pa_nil))))))
      (pss_cons (ps_if (PW.pt (pw_or (pt_cmp (pc_isN (pv 8))) (pw_or1 (pt_not (pt_val (pe_calG CRi hgd (fun vs H Q E ⟨L, A, ws, ds, e, _⟩ => by rw [e]; rfl) (hr.mono (by decide)) (by rfl) (pa_cons (pe_ix ix_list (pv 4) (pv 7) (fun _ _ => rfl)) (pa_cons (pv 8) pa_nil)))))))) (pss_one (ps_ret pe_bl)) pss_nil)
      (pss_one (ps_asg (pv 8) (pg_sub (pv 5) (pv 7) set_list)))))))
      (pss_one (ps_if (PW.pt (pw_or (pt_not (pt_val (pe_calG CRi hgd (fun vs H Q E ⟨L, A, ws, ds, e, _⟩ => by rw [e]; rfl) (hr.mono (by decide)) (by rfl) (pa_cons (pe_ix ix_list (pv 4) pe_int (fun _ _ => rfl)) (pa_cons (pe_ix ix_list (pv 5) pe_int (fun _ _ => rfl)) pa_nil))))) (pw_or1 (pt_not (pt_val (pe_calG CRi hgd (fun vs H Q E ⟨L, A, ws, ds, e, _⟩ => by rw [e]; rfl) (hr.mono (by decide)) (by rfl) (pa_cons (pe_ix ix_list (pv 4) pe_int (fun _ _ => rfl)) (pa_cons (pe_ix ix_list (pv 5) pe_int (fun _ _ => rfl)) pa_nil)))))))) (pss_one (ps_ret pe_bl)) pss_nil)))))))
      (pss_one (ps_ret pe_bl)))), ?_⟩
  have hM : M60 = 1000000000000000000 := rfl
  have hGr : (1000000000000000000000000000000 : Int) = GREAT := rfl
  refine ⟨.ref a, rfl, a, ns, rfl, hS, fun r H1 s1 nr b1 => ?_⟩
  have lm : (ns.map V.int).length = ns.length := List.length_map ..
  refine ⟨.ref a, rfl, a, ns.map V.int, rfl, .inl (s1.seq hS), 3, (ns.map V.int).length, rfl, 1, _, rfl, rfl, _, rfl, by split <;> omega, by split <;> omega, ?_⟩
  refine for_range (lo := 0) (n := ((1 : Int) + (if ((ns.map V.int).length : Int) < 3 then ((ns.map V.int).length : Int) else 3)).toNat) (fun i σ H2 => ∃ y2 y3 y4 y5 y6 y7 y8, σ = [some (.ref a), some (.ref r.a), y2, y3, y4, y5, y6, y7, y8] ∧ BagAt (1000 * i) H2 r)
    ⟨none, none, none, none, none, none, none, rfl, b1.mono (Nat.zero_le _)⟩ (fun i0 σ H2 hi hP => ?_) (fun σ H2 _ => q H2)
  obtain ⟨y2, y3, y4, y5, y6, y7, y8, rfl, b2⟩ := hP
  have hi5 : i0 < 5 := by split at hi <;> omega
  clear hi
  -- most
  refine ⟨10, 30, rfl, rfl, ⟨by decide, by decide, by decide⟩, small_le (by show 3 ≤ 1000; decide), fun pm nm => ?_⟩
  have sm : Same H2 (upd H2 pm (.lst [.int 2, .int 9, .int ((10 : Int) ^ (30 : Int).toNat)])) := same_upd nm
  have em : (upd H2 pm (.lst [.int 2, .int 9, .int ((10 : Int) ^ (30 : Int).toNat)])) pm = some (.lst [.int 2, .int 9, .int GREAT]) := by rw [upd_same, p30]
  have npr := b2.new nm
  have b3 := b2.same sm
  generalize upd H2 pm (.lst [.int 2, .int 9, .int ((10 : Int) ^ (30 : Int).toNat)]) = H3 at sm em b3
  refine ⟨.ref r.a, rfl, r, 3, 1000 * i0, rfl, b3, by omega, by decide, by decide, fun x5 H5 b5 v5 a5 c5 => ?_⟩
  obtain ⟨j, rfl⟩ : ∃ j : Nat, x5 = (j : Int) := ⟨x5.toNat, by omega⟩
  have hj : j < 3 := by omega
  obtain ⟨mo, hw, hm2, hmG⟩ : ∃ w : Int, [V.int 2, .int 9, .int GREAT][j]? = some (.int w) ∧ 2 ≤ w ∧ w ≤ GREAT := by
    match j, hj with
    | 0, _ => exact ⟨2, rfl, by omega, by omega⟩
    | 1, _ => exact ⟨9, rfl, by omega, by omega⟩
    | 2, _ => exact ⟨GREAT, rfl, by omega, by omega⟩
  refine ⟨pm, _, j, .int mo, rfl, rfl, SqL.of (v5.keep pm _ npr.a em), atI_nat hw, ?_⟩
  dsimp only [gName]
  show tSeq _ _ _ [some (.ref a), some (.ref r.a), some (.int (0 + (i0 : Int))), some (.int mo), y4, y5, y6, y7, y8] H5
  clear em npr v5 sm b3 nm
  -- lines
  refine fun x1 dx1 nx1 nd1 ne1 => ⟨x1, dx1, rfl, upd_same, fun A1 G1 eA nA lA kA => ⟨rfl, ?_⟩⟩
  have s01 : Same H5 G1 := fun b o e => kA b o (ne_of_none e nx1) (by rw [upd_ne (ne_of_none e nx1), upd_ne (ne_of_none e nd1)]; exact e)
  have nA0 : ∀ b, A1.has b → H5 b = none := fun b hb => by
    cases z : H5 b with
    | none => rfl
    | some o =>
      have := nA b hb
      rw [upd_ne (ne_of_none z nx1), upd_ne (ne_of_none z nd1), z] at this
      cases this
  subst eA
  refine fun x2 dx2 nx2 nd2 ne2 => ⟨x2, dx2, rfl, upd_same, fun A2 G2 eB nB lB kB => ⟨rfl, small_le (by show 2 ≤ 1000; decide), fun LI nLI => ?_⟩⟩
  have s12 : Same G1 G2 := fun b o e => kB b o (ne_of_none e nx2) (by rw [upd_ne (ne_of_none e nx2), upd_ne (ne_of_none e nd2)]; exact e)
  have nB0 : ∀ b, A2.has b → G1 b = none := fun b hb => by
    cases z : G1 b with
    | none => rfl
    | some o =>
      have := nB b hb
      rw [upd_ne (ne_of_none z nx2), upd_ne (ne_of_none z nd2), z] at this
      cases this
  subst eB
  have s23 : Same G2 (upd G2 LI (.lst [.ref A1.o, .ref A2.o])) := same_upd nLI
  have eLI : (upd G2 LI (.lst [.ref A1.o, .ref A2.o])) LI = some (.lst [.ref A1.o, .ref A2.o]) := upd_same
  dsimp only [gName]
  show tSeq _ _ _ [some (.ref a), some (.ref r.a), some (.int (0 + (i0 : Int))), some (.int mo), some (.ref LI), y5, y6, y7, y8] (upd G2 LI (.lst [.ref A1.o, .ref A2.o]))
  generalize upd G2 LI (.lst [.ref A1.o, .ref A2.o]) = G3 at s23 eLI
  -- done
  refine ⟨Nat.zero_le _, fun x nx => ⟨Nat.zero_le _, fun y ny => ⟨small_le (by show 2 ≤ 1000; decide), fun DO nDO => ?_⟩⟩⟩
  have sx : Same G3 (upd G3 x (.lst [])) := same_upd nx
  have ex : (upd G3 x (.lst [])) x = some (.lst []) := upd_same
  generalize upd G3 x (.lst []) = G4 at sx ex ny nDO
  have sy : Same G4 (upd G4 y (.lst [])) := same_upd ny
  have ey : (upd G4 y (.lst [])) y = some (.lst []) := upd_same
  generalize upd G4 y (.lst []) = G5 at sy ey nDO
  have sd : Same G5 (upd G5 DO (.lst [.ref x, .ref y])) := same_upd nDO
  have eDO : (upd G5 DO (.lst [.ref x, .ref y])) DO = some (.lst [.ref x, .ref y]) := upd_same
  dsimp only [gName]
  show tSeq _ _ _ [some (.ref a), some (.ref r.a), some (.int (0 + (i0 : Int))), some (.int mo), some (.ref LI), some (.ref DO), y6, y7, y8] (upd G5 DO (.lst [.ref x, .ref y]))
  generalize upd G5 DO (.lst [.ref x, .ref y]) = G6 at sd eDO
  have b3 := (b5.same s01).same s12
  have lA2 := lA.same s12
  have fresh : ∀ {G : Hp} {p : Addr}, Same G2 G → G p = none → ¬ A1.has p ∧ ¬ A2.has p ∧ p ≠ r.a := fun {G p} s n => by
    refine ⟨fun z => ?_, fun z => ?_, fun z => ?_⟩
    · obtain ⟨vs, e⟩ := lA2.isl z
      rw [s _ _ e] at n
      cases n
    · obtain ⟨vs, e⟩ := lB.isl z
      rw [s _ _ e] at n
      cases n
    · exact (b3.same s).some (by rw [← z]; exact n)
  have ab : ∀ b, A1.has b → ¬ A2.has b := fun b ha hb => by
    obtain ⟨vs, e⟩ := lA.isl ha
    rw [nB0 b hb] at e
    cases e
  obtain ⟨l1, l2, l3⟩ := fresh (Same.refl G2) nLI
  obtain ⟨o1, o2, o3⟩ := fresh (s23.trans (sx.trans sy)) nDO
  obtain ⟨t1, t2, t3⟩ := fresh s23 nx
  obtain ⟨u1, u2, u3⟩ := fresh (s23.trans sx) ny
  have dLI : D1 r A1 A2 LI := ⟨l1, l2, l3⟩
  have dDO : D1 r A1 A2 DO := ⟨o1, o2, o3⟩
  have nDc : DO ≠ r.c := fun z => ((b3.same s23).same (sx.trans sy)).someC (by rw [← z]; exact nDO)
  have nLD : LI ≠ DO := ne_of_none (sy _ _ (sx _ _ eLI)) nDO
  have nxD : x ≠ DO := ne_of_none (sy _ _ ex) nDO
  have nyD : y ≠ DO := ne_of_none ey nDO
  have dd : D2 r A1 A2 x y := ⟨ab, fun b hb ha => ab b ha hb, fun z => b5.some (nA0 _ z), fun z => b5.someC (nA0 _ z), fun z => (b5.same s01).some (nB0 _ z), fun z => (b5.same s01).someC (nB0 _ z), t1, u1, t2, u2, t3, u3⟩
  have s26 : Same G2 G6 := (s23.trans sx).trans (sy.trans sd)
  have w0 : W2 C (1000 * i0 + 1) G6 r A1 A2 x y [] [] := ⟨b3.same s26, lA2.same s26, lB.same s26, ⟨[], sd _ _ (sy _ _ ex), .nil⟩, ⟨[], sd _ _ ey, .nil⟩, vd_nil, vd_nil, (fun _ h => nomatch h), (fun _ h => nomatch h)⟩
  have eLI := sd _ _ (sy _ _ (sx _ _ eLI))
  clear sx ex sy ey sd b3 lA2 fresh l1 l2 l3 o1 o2 o3 t1 t2 t3 u1 u2 u3 s23 s26 nA0 nB0 ab
  -- time
  refine ⟨.ref r.a, rfl, r, 61, 1000 * i0 + 1, rfl, w0.bag, by omega, by decide, by decide, fun m H6 b6 v6 m0 m1 => ⟨m, rfl, by omega, by omega, ?_⟩⟩
  have w1 := w0.mv dd b6 v6
  have eLI := v6.keep _ _ dLI.r eLI
  have eDO := v6.keep _ _ dDO.r eDO
  refine for_range (lo := 0) (n := m.toNat) (fun i σ G => ∃ (x y : Addr) (d e : List Deed) (y6 y7 y8 : Option V), σ = [some (.ref a), some (.ref r.a), some (.int (0 + (i0 : Int))), some (.int mo), some (.ref LI), some (.ref DO), y6, y7, y8] ∧ W2 C (1000 * i0 + 2 + 7 * i) G r A1 A2 x y d e ∧ D2 r A1 A2 x y ∧ d.length ≤ i ∧ e.length ≤ i ∧ G LI = some (.lst [.ref A1.o, .ref A2.o]) ∧ G DO = some (.lst [.ref x, .ref y]) ∧ x ≠ DO ∧ y ≠ DO)
    ⟨x, y, [], [], y6, y7, y8, rfl, w1, dd, Nat.le_refl _, Nat.le_refl _, eLI, eDO, nxD, nyD⟩ (fun i σ G hi hP => ?_) (fun σ G hP => ?_)
  · clear w0 w1 dd eLI eDO nxD nyD
    obtain ⟨x, y, d, e, y6, y7, y8, rfl, w, dd2, hd, he, eLI, eDO, nxD, nyD⟩ := hP
    have hi61 : i < 61 := by omega
    refine ⟨.ref r.a, rfl, r, 2, _, rfl, w.bag, by omega, by decide, by decide, fun at_ H8 b8 v8 a0 a1 => ?_⟩
    have w2 := w.mv dd2 b8 v8
    have eLI := v8.keep _ _ dLI.r eLI
    have eDO := v8.keep _ _ dDO.r eDO
    obtain ⟨j, rfl⟩ : ∃ j : Nat, at_ = (j : Int) := ⟨at_.toNat, by omega⟩
    have hj : j < 2 := by omega
    dsimp only [gName]
    show tSeq _ _ _ [some (.ref a), some (.ref r.a), some (.int (0 + (i0 : Int))), some (.int mo), some (.ref LI), some (.ref DO), some (.int (0 + (i : Int))), some (.int (j : Int)), y8] H8
    match j, hj with
    | 0, _ =>
      have hls : ([.ref A1.o, .ref A2.o] : List V)[0]? = some (.ref A1.o) := rfl
      obtain ⟨ws, sd⟩ := w2.sd
      refine ⟨.ref r.a, rfl, .ref LI, rfl, .int ((0 : Nat) : Int), rfl, LI, _, ((0 : Nat) : Int), .ref A1.o, rfl, rfl, SqL.of eLI, atI_nat (j := 0) rfl, .ref DO, rfl, .int ((0 : Nat) : Int), rfl, DO, _, ((0 : Nat) : Int), .ref x, rfl, rfl, SqL.of eDO, atI_nat (j := 0) rfl, .int mo, rfl, r, A1, x, ws, d, mo, _, rfl, sd, dd2.dis, by omega, hm2, hmG, w2.vd, by omega, fun x' ws' d' H9 sd' mx nx hvd hlen hok => ?_⟩
      obtain ⟨w3, dd3⟩ := w2.step dd2 sd' mx nx hvd hok
      have eLI9 := mx.keep _ _ dLI.r dLI.a eLI
      have eDO9 := mx.keep _ _ dDO.r dDO.a eDO
      have nxDO : x' ≠ DO := fun z => by rw [z, eDO] at nx; cases nx
      dsimp only [gName]
      show tSeq _ _ _ [some (.ref a), some (.ref r.a), some (.int (0 + (i0 : Int))), some (.int mo), some (.ref LI), some (.ref DO), some (.int (0 + (i : Int))), some (.int ((0 : Nat) : Int)), some (.ref x')] H9
      refine ⟨.ref x', rfl, _, rfl, ite2 (fun z => absurd (of_decide_eq_true z) nofun) (fun _ => ?_)⟩
      refine ⟨.ref LI, rfl, .int ((0 : Nat) : Int), rfl, LI, _, ((0 : Nat) : Int), .ref A1.o, rfl, rfl, SqL.of eLI9, atI_nat (j := 0) rfl, .ref x', rfl, A1, x', ws', d', rfl, w3.la, sd'.al, sd'.aw, hvd, w3.od, by omega, fun H10 s10 => ⟨true, rfl, iteF ?_⟩⟩
      have w4 := w3.same s10
      have eLI10 := s10 _ _ eLI9
      have eDO10 := s10 _ _ eDO9
      refine ⟨.ref x', rfl, .ref DO, rfl, .int ((0 : Nat) : Int), rfl, DO, _, ((0 : Nat) : Int), 0, rfl, rfl, eDO10, rfl, ?_⟩
      have eDO11 : (upd H10 DO (.lst ([V.ref x, .ref y].set 0 (.ref x')))) DO = some (.lst [.ref x', .ref y]) := upd_same
      have w5 := (w4.store (ys := [V.ref x, .ref y].set 0 (.ref x')) eDO10 dDO (fun z => nxDO z.symm) (fun z => nyD z.symm) nDc)
      have eLI11 : (upd H10 DO (.lst ([V.ref x, .ref y].set 0 (.ref x')))) LI = some (.lst [.ref A1.o, .ref A2.o]) := by rw [upd_ne nLD]; exact eLI10
      exact ⟨x', y, d', e, _, _, _, rfl, w5, dd3, by omega, by omega, eLI11, eDO11, nxDO, nyD⟩
    | 1, _ =>
      have hls : ([.ref A1.o, .ref A2.o] : List V)[1]? = some (.ref A2.o) := rfl
      obtain ⟨ws, sd⟩ := w2.swap.sd
      refine ⟨.ref r.a, rfl, .ref LI, rfl, .int ((1 : Nat) : Int), rfl, LI, _, ((1 : Nat) : Int), .ref A2.o, rfl, rfl, SqL.of eLI, atI_nat (j := 1) rfl, .ref DO, rfl, .int ((1 : Nat) : Int), rfl, DO, _, ((1 : Nat) : Int), .ref y, rfl, rfl, SqL.of eDO, atI_nat (j := 1) rfl, .int mo, rfl, r, A2, y, ws, e, mo, _, rfl, sd, dd2.swap.dis, by omega, hm2, hmG, w2.swap.vd, by omega, fun x' ws' d' H9 sd' mx nx hvd hlen hok => ?_⟩
      obtain ⟨w3, dd3⟩ := w2.swap.step dd2.swap sd' mx nx hvd hok
      have eLI9 := mx.keep _ _ dLI.r dLI.b eLI
      have eDO9 := mx.keep _ _ dDO.r dDO.b eDO
      have nxDO : x' ≠ DO := fun z => by rw [z, eDO] at nx; cases nx
      dsimp only [gName]
      show tSeq _ _ _ [some (.ref a), some (.ref r.a), some (.int (0 + (i0 : Int))), some (.int mo), some (.ref LI), some (.ref DO), some (.int (0 + (i : Int))), some (.int ((1 : Nat) : Int)), some (.ref x')] H9
      refine ⟨.ref x', rfl, _, rfl, ite2 (fun z => absurd (of_decide_eq_true z) nofun) (fun _ => ?_)⟩
      refine ⟨.ref LI, rfl, .int ((1 : Nat) : Int), rfl, LI, _, ((1 : Nat) : Int), .ref A2.o, rfl, rfl, SqL.of eLI9, atI_nat (j := 1) rfl, .ref x', rfl, A2, x', ws', d', rfl, w3.la, sd'.al, sd'.aw, hvd, w3.od, by omega, fun H10 s10 => ⟨true, rfl, iteF ?_⟩⟩
      have w4 := w3.same s10
      have eLI10 := s10 _ _ eLI9
      have eDO10 := s10 _ _ eDO9
      refine ⟨.ref x', rfl, .ref DO, rfl, .int ((1 : Nat) : Int), rfl, DO, _, ((1 : Nat) : Int), 1, rfl, rfl, eDO10, rfl, ?_⟩
      have eDO11 : (upd H10 DO (.lst ([V.ref x, .ref y].set 1 (.ref x')))) DO = some (.lst [.ref x, .ref x']) := upd_same
      have w5 := (w4.store (ys := [V.ref x, .ref y].set 1 (.ref x')) eDO10 dDO.swap (fun z => nxDO z.symm) (fun z => nxD z.symm) nDc)
      have eLI11 : (upd H10 DO (.lst ([V.ref x, .ref y].set 1 (.ref x')))) LI = some (.lst [.ref A1.o, .ref A2.o]) := by rw [upd_ne nLD]; exact eLI10
      exact ⟨x, x', d, d', _, _, _, rfl, w5.swap, dd3.swap, by omega, by omega, eLI11, eDO11, nxD, nxDO⟩
  · clear w0 w1 dd eLI eDO nxD nyD
    obtain ⟨x, y, d, e, y6, y7, y8, rfl, w, dd2, hd, he, eLI, eDO, nxD, nyD⟩ := hP
    have hm61 : m.toNat ≤ 60 := by omega
    obtain ⟨ws, ex, ax⟩ := w.xa
    obtain ⟨us, ey, ay⟩ := w.yb
    dsimp only []
    show tIfS _ _ _ _ [some (.ref a), some (.ref r.a), some (.int (0 + (i0 : Int))), some (.int mo), some (.ref LI), some (.ref DO), y6, y7, y8] G
    refine ⟨.ref LI, rfl, LI, _, ((0 : Nat) : Int), .ref A1.o, rfl, rfl, SqL.of eLI, atI_nat (j := 0) rfl, .ref DO, rfl, DO, _, ((0 : Nat) : Int), .ref x, rfl, rfl, SqL.of eDO, atI_nat (j := 0) rfl, A1, x, ws, d, rfl, w.la, ex, ax, w.vd, w.od, by omega, fun H10 s10 => ⟨true, rfl, iteF ?_⟩⟩
    refine ⟨.ref LI, rfl, LI, _, ((1 : Nat) : Int), .ref A2.o, rfl, rfl, SqL.of (s10 _ _ eLI), atI_nat (j := 1) rfl, .ref DO, rfl, DO, _, ((1 : Nat) : Int), .ref y, rfl, rfl, SqL.of (s10 _ _ eDO), atI_nat (j := 1) rfl, A2, y, us, e, rfl, w.lb.same s10, s10 _ _ ey, ay.imp fun _ _ => DeedV.kx fun t ys e => s10 _ _ e, w.ve, w.oe, by omega, fun H11 s11 => ⟨true, rfl, iteF ?_⟩⟩
    exact ⟨_, _, _, _, _, _, _, rfl, ((w.bag.same s10).same s11).mono (by omega)⟩
end
end CL
set_option Elab.async false
set_option linter.all false
set_option maxRecDepth 100000
set_option maxHeartbeats 4000000
namespace CL
open PySem PySem.Spec PyProof.Rows L2 GE
/-! ### the end: what is tracked when the law is called, and that the run leaves the heap as it was but for the tables -/
def H0 (ts : List Addr) (K : PySem.W.Frag) (a : Addr) (vs : List Value) (ns : List Int) : Hp := fun b =>
  if b ∈ ts then some (.tbl #[]) else if b = a ∧ (K.lookup a).isNone = true then some (.frz { cls := .type "list", data := .seq vs.toArray } (.lst (ns.map V.int))) else none
section
variable {ts : List Addr} {K : PySem.W.Frag} {a : Addr} {vs : List Value} {ns : List Int} {h : Heap}
theorem H0.tab {b : Addr} (m : b ∈ ts) : H0 ts K a vs ns b = some (.tbl #[]) := if_pos m
theorem H0.cases {b : Addr} {u : HO} (e : H0 ts K a vs ns b = some u) : (b ∈ ts ∧ u = .tbl #[]) ∨ (b = a ∧ K.lookup a = none ∧ u = .frz { cls := .type "list", data := .seq vs.toArray } (.lst (ns.map V.int))) := by
  unfold H0 at e
  split at e
  · rename_i m
    exact .inl ⟨m, (Option.some.inj e).symm⟩
  · split at e
    · rename_i z
      exact .inr ⟨z.1, Option.isNone_iff_eq_none.mp z.2, (Option.some.inj e).symm⟩
    · cases e
/-- an object that is no list and no empty table is not tracked -/
theorem H0.other (hT : ∀ b ∈ ts, h.get? b = some { cls := .none, data := .fields #[] }) (ha : h.get? a = some { cls := .type "list", data := .seq vs.toArray }) {b : Addr} {o : Obj} (e : h.get? b = some o) (h1 : o.data ≠ .seq vs.toArray) (h2 : o.data ≠ .fields #[]) :
    H0 ts K a vs ns b = none := by
  cases q : H0 ts K a vs ns b with
  | none => rfl
  | some u =>
    rcases H0.cases q with ⟨m, _⟩ | ⟨rfl, _, _⟩
    · rw [hT b m] at e
      cases e
      exact absurd rfl h2
    · rw [ha] at e
      cases e
      exact absurd rfl h1
end
theorem end_own {P : Program} {w : World} {K : PySem.W.Frag} {mg mb : Str → Option Value} {q : Program} {loose : List Str} {mean : ExcName → Option Value} {k : Nat} {fa a : Addr} {fd : FuncData} {x : Str} {sp : Sp} {s₁ : Shared} {vs : List Value} {ns : List Int} (ts : List Addr)
    (KX : K.In s₁.heap) (T : Top q loose mean mg mb s₁.heap) (hi0 : importsNone q = true) (hg : s₁.gens = #[])
    (hT : ∀ b ∈ ts, s₁.heap.get? b = some { cls := .none, data := .fields #[] }) (hC : ∀ b ∈ ts, ∃ c, PySem.W.codeHdIn K c b = true) (nT : ∀ b ∈ ts, K.lookup b = none)
    (ha : s₁.heap.get? a = some { cls := .type "list", data := .seq vs.toArray }) (hi : IntsAre vs ns) (hl : ns.length ≤ sizeLine) (hr : Room k callerA)
    (F : ∀ base : Heap, K.In base → base.Ns mainGlobals mg → (∃ o, base.get? sysModules = some o) → (∀ b ∈ ts, base.BuiltinsAt mg b ∧ mainGlobals ≠ b) → FnG P w K mg base k fa fd [x] sp)
    (hbind : ∀ (s : Shared) (u : Value), BindsTo s fd ⟨[u], []⟩ [(x, u)])
    (hsp : ∀ H : Hp, (∀ b ∈ ts, H b = some (.tbl #[])) → SqL K H a (ns.map V.int) → sp [.ref a] H (fun v _ => v = .bl true) fun _ _ _ => False) :
    codeAny (model P w) callerA (.call (.ref fa) ⟨[.ref a], []⟩) (fun r s' => r = .ok (.ret (.bool true)) ∧ OldK s₁.heap s'.heap ∧ s'.os = s₁.os ∧ AllBare s'.gens) s₁ := by
  have rv := vals_ints hi
  have aT : a ∉ ts := fun m => by
    have z := hT a m
    rw [ha] at z
    cases z
  generalize hH : H0 ts K a vs ns = H
  have tabs : ∀ b ∈ ts, H b = some (.tbl #[]) := fun b m => by rw [← hH]; exact H0.tab m
  have cs : ∀ {b : Addr} {u : HO}, H b = some u → (b ∈ ts ∧ u = .tbl #[]) ∨ (b = a ∧ K.lookup a = none ∧ u = .frz { cls := .type "list", data := .seq vs.toArray } (.lst (ns.map V.int))) := fun e => by
    rw [← hH] at e
    exact H0.cases e
  have oth : ∀ {b : Addr} {o : Obj}, s₁.heap.get? b = some o → o.data ≠ .seq vs.toArray → o.data ≠ .fields #[] → H b = none := fun e h1 h2 => by
    rw [← hH]
    exact H0.other hT ha e h1 h2
  have inB : ∀ {b : Addr} {o : Obj}, s₁.heap.get? b = some o → H b = none → (hidT s₁.heap H).get? b = some o := fun e n => hidT_get e n
  have nsB : ∀ {b : Addr} {m : Str → Option Value}, s₁.heap.Ns b m → (hidT s₁.heap H).Ns b m := fun ⟨o, es, ep, e, d, r⟩ => ⟨o, es, ep, inB e (oth e (by rw [d]; exact nofun) (by rw [d]; exact nofun)), d, r⟩
  have hok : HOk P w H s₁.heap := fun b u e => by
    rcases cs e with ⟨m, rfl⟩ | ⟨rfl, _, rfl⟩
    · exact hT b m
    · exact ⟨ha, by rw [List.length_map]; exact hl, vs, _, rv, ha⟩
  have hS : SqL K H a (ns.map V.int) := by
    cases hk : K.lookup a with
    | some o =>
      have e := KX a o hk
      rw [ha] at e
      cases e
      exact .inr ⟨_, vs.toArray, _, hk, rfl, rfl, rfl, by rw [List.size_toArray, hi.length]; exact hl, by simpa using rv⟩
    | none =>
      have e : H a = some (.frz { cls := .type "list", data := .seq vs.toArray } (.lst (ns.map V.int))) := by
        rw [← hH]
        unfold H0
        rw [if_neg aT, if_pos ⟨rfl, by rw [hk]; rfl⟩]
      exact .inl (.inr ⟨_, e⟩)
  have KB : K.In (hidT s₁.heap H) := fun b o e => inB (KX b o e) (by
    cases z : H b with
    | none => rfl
    | some u =>
      rcases cs z with ⟨m, _⟩ | ⟨rfl, n, _⟩
      · rw [nT b m] at e; cases e
      · rw [n] at e; cases e)
  have hM : L2.Mod K mg (hidT s₁.heap H) := ⟨KB, nsB T.g, ⟨mb, nsB T.b, T.builtins⟩, let ⟨mc, h1, h2⟩ := T.nolimit; ⟨mc, nsB h1, h2⟩⟩
  have sysB : ∃ o, (hidT s₁.heap H).get? sysModules = some o := by
    obtain ⟨mm, ⟨o, es, ep, e, d, _⟩, _⟩ := (T.seer hi0).mods
    exact ⟨o, inB e (oth e (by rw [d]; exact nofun) (by rw [d]; exact nofun))⟩
  have gB : ∀ b ∈ ts, mainGlobals ≠ b := fun b m z => by
    obtain ⟨o, es, ep, e, d, _⟩ := T.g
    rw [z, hT b m] at e
    cases e
    cases d
  have bB : ∀ b ∈ ts, (hidT s₁.heap H).BuiltinsAt mg b := fun b m => by
    obtain ⟨bm, ob, b1, b2, b3, b4, b5, b6⟩ := T.bmain
    refine ⟨bm, ob, b1, b2, fun z => ?_, fun z => ?_, inB b3 (oth b3 (by rw [b6]; exact nofun) (by rw [b6]; exact nofun)), b4, b5, b6⟩
    · obtain ⟨o, es, ep, e, d, _⟩ := T.g
      rw [z, e] at b3
      cases b3
      rw [d] at b6
      cases b6
    · rw [z, hT b m] at b3
      cases b3
      cases b6
  have e0 : Env0 P w K mg (hidT s₁.heap H) callerA [] s₁ H := ⟨rfl, hM, fun b o e => of_hidT e, Nat.le_of_eq (hidT_size _ _), trivial, fun b hb => absurd (show b ∈ ([] : List Addr) from hb) (by simp), hok, .of_eq hg⟩
  have G := F _ KB (nsB T.g) sysB fun b m => ⟨bB b m, gB b m⟩
  refine codeAny_mono (G.run callerA [] s₁ H ⟨[.ref a], []⟩ [.ref a] [.ref a] _ _ rfl hr e0 (hbind s₁ (.ref a)) (.cons rfl .nil) (hsp H tabs hS)) fun r s' z => ?_
  cases r with
  | error e => exact False.elim z
  | ok fl =>
    cases fl with
    | next => exact False.elim z
    | brk => exact False.elim z
    | cont => exact False.elim z
    | ret u =>
      obtain ⟨v, H', os, bare, un, hok', r', e'⟩ := z
      obtain rfl : v = .bl true := e'
      obtain rfl : u = Value.bool true := r'
      have stays : ∀ b o, b ∉ ts → s₁.heap.get? b = some o → s'.heap.get? b = some o := fun b o nb e => by
        cases z : H b with
        | none => exact un.keep b o e z (fun y => absurd (show b ∈ ([] : List Addr) from y) (by simp)) (by simp)
        | some u =>
          rcases cs z with ⟨m, _⟩ | ⟨rfl, _, rfl⟩
          · exact absurd m nb
          · rw [ha] at e
            cases e
            exact (hok' _ _ (un.frzs _ _ _ z)).1
      have grow : ∀ b ∈ ts, ∃ more : Array Value, s'.heap.get? b = some { cls := .none, data := .fields more } := fun b m => by
        obtain ⟨more, e⟩ := un.tbls b #[] (tabs b m)
        exact ⟨_, hok' b _ e⟩
      refine ⟨rfl, ⟨fun b o e => ?_, fun b o e => ?_⟩, os, bare⟩
      · by_cases m : b ∈ ts
        · obtain ⟨c, hc⟩ := hC b m
          obtain ⟨more, hm⟩ := grow b m
          rw [hT b m] at e
          cases e
          exact .inr (.inl ⟨((PySem.W.codeHd_of_K KX hc).tab (hT b m)).isCodeTable, rfl, #[], more, rfl, by rw [Array.empty_append]; exact hm⟩)
        · exact .inl (stays b o m e)
      · by_cases m : b ∈ ts
        · obtain ⟨more, hm⟩ := grow b m
          exact ⟨_, hm⟩
        · exact ⟨o, stays b o m e⟩
end CL
set_option Elab.async false
set_option linter.all false
set_option maxRecDepth 100000
set_option maxHeartbeats 4000000
namespace CL
open PySem PySem.Spec PyProof.Rows L2 GE
theorem fnE {P : Program} {w : World} {K : PySem.W.Frag} {mg : Str → Option Value} {base : Heap} {k : Nat} {f : Addr} {fd : FuncData} {ps : List Str} {sp : Bg → Sp} (F : ∀ r, FnOk P w K mg base CX0 k f fd ps (sp r)) : FnOk P w K mg base CX0 k f fd ps (spE sp) :=
  ⟨fun vs H Q E ⟨r, h⟩ => (F r).len vs H Q E h, fun A outer s H args us vs Q E hr e0 hb rv ⟨r, h⟩ => (F r).run A outer s H args us vs Q E hr e0 hb rv h⟩
/-- the table of a def of the program is empty when the law is called -/
theorem tab_of {q : Program} {loose : List Str} {mean : ExcName → Option Value} {mg mb : Str → Option Value} {h : Heap} {K : PySem.W.Frag} {n : Str} {f c P : Addr} {o : Obj} {fd : FuncData} (T : Top q loose mean mg mb h) (KX : K.In h) (hr : ((recsOf q).any fun e => e.name == n) = true)
    (hm : mg n = some (.ref f)) (k1 : K.lookup f = some o) (k2 : o.data = .func fd) (k3 : fd.code = .ref c) (hh : PySem.W.codeHdIn K c P = true) : h.get? P = some { cls := .none, data := .fields #[] } := by
  obtain ⟨d, hd, e⟩ := List.any_eq_true.mp hr
  have e' : d.name = n := beq_iff_eq.mp e
  obtain ⟨a', o', fd', c', P', t1, t2, t3, t4, t5, t6⟩ := T.tab d hd
  rw [e', hm] at t1
  cases t1
  rw [KX _ _ k1] at t2
  cases t2
  rw [k2] at t3
  cases t3
  rw [k3] at t4
  cases t4
  obtain ⟨⟨oc, vc, g1, _, g3, g4⟩, g5⟩ := t6
  obtain ⟨oh, uh, _, _, _, _, _, _, _, i1, _, i2, i3, _⟩ := PySem.W.codeHd_of_K KX hh
  rw [g1] at i1
  cases i1
  rw [g3] at i2
  cases i2
  rw [g4] at i3
  cases i3
  exact g5
/-- what the head must know of the law's def -/
def AtLaw (l : PySem.W.OpenLaw) (w : World) (K : PySem.W.Frag) (mg : Str → Option Value) (fa : Addr) (h : Heap) : Prop :=
  ∃ (fd : FuncData), (∀ b ∈ ([] : List Addr), h.get? b = some { cls := .none, data := .fields #[] }) ∧ (∀ b ∈ ([] : List Addr), ∃ c, PySem.W.codeHdIn K c b = true) ∧ (∀ b ∈ ([] : List Addr), K.lookup b = none) ∧ (∀ (s : Shared) (u : Value), BindsTo s fd ⟨[u], []⟩ [("script", u)]) ∧
    ∀ base : Heap, K.In base → base.Ns mainGlobals mg → (∃ o, base.get? sysModules = some o) → (∀ b ∈ ([] : List Addr), base.BuiltinsAt mg b ∧ mainGlobals ≠ b) → FnG l.prog w K mg base 8 fa fd ["script"] (spLaw K )
theorem walk {l : PySem.W.OpenLaw} {q : Program} {loose : List Str} {XP : (Str → Option Value) → Heap → Prop} {YP : World → Heap → Prop} {d : DefRec} {K : Params → PySem.W.Frag} (hn : l.most = some 63) (hdf : d.params.defaults = []) (hi0 : importsNone q = true)
    (hY : ∀ (w : World) (h : Heap), YP w h → (K w.params).In h)
    (F : ∀ (w : World) (mg mb : Str → Option Value) (mean : ExcName → Option Value) (lo : List Str) (fa : Addr) (h : Heap), (K w.params).In h → Top q lo mean mg mb h → mg d.name = some (.ref fa) → AtLaw l w (K w.params) mg fa h) :
    PySem.W.WalkO q loose XP YP l.row.toRowW d [] (fun f vs => PySem.call f vs) := by
  refine Att.attach_callB hn hdf fun w s₀ s₁ mg mb fa o pm cd doc a vs ns G Y ho hd hcd hmg hobj hints hlen _ hg => ?_
  obtain ⟨fd, h1, h2, h3, h4, h5⟩ := F w mg mb _ _ fa s₁.heap (hY w _ Y) G.T hmg
  exact end_own [] (hY w _ Y) G.T hi0 hg h1 h2 h3 hobj hints (Nat.le_trans hlen (by decide)) ⟨rfl, by decide, by decide⟩ h5 h4 fun H t hS => ⟨a, ns, rfl, hS, hlen, fun _ => rfl⟩
theorem all_mk {l : PySem.W.OpenLaw} {w : World} {K : PySem.W.Frag} {q : Program} {lo : List Str} {mean : ExcName → Option Value} {h : Heap} {mg mb : Str → Option Value} {fa fMI fMC fMS fMU fMT fMQ fML fMW fMH fMN fW fP fLP fBG fSR fDR fCA fPA fDN fDD fRI fST fZ   cLN : Addr} (X : K.In h) (G : Top q lo mean mg mb h) (hfa : mg "law" = some (.ref fa))
    {odMI anMI : Option Addr} {slMI : Array (Option Value)} {ocMI kVMI dcMI pmMI cdMI ctMI : Value}
    {odMC anMC : Option Addr} {slMC : Array (Option Value)} {ocMC kVMC dcMC pmMC cdMC ctMC : Value}
    {odMS anMS : Option Addr} {slMS : Array (Option Value)} {ocMS kVMS dcMS pmMS cdMS ctMS : Value}
    {odMU anMU : Option Addr} {slMU : Array (Option Value)} {ocMU kVMU dcMU pmMU cdMU ctMU : Value}
    {odMT anMT : Option Addr} {slMT : Array (Option Value)} {ocMT kVMT dcMT pmMT cdMT ctMT : Value}
    {odMQ anMQ : Option Addr} {slMQ : Array (Option Value)} {ocMQ kVMQ dcMQ pmMQ cdMQ ctMQ : Value}
    {odML anML : Option Addr} {slML : Array (Option Value)} {ocML kVML dcML pmML cdML ctML : Value}
    {odMW anMW : Option Addr} {slMW : Array (Option Value)} {ocMW kVMW dcMW pmMW cdMW ctMW : Value}
    {odMH anMH : Option Addr} {slMH : Array (Option Value)} {ocMH kVMH dcMH pmMH cdMH ctMH : Value}
    {odMN anMN : Option Addr} {slMN : Array (Option Value)} {ocMN kVMN dcMN pmMN cdMN ctMN : Value}
    {odW anW : Option Addr} {slW : Array (Option Value)} {ocW kVW dcW pmW cdW ctW : Value}
    {odP anP : Option Addr} {slP : Array (Option Value)} {ocP kVP dcP pmP cdP ctP : Value}
    {odLP anLP : Option Addr} {slLP : Array (Option Value)} {ocLP kVLP dcLP pmLP cdLP ctLP : Value}
    {odBG anBG : Option Addr} {slBG : Array (Option Value)} {ocBG kVBG dcBG pmBG cdBG ctBG : Value}
    {odSR anSR : Option Addr} {slSR : Array (Option Value)} {ocSR kVSR dcSR pmSR cdSR ctSR : Value}
    {odDR anDR : Option Addr} {slDR : Array (Option Value)} {ocDR kVDR dcDR pmDR cdDR ctDR : Value}
    {odCA anCA : Option Addr} {slCA : Array (Option Value)} {ocCA kVCA dcCA pmCA cdCA ctCA : Value}
    {odPA anPA : Option Addr} {slPA : Array (Option Value)} {ocPA kVPA dcPA pmPA cdPA ctPA : Value}
    {odDN anDN : Option Addr} {slDN : Array (Option Value)} {ocDN kVDN dcDN pmDN cdDN ctDN : Value}
    {odDD anDD : Option Addr} {slDD : Array (Option Value)} {ocDD kVDD dcDD pmDD cdDD ctDD : Value}
    {odRI anRI : Option Addr} {slRI : Array (Option Value)} {ocRI kVRI dcRI pmRI cdRI ctRI : Value}
    {odST anST : Option Addr} {slST : Array (Option Value)} {ocST kVST dcST pmST cdST ctST : Value}
    {odZ anZ : Option Addr} {slZ : Array (Option Value)} {ocZ kVZ dcZ pmZ cdZ ctZ : Value} {tgM : Tok}
    (aMI : PySem.W.findIn K (.ref cLN) "__init__" = some (some (.ref fMI))) (lMI : K.lookup fMI = some ⟨ocMI, odMI, .func (PySem.W.fnOf "__init__" "Line.__init__" (defArgs sInit) (defBody sInit) (defScope sInit) .none kVMI dcMI pmMI anMI cdMI ctMI), slMI⟩) (MIc : PySem.W.codeIn K cdMI "Line.__init__" = true) (kMI : PySem.W.keepIn K (.ref fMI) = true) (iMI : PySem.W.isFn K (.ref fMI) = true)
    (aMC : PySem.W.findIn K (.ref cLN) "come" = some (some (.ref fMC))) (lMC : K.lookup fMC = some ⟨ocMC, odMC, .func (PySem.W.fnOf "come" "Line.come" (defArgs sComeM) (defBody sComeM) (defScope sComeM) .none kVMC dcMC pmMC anMC cdMC ctMC), slMC⟩) (MCc : PySem.W.codeIn K cdMC "Line.come" = true) (kMC : PySem.W.keepIn K (.ref fMC) = true) (iMC : PySem.W.isFn K (.ref fMC) = true)
    (aMS : PySem.W.findIn K (.ref cLN) "serve" = some (some (.ref fMS))) (lMS : K.lookup fMS = some ⟨ocMS, odMS, .func (PySem.W.fnOf "serve" "Line.serve" (defArgs sServeM) (defBody sServeM) (defScope sServeM) .none kVMS dcMS pmMS anMS cdMS ctMS), slMS⟩) (MSc : PySem.W.codeIn K cdMS "Line.serve" = true) (kMS : PySem.W.keepIn K (.ref fMS) = true) (iMS : PySem.W.isFn K (.ref fMS) = true)
    (aMU : PySem.W.findIn K (.ref cLN) "undo" = some (some (.ref fMU))) (lMU : K.lookup fMU = some ⟨ocMU, odMU, .func (PySem.W.fnOf "undo" "Line.undo" (defArgs sUndoM) (defBody sUndoM) (defScope sUndoM) .none kVMU dcMU pmMU anMU cdMU ctMU), slMU⟩) (MUc : PySem.W.codeIn K cdMU "Line.undo" = true) (kMU : PySem.W.keepIn K (.ref fMU) = true) (iMU : PySem.W.isFn K (.ref fMU) = true)
    (aMT : PySem.W.findIn K (.ref cLN) "take_newcomer" = some (some (.ref fMT))) (lMT : K.lookup fMT = some ⟨ocMT, odMT, .func (PySem.W.fnOf "take_newcomer" "Line.take_newcomer" (defArgs sTakeM) (defBody sTakeM) (defScope sTakeM) .none kVMT dcMT pmMT anMT cdMT ctMT), slMT⟩) (MTc : PySem.W.codeIn K cdMT "Line.take_newcomer" = true) (kMT : PySem.W.keepIn K (.ref fMT) = true) (iMT : PySem.W.isFn K (.ref fMT) = true)
    (aMQ : PySem.W.findIn K (.ref cLN) "queue" = some (some (.ref fMQ))) (lMQ : K.lookup fMQ = some ⟨ocMQ, odMQ, .func (PySem.W.fnOf "queue" "Line.queue" (defArgs sQueM) (defBody sQueM) (defScope sQueM) .none kVMQ dcMQ pmMQ anMQ cdMQ ctMQ), slMQ⟩) (MQc : PySem.W.codeIn K cdMQ "Line.queue" = true) (kMQ : PySem.W.keepIn K (.ref fMQ) = true) (iMQ : PySem.W.isFn K (.ref fMQ) = true)
    (aML : PySem.W.findIn K (.ref cLN) "left" = some (some (.ref fML))) (lML : K.lookup fML = some ⟨ocML, odML, .func (PySem.W.fnOf "left" "Line.left" (defArgs sLeftM) (defBody sLeftM) (defScope sLeftM) .none kVML dcML pmML anML cdML ctML), slML⟩) (MLc : PySem.W.codeIn K cdML "Line.left" = true) (kML : PySem.W.keepIn K (.ref fML) = true) (iML : PySem.W.isFn K (.ref fML) = true)
    (aMW : PySem.W.findIn K (.ref cLN) "went_past" = some (some (.ref fMW))) (lMW : K.lookup fMW = some ⟨ocMW, odMW, .func (PySem.W.fnOf "went_past" "Line.went_past" (defArgs sWentM) (defBody sWentM) (defScope sWentM) .none kVMW dcMW pmMW anMW cdMW ctMW), slMW⟩) (MWc : PySem.W.codeIn K cdMW "Line.went_past" = true) (kMW : PySem.W.keepIn K (.ref fMW) = true) (iMW : PySem.W.isFn K (.ref fMW) = true)
    (aMH : PySem.W.findIn K (.ref cLN) "history" = some (some (.ref fMH))) (lMH : K.lookup fMH = some ⟨ocMH, odMH, .func (PySem.W.fnOf "history" "Line.history" (defArgs sHistM) (defBody sHistM) (defScope sHistM) .none kVMH dcMH pmMH anMH cdMH ctMH), slMH⟩) (MHc : PySem.W.codeIn K cdMH "Line.history" = true) (kMH : PySem.W.keepIn K (.ref fMH) = true) (iMH : PySem.W.isFn K (.ref fMH) = true)
    (aMN : PySem.W.findIn K (.ref cLN) "__len__" = some (some (.ref fMN))) (lMN : K.lookup fMN = some ⟨ocMN, odMN, .func (PySem.W.fnOf "__len__" "Line.__len__" (defArgs sLenM) (defBody sLenM) (defScope sLenM) .none kVMN dcMN pmMN anMN cdMN ctMN), slMN⟩) (MNc : PySem.W.codeIn K cdMN "Line.__len__" = true) (kMN : PySem.W.keepIn K (.ref fMN) = true) (iMN : PySem.W.isFn K (.ref fMN) = true)
    (aW : PySem.W.nsIn K mainGlobals "is_whole" = some (some (.ref fW))) (lW : K.lookup fW = some ⟨ocW, odW, .func (PySem.W.fnOf "is_whole" "is_whole" (defArgs sWhole) (defBody sWhole) (defScope sWhole) .none kVW dcW pmW anW cdW ctW), slW⟩) (Wc : PySem.W.codeIn K cdW "is_whole" = true) (kW : PySem.W.keepIn K (.ref fW) = true)
    (aP : PySem.W.nsIn K mainGlobals "is_patience" = some (some (.ref fP))) (lP : K.lookup fP = some ⟨ocP, odP, .func (PySem.W.fnOf "is_patience" "is_patience" (defArgs sPat) (defBody sPat) (defScope sPat) .none kVP dcP pmP anP cdP ctP), slP⟩) (Pc : PySem.W.codeIn K cdP "is_patience" = true) (kP : PySem.W.keepIn K (.ref fP) = true)
    (aLP : PySem.W.nsIn K mainGlobals "let_past" = some (some (.ref fLP))) (lLP : K.lookup fLP = some ⟨ocLP, odLP, .func (PySem.W.fnOf "let_past" "let_past" (defArgs sLet) (defBody sLet) (defScope sLet) .none kVLP dcLP pmLP anLP cdLP ctLP), slLP⟩) (LPc : PySem.W.codeIn K cdLP "let_past" = true) (kLP : PySem.W.keepIn K (.ref fLP) = true)
    (aBG : PySem.W.nsIn K mainGlobals "_law_bag" = some (some (.ref fBG))) (lBG : K.lookup fBG = some ⟨ocBG, odBG, .func (PySem.W.fnOf "_law_bag" "_law_bag" (defArgs sBag) (defBody sBag) (defScope sBag) .none kVBG dcBG pmBG anBG cdBG ctBG), slBG⟩) (BGc : PySem.W.codeIn K cdBG "_law_bag" = true) (kBG : PySem.W.keepIn K (.ref fBG) = true)
    (aSR : PySem.W.nsIn K mainGlobals "_law_stir" = some (some (.ref fSR))) (lSR : K.lookup fSR = some ⟨ocSR, odSR, .func (PySem.W.fnOf "_law_stir" "_law_stir" (defArgs sStir) (defBody sStir) (defScope sStir) .none kVSR dcSR pmSR anSR cdSR ctSR), slSR⟩) (SRc : PySem.W.codeIn K cdSR "_law_stir" = true) (kSR : PySem.W.keepIn K (.ref fSR) = true)
    (aDR : PySem.W.nsIn K mainGlobals "_law_draw" = some (some (.ref fDR))) (lDR : K.lookup fDR = some ⟨ocDR, odDR, .func (PySem.W.fnOf "_law_draw" "_law_draw" (defArgs sDraw) (defBody sDraw) (defScope sDraw) .none kVDR dcDR pmDR anDR cdDR ctDR), slDR⟩) (DRc : PySem.W.codeIn K cdDR "_law_draw" = true) (kDR : PySem.W.keepIn K (.ref fDR) = true)
    (aCA : PySem.W.nsIn K mainGlobals "_law_came" = some (some (.ref fCA))) (lCA : K.lookup fCA = some ⟨ocCA, odCA, .func (PySem.W.fnOf "_law_came" "_law_came" (defArgs sCame) (defBody sCame) (defScope sCame) .none kVCA dcCA pmCA anCA cdCA ctCA), slCA⟩) (CAc : PySem.W.codeIn K cdCA "_law_came" = true) (kCA : PySem.W.keepIn K (.ref fCA) = true)
    (aPA : PySem.W.nsIn K mainGlobals "_law_patience" = some (some (.ref fPA))) (lPA : K.lookup fPA = some ⟨ocPA, odPA, .func (PySem.W.fnOf "_law_patience" "_law_patience" (defArgs sPatL) (defBody sPatL) (defScope sPatL) .none kVPA dcPA pmPA anPA cdPA ctPA), slPA⟩) (PAc : PySem.W.codeIn K cdPA "_law_patience" = true) (kPA : PySem.W.keepIn K (.ref fPA) = true)
    (aDN : PySem.W.nsIn K mainGlobals "_law_done" = some (some (.ref fDN))) (lDN : K.lookup fDN = some ⟨ocDN, odDN, .func (PySem.W.fnOf "_law_done" "_law_done" (defArgs sDone) (defBody sDone) (defScope sDone) .none kVDN dcDN pmDN anDN cdDN ctDN), slDN⟩) (DNc : PySem.W.codeIn K cdDN "_law_done" = true) (kDN : PySem.W.keepIn K (.ref fDN) = true)
    (aDD : PySem.W.nsIn K mainGlobals "_law_deed" = some (some (.ref fDD))) (lDD : K.lookup fDD = some ⟨ocDD, odDD, .func (PySem.W.fnOf "_law_deed" "_law_deed" (defArgs sDeed) (defBody sDeed) (defScope sDeed) .none kVDD dcDD pmDD anDD cdDD ctDD), slDD⟩) (DDc : PySem.W.codeIn K cdDD "_law_deed" = true) (kDD : PySem.W.keepIn K (.ref fDD) = true)
    (aRI : PySem.W.nsIn K mainGlobals "_law_right" = some (some (.ref fRI))) (lRI : K.lookup fRI = some ⟨ocRI, odRI, .func (PySem.W.fnOf "_law_right" "_law_right" (defArgs sLRight) (defBody sLRight) (defScope sLRight) .none kVRI dcRI pmRI anRI cdRI ctRI), slRI⟩) (RIc : PySem.W.codeIn K cdRI "_law_right" = true) (kRI : PySem.W.keepIn K (.ref fRI) = true)
    (aST : PySem.W.nsIn K mainGlobals "_law_step" = some (some (.ref fST))) (lST : K.lookup fST = some ⟨ocST, odST, .func (PySem.W.fnOf "_law_step" "_law_step" (defArgs sStep) (defBody sStep) (defScope sStep) .none kVST dcST pmST anST cdST ctST), slST⟩) (STc : PySem.W.codeIn K cdST "_law_step" = true) (kST : PySem.W.keepIn K (.ref fST) = true)
    (aZ : PySem.W.nsIn K mainGlobals "law" = some (some (.ref fZ))) (lZ : K.lookup fZ = some ⟨ocZ, odZ, .func (PySem.W.fnOf "law" "law" (defArgs sLaw) (defBody sLaw) (defScope sLaw) .none kVZ dcZ pmZ anZ cdZ ctZ), slZ⟩) (Zc : PySem.W.codeIn K cdZ "law" = true) (kZ : PySem.W.keepIn K (.ref fZ) = true)
    (z_isinstance : PySem.W.nsIn K mainGlobals "isinstance" = some none) (z_len : PySem.W.nsIn K mainGlobals "len" = some none) (z_int : PySem.W.nsIn K mainGlobals "int" = some none) (z_bool : PySem.W.nsIn K mainGlobals "bool" = some none) (z_list : PySem.W.nsIn K mainGlobals "list" = some none) (z_range : PySem.W.nsIn K mainGlobals "range" = some none) (z_min : PySem.W.nsIn K mainGlobals "min" = some none) (z_repr : PySem.W.nsIn K mainGlobals "repr" = some none) (z_sum : PySem.W.nsIn K mainGlobals "sum" = some none)
    
    (aCLS : PySem.W.nsIn K mainGlobals "Line" = some (some (.ref cLN))) (pgC : PySem.W.plainGet K cLN Str.empty = true) (hdC : PySem.W.hasDictIn K cLN = true) (poC : PySem.W.plainOver K cLN = true) (saC : PySem.W.findIn K (.ref cLN) "__setattr__" = some (some (.builtin "object.__setattr__"))) (mkC : PySem.W.makesIn K cLN = true) (kcC : PySem.W.keepIn K (.ref cLN) = true)
    (nF0 : PySem.W.findIn K (.ref cLN) "people" = some none) (nF1 : PySem.W.findIn K (.ref cLN) "rest" = some none) (nF2 : PySem.W.findIn K (.ref cLN) "past" = some none) (nF3 : PySem.W.findIn K (.ref cLN) "served" = some none) (nF4 : PySem.W.findIn K (.ref cLN) "deeds" = some none)
    
    (gM : PySem.W.nsIn K mainGlobals "GREATEST" = some (some (.int 1000000000000000000000000000000 tgM))) : AtLaw l w K mg fa h := by
  have e := hfa.symm.trans (PySem.W.mg_of X G.g aZ)
  cases e
  have FMI := fun_mk (st := sInit) lMI MIc kMI
  have FMC := fun_mk (st := sComeM) lMC MCc kMC
  have FMS := fun_mk (st := sServeM) lMS MSc kMS
  have FMU := fun_mk (st := sUndoM) lMU MUc kMU
  have FMT := fun_mk (st := sTakeM) lMT MTc kMT
  have FMQ := fun_mk (st := sQueM) lMQ MQc kMQ
  have FML := fun_mk (st := sLeftM) lML MLc kML
  have FMW := fun_mk (st := sWentM) lMW MWc kMW
  have FMH := fun_mk (st := sHistM) lMH MHc kMH
  have FMN := fun_mk (st := sLenM) lMN MNc kMN
  have FW := fun_mk (st := sWhole) lW Wc kW
  have FP := fun_mk (st := sPat) lP Pc kP
  have FLP := fun_mk (st := sLet) lLP LPc kLP
  have FBG := fun_mk (st := sBag) lBG BGc kBG
  have FSR := fun_mk (st := sStir) lSR SRc kSR
  have FDR := fun_mk (st := sDraw) lDR DRc kDR
  have FCA := fun_mk (st := sCame) lCA CAc kCA
  have FPA := fun_mk (st := sPatL) lPA PAc kPA
  have FDN := fun_mk (st := sDone) lDN DNc kDN
  have FDD := fun_mk (st := sDeed) lDD DDc kDD
  have FRI := fun_mk (st := sLRight) lRI RIc kRI
  have FST := fun_mk (st := sStep) lST STc kST
  have FZ := fun_mk (st := sLaw) lZ Zc kZ
  have bMI := FMI.binds (ps := ["self"]) fun _ _ _ _ _ _ us hl => match us, hl with | [_], _ => rfl
  have bMC := FMC.binds (ps := ["self", "patience"]) fun _ _ _ _ _ _ us hl => match us, hl with | [_, _], _ => rfl
  have bMS := FMS.binds (ps := ["self"]) fun _ _ _ _ _ _ us hl => match us, hl with | [_], _ => rfl
  have bMU := FMU.binds (ps := ["self"]) fun _ _ _ _ _ _ us hl => match us, hl with | [_], _ => rfl
  have bMT := FMT.binds (ps := ["self"]) fun _ _ _ _ _ _ us hl => match us, hl with | [_], _ => rfl
  have bMQ := FMQ.binds (ps := ["self"]) fun _ _ _ _ _ _ us hl => match us, hl with | [_], _ => rfl
  have bML := FML.binds (ps := ["self"]) fun _ _ _ _ _ _ us hl => match us, hl with | [_], _ => rfl
  have bMW := FMW.binds (ps := ["self", "person"]) fun _ _ _ _ _ _ us hl => match us, hl with | [_, _], _ => rfl
  have bMH := FMH.binds (ps := ["self"]) fun _ _ _ _ _ _ us hl => match us, hl with | [_], _ => rfl
  have bMN := FMN.binds (ps := ["self"]) fun _ _ _ _ _ _ us hl => match us, hl with | [_], _ => rfl
  have bW := FW.binds (ps := ["thing"]) fun _ _ _ _ _ _ us hl => match us, hl with | [_], _ => rfl
  have bP := FP.binds (ps := ["thing"]) fun _ _ _ _ _ _ us hl => match us, hl with | [_], _ => rfl
  have bLP := FLP.binds (ps := ["left"]) fun _ _ _ _ _ _ us hl => match us, hl with | [_], _ => rfl
  have bBG := FBG.binds (ps := ["script"]) fun _ _ _ _ _ _ us hl => match us, hl with | [_], _ => rfl
  have bSR := FSR.binds (ps := ["number", "place"]) fun _ _ _ _ _ _ us hl => match us, hl with | [_, _], _ => rfl
  have bDR := FDR.binds (ps := ["bag", "many"]) fun _ _ _ _ _ _ us hl => match us, hl with | [_, _], _ => rfl
  have bCA := FCA.binds (ps := ["stand", "rest", "number", "patience"]) fun _ _ _ _ _ _ us hl => match us, hl with | [_, _, _, _], _ => rfl
  have bPA := FPA.binds (ps := ["bag", "most"]) fun _ _ _ _ _ _ us hl => match us, hl with | [_, _], _ => rfl
  have bDN := FDN.binds (ps := ["deeds"]) fun _ _ _ _ _ _ us hl => match us, hl with | [_], _ => rfl
  have bDD := FDD.binds (ps := ["bag", "deeds", "most"]) fun _ _ _ _ _ _ us hl => match us, hl with | [_, _, _], _ => rfl
  have bRI := FRI.binds (ps := ["line", "deeds"]) fun _ _ _ _ _ _ us hl => match us, hl with | [_, _], _ => rfl
  have bST := FST.binds (ps := ["bag", "line", "deeds", "most"]) fun _ _ _ _ _ _ us hl => match us, hl with | [_, _, _, _], _ => rfl
  have bZ := FZ.binds (ps := ["script"]) fun _ _ _ _ _ _ us hl => match us, hl with | [_], _ => rfl
  have m := fun {n : Str} (e : PySem.W.nsIn K mainGlobals n = some none) => PySem.W.mg_none_of X G.g e
  have g := fun {n : Str} {v : Value} (e : PySem.W.nsIn K mainGlobals n = some (some v)) => PySem.W.mg_of X G.g e
  have T : Nm mg := ⟨m z_isinstance, m z_len, m z_int, m z_bool, m z_list, m z_range, m z_min, ⟨_, g gM⟩⟩
  have TL : LnT K mg cLN := ⟨⟨pgC, hdC, poC, saC⟩, nF0, nF1, nF2, nF3, nF4, g aCLS⟩
  refine ⟨PySem.W.fnOf "law" "law" (defArgs sLaw) (defBody sLaw) (defScope sLaw) .none kVZ dcZ pmZ anZ cdZ ctZ, fun b hb => ?_, fun b hb => ?_, fun b hb => ?_, fun s v => .of_eq rfl, fun base _ _ hsys hB => ?_⟩
  · exact absurd hb (by simp)
  · exact absurd hb (by simp)
  · exact absurd hb (by simp)
  · have XB : K.In base := ‹K.In base›
    have KW : Cal l.prog w K mg base 1 "is_whole" ["thing"] (spOne isWhole) := ⟨fW, _, g aW, kW, bW, ok_whole FW T⟩
    have KP : Cal l.prog w K mg base 2 "is_patience" ["thing"] (spOne isPatience) := ⟨fP, _, g aP, kP, bP, ok_pat FP T KW⟩
    have KLP : Cal l.prog w K mg base 1 "let_past" ["left"] (spLet) := ⟨fLP, _, g aLP, kLP, bLP, ok_let FLP T⟩
    have KBG : Cal l.prog w K mg base 1 "_law_bag" ["script"] (spBag K) := ⟨fBG, _, g aBG, kBG, bBG, ok_bag FBG T.list⟩
    have KSR : Cal l.prog w K mg base 1 "_law_stir" ["number", "place"] (spStir) := ⟨fSR, _, g aSR, kSR, bSR, ok_stir FSR⟩
    have KDR : ∀ r, Cal l.prog w K mg base 2 "_law_draw" ["bag", "many"] (spDraw r) := fun r => ⟨fDR, _, g aDR, kDR, bDR, ok_draw FDR T.len KSR⟩
    have KDE : Cal l.prog w K mg base 2 "_law_draw" ["bag", "many"] (spE spDraw) := ⟨fDR, _, g aDR, kDR, bDR, fnE fun r => ok_draw FDR T.len KSR⟩
    have KPA : ∀ r, Cal l.prog w K mg base 3 "_law_patience" ["bag", "most"] (spPatL r) := fun r => ⟨fPA, _, g aPA, kPA, bPA, ok_patL FPA (KDR r)⟩
    have KCA : Cal l.prog w K mg base 1 "_law_came" ["stand", "rest", "number", "patience"] (spCame) := ⟨fCA, _, g aCA, kCA, bCA, ok_came FCA T.len⟩
    have KDN : Cal l.prog w K mg base 2 "_law_done" ["deeds"] (spDone) := ⟨fDN, _, g aDN, kDN, bDN, ok_done FDN T KCA⟩
    have KDD : Cal l.prog w K mg base 4 "_law_deed" ["bag", "deeds", "most"] (spE spDeed) := ⟨fDD, _, g aDD, kDD, bDD, fnE fun r => ok_deed FDD (m z_sum) (KDR r) (KPA r)⟩
    have GMC := ok_comeM (P := l.prog) (w := w) (base := base) FMC T TL KP KLP
    have GMS := ok_serveM (P := l.prog) (w := w) (mg := mg) (base := base) FMS TL
    have GMT := ok_takeM (P := l.prog) (w := w) (base := base) FMT T TL
    have GMU := ok_undoM (P := l.prog) (w := w) (base := base) FMU T TL ⟨aMT, iMT, kMT⟩ GMT bMT
    have GMQ := ok_queM (P := l.prog) (w := w) (base := base) FMQ T TL
    have GML := ok_leftM (P := l.prog) (w := w) (base := base) FML T TL
    have GMW := ok_wentM (P := l.prog) (w := w) (base := base) FMW T TL KW
    have GMH := ok_histM (P := l.prog) (w := w) (base := base) FMH T TL
    have GMN := ok_lenM (P := l.prog) (w := w) (base := base) FMN T TL
    have KST : CalG l.prog w K mg base 6 "_law_step" ["bag", "line", "deeds", "most"] (spStep cLN) := ⟨fST, _, g aST, kST, bST, ok_step FST T TL (m z_repr) hsys ⟨aMU, iMU, kMU⟩ GMU bMU ⟨aMS, iMS, kMS⟩ GMS bMS ⟨aMC, iMC, kMC⟩ GMC bMC (KDE.mono (by decide)) (KDD.mono (by decide)) (KDN.mono (by decide))⟩
    have KRI : CalG l.prog w K mg base 6 "_law_right" ["line", "deeds"] (spRight cLN) := ⟨fRI, _, g aRI, kRI, bRI, ok_right FRI T TL (m z_repr) hsys ⟨aMQ, iMQ, kMQ⟩ GMQ bMQ ⟨aML, iML, kML⟩ GML bML ⟨aMH, iMH, kMH⟩ GMH bMH ⟨aMW, iMW, kMW⟩ GMW bMW aMN iMN GMN bMN (KDN.mono (by decide))⟩
    exact ok_law FZ T TL ⟨mkC, aMI, iMI, kcC⟩ (ok_init FMI TL) bMI (KBG.mono (by decide)) (KDE.mono (by decide)) KST KRI
end CL
open PySem PySem.W PyProof.Rows
set_option maxRecDepth 100000 in
set_option maxHeartbeats 0 in
theorem PySem.Challenge.cw_comersline_k39_lines_deed_by_deed_holds : PySem.Challenge.rw_comersline_k39_lines_deed_by_deed.Holds := by
  w_on; o_law; k_head; (case hw => w_witness2)
  k_fill
  refine CL.walk (l := PySem.Challenge.rw_comersline_k39_lines_deed_by_deed) rfl rfl (by decide +kernel) (fun w h Y => PySem.W.kIn_of Y) ?F
  case F =>
    intro w mg mb mean lo fa h KX G hmg
    refine' CL.all_mk KX G hmg ?aMI ?lMI ?MIc ?kMI ?iMI ?aMC ?lMC ?MCc ?kMC ?iMC ?aMS ?lMS ?MSc ?kMS ?iMS ?aMU ?lMU ?MUc ?kMU ?iMU ?aMT ?lMT ?MTc ?kMT ?iMT ?aMQ ?lMQ ?MQc ?kMQ ?iMQ ?aML ?lML ?MLc ?kML ?iML ?aMW ?lMW ?MWc ?kMW ?iMW ?aMH ?lMH ?MHc ?kMH ?iMH ?aMN ?lMN ?MNc ?kMN ?iMN ?aW ?lW ?Wc ?kW ?aP ?lP ?Pc ?kP ?aLP ?lLP ?LPc ?kLP ?aBG ?lBG ?BGc ?kBG ?aSR ?lSR ?SRc ?kSR ?aDR ?lDR ?DRc ?kDR ?aCA ?lCA ?CAc ?kCA ?aPA ?lPA ?PAc ?kPA ?aDN ?lDN ?DNc ?kDN ?aDD ?lDD ?DDc ?kDD ?aRI ?lRI ?RIc ?kRI ?aST ?lST ?STc ?kST ?aZ ?lZ ?Zc ?kZ ?z_isinstance ?z_len ?z_int ?z_bool ?z_list ?z_range ?z_min ?z_repr ?z_sum ?aCLS ?pgC ?hdC ?poC ?saC ?mkC ?kcC ?nF0 ?nF1 ?nF2 ?nF3 ?nF4 ?gM
    (case aCLS => k_is)
    (case aMI => k_is)
    (case lMI => k_is)
    (case MIc => k_is)
    (case kMI => k_is)
    (case iMI => k_is)
    (case aMC => k_is)
    (case lMC => k_is)
    (case MCc => k_is)
    (case kMC => k_is)
    (case iMC => k_is)
    (case aMS => k_is)
    (case lMS => k_is)
    (case MSc => k_is)
    (case kMS => k_is)
    (case iMS => k_is)
    (case aMU => k_is)
    (case lMU => k_is)
    (case MUc => k_is)
    (case kMU => k_is)
    (case iMU => k_is)
    (case aMT => k_is)
    (case lMT => k_is)
    (case MTc => k_is)
    (case kMT => k_is)
    (case iMT => k_is)
    (case aMQ => k_is)
    (case lMQ => k_is)
    (case MQc => k_is)
    (case kMQ => k_is)
    (case iMQ => k_is)
    (case aML => k_is)
    (case lML => k_is)
    (case MLc => k_is)
    (case kML => k_is)
    (case iML => k_is)
    (case aMW => k_is)
    (case lMW => k_is)
    (case MWc => k_is)
    (case kMW => k_is)
    (case iMW => k_is)
    (case aMH => k_is)
    (case lMH => k_is)
    (case MHc => k_is)
    (case kMH => k_is)
    (case iMH => k_is)
    (case aMN => k_is)
    (case lMN => k_is)
    (case MNc => k_is)
    (case kMN => k_is)
    (case iMN => k_is)
    (case aW => k_is)
    (case lW => k_is)
    (case Wc => k_is)
    (case kW => k_is)
    (case aP => k_is)
    (case lP => k_is)
    (case Pc => k_is)
    (case kP => k_is)
    (case aLP => k_is)
    (case lLP => k_is)
    (case LPc => k_is)
    (case kLP => k_is)
    (case aBG => k_is)
    (case lBG => k_is)
    (case BGc => k_is)
    (case kBG => k_is)
    (case aSR => k_is)
    (case lSR => k_is)
    (case SRc => k_is)
    (case kSR => k_is)
    (case aDR => k_is)
    (case lDR => k_is)
    (case DRc => k_is)
    (case kDR => k_is)
    (case aCA => k_is)
    (case lCA => k_is)
    (case CAc => k_is)
    (case kCA => k_is)
    (case aPA => k_is)
    (case lPA => k_is)
    (case PAc => k_is)
    (case kPA => k_is)
    (case aDN => k_is)
    (case lDN => k_is)
    (case DNc => k_is)
    (case kDN => k_is)
    (case aDD => k_is)
    (case lDD => k_is)
    (case DDc => k_is)
    (case kDD => k_is)
    (case aRI => k_is)
    (case lRI => k_is)
    (case RIc => k_is)
    (case kRI => k_is)
    (case aST => k_is)
    (case lST => k_is)
    (case STc => k_is)
    (case kST => k_is)
    (case aZ => k_is)
    (case lZ => k_is)
    (case Zc => k_is)
    (case kZ => k_is)
    (case z_isinstance => k_is)
    (case z_len => k_is)
    (case z_int => k_is)
    (case z_bool => k_is)
    (case z_list => k_is)
    (case z_range => k_is)
    (case z_min => k_is)
    (case z_repr => k_is)
    (case z_sum => k_is)
    (case pgC => k_is)
    (case hdC => k_is)
    (case poC => k_is)
    (case saC => k_is)
    (case mkC => k_is)
    (case kcC => k_is)
    (case nF0 => k_is)
    (case nF1 => k_is)
    (case nF2 => k_is)
    (case nF3 => k_is)
    (case nF4 => k_is)
    (case gM => k_is)
