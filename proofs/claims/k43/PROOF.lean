import PyProof.Rows.All
import Wide.All
import OpenK.AllK
import Wide.FinOn
import HandS.ForMost
import HandS.ForExc
import HandS.AnyAll
import HandS.GenBody
import HandS.IsInst
import HandS.TupAny
import HandS.Wide
import HandS.Codes
import HandS.Conv
import HandS.Text
import HandS.More
import HandS.EndTab
import HandS.NestedK
import PySem.Challenge.RW_comersline_k43_whole_safe_ones_served
namespace GE
end GE
set_option Elab.async false
set_option linter.all false
set_option maxRecDepth 100000
set_option maxHeartbeats 1000000
namespace CL
open PySem PySem.Spec PyProof.Rows L2 GE
/-! ### what a value is worth, as data -/
mutual
inductive Rp (H : Hp) : V → PyData → Prop
  | non : Rp H .non .none
  | bl (b : Bool) : Rp H (.bl b) (.bool b)
  | int (i : Int) : Rp H (.int i) (.int i)
  | str (x : Str) : Rp H (.str x) (.str x)
  | lst {a : Addr} {xs : List V} {ds : List PyData} : H a = some (.lst xs) → RpAll H xs ds → Rp H (.ref a) (.list ds)
  | tup {a : Addr} {xs : List V} {ds : List PyData} : H a = some (.tup xs) → RpAll H xs ds → Rp H (.ref a) (.tuple ds)
  | dct {a : Addr} : H a = some (.dK []) → Rp H (.ref a) (.dict [])
inductive RpAll (H : Hp) : List V → List PyData → Prop
  | nil : RpAll H [] []
  | cons {v : V} {vs : List V} {d : PyData} {ds : List PyData} : Rp H v d → RpAll H vs ds → RpAll H (v :: vs) (d :: ds)
end
/-- all stays but tables, which may grow -/
def Ex (H H' : Hp) : Prop := ∀ b o, H b = some o → H' b = some o ∨ ∃ ps qs, o = .tbl ps ∧ H' b = some (.tbl qs) ∧ TriplesOk qs.toList
theorem Ex.refl (H : Hp) : Ex H H := fun _ _ h => .inl h
theorem Ex.of {H H' : Hp} (s : Same H H') : Ex H H' := fun b o h => .inl (s b o h)
theorem Ex.trans {H H1 H2 : Hp} (a : Ex H H1) (b : Ex H1 H2) : Ex H H2 := fun c o h => by
  rcases a c o h with q | ⟨ps, qs, e, q⟩
  · exact b c o q
  · rcases b c _ q.1 with r | ⟨ps', qs', _, r⟩
    · exact .inr ⟨ps, qs, e, r, q.2⟩
    · exact .inr ⟨ps, qs', e, r⟩
theorem Ex.keep {H H' : Hp} (e : Ex H H') {b : Addr} {o : HO} (h : H b = some o) (n : ∀ ps, o ≠ .tbl ps) : H' b = some o := by
  rcases e b o h with q | ⟨ps, _, z, _⟩
  · exact q
  · exact absurd z (n ps)
theorem Ex.lst {H H' : Hp} (e : Ex H H') {b : Addr} {xs : List V} (h : H b = some (.lst xs)) : H' b = some (.lst xs) := e.keep h fun _ => nofun
theorem Ex.tup {H H' : Hp} (e : Ex H H') {b : Addr} {xs : List V} (h : H b = some (.tup xs)) : H' b = some (.tup xs) := e.keep h fun _ => nofun
theorem Ex.free {H H' : Hp} (e : Ex H H') {l : Addr} (h : H' l = none) : H l = none := by
  cases q : H l with
  | none => rfl
  | some o =>
    rcases e l o q with r | ⟨_, _, _, r, _⟩
    · rw [h] at r; cases r
    · rw [h] at r; cases r
theorem Ex.new {H : Hp} {p : Addr} {o : HO} (h : H p = none) : Ex H (upd H p o) := fun b x e => .inl (by rw [upd_ne (ne_of_none e h)]; exact e)
theorem same_upd {H : Hp} {p : Addr} {o : HO} (h : H p = none) : Same H (upd H p o) := fun b x e => by
  rw [upd_ne (ne_of_none e h)]
  exact e
mutual
theorem Rp.ex {H H' : Hp} (e : Ex H H') : ∀ (d : PyData) (v : V), Rp H v d → Rp H' v d
  | .none, _, h => by cases h; exact .non
  | .bool b, _, h => by cases h; exact .bl b
  | .int i, _, h => by cases h; exact .int i
  | .str x, _, h => by cases h; exact .str x
  | .list ds, _, h => by
    cases h with
    | lst h1 h2 => exact .lst (e.lst h1) (RpAll.ex e ds _ h2)
  | .tuple ds, _, h => by
    cases h with
    | tup h1 h2 => exact .tup (e.tup h1) (RpAll.ex e ds _ h2)
  | .dict _, _, h => by
    cases h with
    | dct h1 => exact .dct (e.keep h1 fun _ => nofun)
theorem RpAll.ex {H H' : Hp} (e : Ex H H') : ∀ (ds : List PyData) (vs : List V), RpAll H vs ds → RpAll H' vs ds
  | [], _, h => by cases h; exact .nil
  | d :: ds, _, h => by
    cases h with
    | cons h1 h2 => exact .cons (Rp.ex e d _ h1) (RpAll.ex e ds _ h2)
end
theorem RpAll.length {H : Hp} : ∀ {vs : List V} {ds : List PyData}, RpAll H vs ds → vs.length = ds.length
  | _, _, .nil => rfl
  | _, _, .cons _ t => congrArg (· + 1) (RpAll.length t)
theorem RpAll.get {H : Hp} : ∀ {vs : List V} {ds : List PyData} {i : Nat} {v : V}, RpAll H vs ds → vs[i]? = some v → ∃ d, ds[i]? = some d ∧ Rp H v d
  | _, _, _, _, .nil, e => by simp at e
  | _, _, 0, _, .cons r _, e => by simp at e; subst e; exact ⟨_, rfl, r⟩
  | _, _, i + 1, _, .cons _ t, e => by
    obtain ⟨d, h1, h2⟩ := RpAll.get (i := i) t (by simpa using e)
    exact ⟨d, by simpa using h1, h2⟩
theorem RpAll.take {H : Hp} : ∀ {vs : List V} {ds : List PyData} (n : Nat), RpAll H vs ds → RpAll H (vs.take n) (ds.take n)
  | _, _, 0, _ => .nil
  | _, _, _ + 1, .nil => .nil
  | _, _, n + 1, .cons r t => .cons r (RpAll.take n t)
theorem RpAll.append {H : Hp} : ∀ {vs ws : List V} {ds es : List PyData}, RpAll H vs ds → RpAll H ws es → RpAll H (vs ++ ws) (ds ++ es)
  | _, _, _, _, .nil, s => s
  | _, _, _, _, .cons r t, s => .cons r (RpAll.append t s)
/-! ### plans, as the document tells -/
def tyName : PyData → String
  | .none => "NoneType" | .bool _ => "bool" | .int _ => "int" | .str _ => "str" | .list _ => "list" | .tuple _ => "tuple" | .dict _ => "dict"
def rowsD : PyData → Option (List PyData)
  | .list xs => some xs
  | .tuple xs => some xs
  | _ => none
def isRow (d : PyData) : Bool := (rowsD d).isSome
def isWhole : PyData → Bool
  | .int _ => true
  | _ => false
def isIntB : PyData → Bool
  | .int _ => true
  | .bool _ => true
  | _ => false
def isBoolB : PyData → Bool
  | .bool _ => true
  | _ => false
def isNone : PyData → Bool
  | .none => true
  | _ => false
abbrev GREAT : Int := 1000000000000000000000000000000
def isPatience : PyData → Bool
  | .none => true
  | .int i => decide (0 ≤ i) && decide (i ≤ GREAT)
  | _ => false
def isTurns (d : PyData) : Bool := match rowsD d with
  | some ds => decide (1 ≤ ds.length) && decide (ds.length ≤ 8) && ds.all isPatience
  | none => false
def isMany : PyData → Bool
  | .none => true
  | .int i => decide (0 ≤ i)
  | _ => false
def isPiece (d : PyData) : Bool := match rowsD d with
  | some [t, m] => isTurns t && isMany m
  | _ => false
def sndD (d : PyData) : PyData := match rowsD d with
  | some [_, m] => m
  | _ => .none
def worth : PyData → Int
  | .int i => i
  | _ => 0
def sumSnd (ds : List PyData) : Int := (ds.map fun d => worth (sndD d)).sum
def isPlanL (ds : List PyData) : Bool := decide (1 ≤ ds.length) && decide (ds.length ≤ 8) && ds.all isPiece && !((ds.take (ds.length - 1)).any fun d => isNone (sndD d)) && decide (sumSnd ds ≤ GREAT)
def isPlan (d : PyData) : Bool := match rowsD d with
  | some ds => isPlanL ds
  | none => false
theorem Rp.ty {K : PySem.W.Frag} {H : Hp} {v : V} {d : PyData} (h : Rp H v d) : TyX K H v (.type (tyName d)) := by
  cases h with
  | non => exact .base .non
  | bl b => exact .base (.bl b)
  | int i => exact .base (.int i)
  | str x => exact .base (.str x)
  | lst h _ => exact .base (.lst h)
  | tup h _ => exact .base (.tup h)
  | dct h => exact .base (.dK h)
theorem kit_int {K : PySem.W.Frag} (d : PyData) : PySem.W.kitOne K (.type (tyName d)) (.type "int") = some (isIntB d) := by cases d <;> (refine kit_ty ?_; dsimp only [tyName, isIntB]; decide +kernel)
theorem kit_bool {K : PySem.W.Frag} (d : PyData) : PySem.W.kitOne K (.type (tyName d)) (.type "bool") = some (isBoolB d) := by cases d <;> (refine kit_ty ?_; dsimp only [tyName, isBoolB]; decide +kernel)
theorem kit_list {K : PySem.W.Frag} (d : PyData) : PySem.W.kitOne K (.type (tyName d)) (.type "list") = some (match d with | .list _ => true | _ => false) := by cases d <;> (refine kit_ty ?_; dsimp only [tyName]; decide +kernel)
theorem kit_tuple {K : PySem.W.Frag} (d : PyData) : PySem.W.kitOne K (.type (tyName d)) (.type "tuple") = some (match d with | .tuple _ => true | _ => false) := by cases d <;> (refine kit_ty ?_; dsimp only [tyName]; decide +kernel)
theorem kit_rows {K : PySem.W.Frag} (d : PyData) : PySem.W.kitAny K (.type (tyName d)) [.type "list", .type "tuple"] = some (isRow d) := by
  refine kitAny_cons (kit_list d) (fun h => kitAny_cons (kit_tuple d) (fun h2 => ?_) fun h2 => ?_) fun h => ?_
  · cases d <;> first | exact kitAny_nil | (simp at h; done) | (simp at h2; done)
  · cases d <;> first | rfl | (simp at h; done) | (simp at h2; done)
  · cases d <;> first | rfl | (simp at h; done)
/-- a row's things -/
theorem Rp.rows {H : Hp} {v : V} {d : PyData} {ds : List PyData} (h : Rp H v d) (e : rowsD d = some ds) : ∃ a xs, v = .ref a ∧ RpAll H xs ds ∧ (H a = some (.lst xs) ∨ H a = some (.tup xs)) := by
  cases h with
  | lst h1 h2 => cases e; exact ⟨_, _, rfl, h2, .inl h1⟩
  | tup h1 h2 => cases e; exact ⟨_, _, rfl, h2, .inr h1⟩
  | _ => cases e
/-! ### for x in a list or a tuple -/
structure StSeq (H : Hp) (a : Addr) (xs : List V) : Prop where
  or : H a = some (.lst xs) ∨ H a = some (.tup xs)
theorem StSeq.ex {H H' : Hp} {a : Addr} {xs : List V} (s : StSeq H a xs) (e : Ex H H') : StSeq H' a xs := ⟨s.or.elim (fun h => .inl (e.lst h)) fun h => .inr (e.tup h)⟩
theorem StSeq.sq {K : PySem.W.Frag} {H : Hp} {a : Addr} {xs : List V} (s : StSeq H a xs) : SqL K H a xs ∨ SqT K H a xs := s.or.elim (fun h => .inl (SqL.of h)) fun h => .inr (SqT.of h)
/-- the thing that is walked stands -/
def StandsAs (K : PySem.W.Frag) (a : Addr) (xs : List V) (J : It) (H : Hp) : Prop := (J = Itl K a ∧ SqL K H a xs) ∨ (J = Itt K a ∧ SqT K H a xs)
section
variable {X : Cx} {tg : Expr}
def iSeq (K : PySem.W.Frag) (tl : TE) : TI := fun σ H R => tl σ H fun x H1 => ∃ a xs, x = .ref a ∧ StSeq H1 a xs ∧ ∀ J, (∀ H2, Ex H1 H2 → StandsAs K a xs J H2) → R J H1
theorem pi_seq {l : Expr} {tl : TE} (hl : PE X l tl) : PI X tg l (iSeq X.K tl) := by
  refine ⟨fun pins s σ H R I h => ?_⟩
  refine thn (hl.run pins s σ H _ I h) fun v s1 ⟨x, H1, I1, r1, q1⟩ => ?_
  obtain ⟨a, xs, e, st, q⟩ := q1
  subst e
  cases r1
  have new : ∀ b ∈ [s1.heap.objs.size], FpOk X pins H1 b := fun b hb => by
    rw [List.mem_singleton.mp hb]
    exact I1.fpOk (Nat.le_refl _) (I1.hok.fresh (Nat.le_refl _))
  rcases st.or with hq | hq
  · obtain ⟨its, rv, p, hz⟩ := I1.list (SqL.of hq)
    exact wpAny_pyIter_list p.isList ⟨s1.heap.objs.size, [s1.heap.objs.size], _, _, H1, rfl, I1.kept (t' := s1.toks) fun b o e => Heap.get?_push_of_some _ e, turn_list a _, ⟨_, Heap.get?_push_size _ rfl, rfl, rfl⟩, new, q _ fun H2 e => .inl ⟨rfl, SqL.of (e.lst hq)⟩⟩
  · obtain ⟨its, rv, p, hz⟩ := I1.tuple (SqT.of hq)
    exact wpAny_pyIter_tuple (show s1.heap.IsTuple a its.toArray from p) ⟨s1.heap.objs.size, [s1.heap.objs.size], _, _, H1, rfl, I1.kept (t' := s1.toks) fun b o e => Heap.get?_push_of_some _ e, turn_tuple a _, ⟨_, Heap.get?_push_size _ rfl, rfl, rfl⟩, new, q _ fun H2 e => .inr ⟨rfl, SqT.of (e.tup hq)⟩⟩
end
theorem StandsAs.go {K : PySem.W.Frag} {a : Addr} {xs : List V} {J : It} {H : Hp} {i : Nat} {x : V} (s : StandsAs K a xs J H) (h : xs[i]? = some x) : J.go i H := by
  rcases s with ⟨rfl, q⟩ | ⟨rfl, q⟩ <;> exact ⟨xs, x, q, h⟩
theorem StandsAs.stop {K : PySem.W.Frag} {a : Addr} {xs : List V} {J : It} {H : Hp} {i : Nat} (s : StandsAs K a xs J H) (h : xs.length ≤ i) : J.stop i H := by
  rcases s with ⟨rfl, q⟩ | ⟨rfl, q⟩ <;> exact ⟨xs, q, h⟩
theorem StandsAs.yld {K : PySem.W.Frag} {a : Addr} {xs : List V} {J : It} {H H' : Hp} {i : Nat} {x : V} (s : StandsAs K a xs J H) (h : J.yld i H x H') : H' = H ∧ xs[i]? = some x := by
  rcases s with ⟨rfl, q⟩ | ⟨rfl, q⟩ <;> exact ⟨h.1, h.2 xs q⟩
end CL
set_option Elab.async false
set_option linter.all false
set_option maxRecDepth 100000
set_option maxHeartbeats 4000000
namespace CL
open PySem PySem.Spec PyProof.Rows L2 GE
def topS (i : Nat) : Stmt := PySem.Challenge.pw_comersline_k43_whole_safe_ones_served.main.body.getD i (.Pass ⟨0, 0, 0, 0⟩)
abbrev sWhole : Stmt := topS 7
abbrev sPat : Stmt := topS 10
theorem scWhole : FnScope ["thing"] ["thing"] (defScope sWhole) := ⟨rfl, rfl, rfl, by decide +kernel, rfl, by decide +kernel, by decide +kernel⟩
theorem scPat : FnScope ["thing"] ["thing"] (defScope sPat) := ⟨rfl, rfl, rfl, by decide +kernel, rfl, by decide +kernel, by decide +kernel⟩
/-- a def that may be called by its name -/
structure Cal (P : Program) (w : World) (K : PySem.W.Frag) (mg : Str → Option Value) (base : Heap) (k : Nat) (x : Str) (ps : List Str) (sp : Sp) : Prop where
  ex : ∃ f fd, mg x = some (.ref f) ∧ PySem.W.keepIn K (.ref f) = true ∧ Binds K fd ps [] ∧ FnOk P w K mg base CX0 k f fd ps sp
theorem pe_cal {X : Cx} {k : Nat} {x : Str} {ps : List Str} {sp : Sp} {p pos : Pos} {e : Expr} {es : List Expr} {t : TA} (C : Cal X.prog X.w X.K X.mg X.base k x ps sp) (hr : Room k X.A) (hg : Gl X x) (ha : PA X (e :: es) t) (hdb : (x == ("__debug__" : Str)) = false := by decide)
    (he : starEach (e :: es) X.env = (false, eval e X.env) :: starEach es X.env := by rfl) (hpl : (backTo pos (starEach es X.env)).any (·.1) = false := by rfl) : PE X (.Call (.Name x p) (e :: es) [] pos) (tCall sp [] E0 t) := by
  obtain ⟨f, fd, h1, h2, h3, h4⟩ := C.ex
  exact pe_call h4 hr hg h1 h2 h3 .nil pass0 ha hdb he hpl
theorem Cal.mono {P : Program} {w : World} {K : PySem.W.Frag} {mg : Str → Option Value} {base : Heap} {j k : Nat} {x : Str} {ps : List Str} {sp : Sp} (C : Cal P w K mg base j x ps sp) (h : j ≤ k) : Cal P w K mg base k x ps sp := by
  obtain ⟨f, fd, h1, h2, h3, h4⟩ := C.ex
  exact ⟨f, fd, h1, h2, h3, h4.mono h⟩
/-- names that are still the built-in ones, and constants -/
structure Nm (mg : Str → Option Value) : Prop where
  isi : mg "isinstance" = none
  len : mg "len" = none
  int : mg "int" = none
  bool : mg "bool" = none
  list : mg "list" = none
  range : mg "range" = none
  min : mg "min" = none
  great : ∃ t, mg "GREATEST" = some (.int GREAT t)
def spOne (g : PyData → Bool) : Sp := fun vs H Q _ => ∃ v d, vs = [v] ∧ Rp H v d ∧ ∀ H', Same H H' → Q (.bl (g d)) H'
theorem spOne_len {g : PyData → Bool} : ∀ vs H Q E, spOne g vs H Q E → vs.length = 1 := fun vs H Q E ⟨v, d, e, _⟩ => by rw [e]; rfl
section
variable {P : Program} {w : World} {K : PySem.W.Frag} {mg : Str → Option Value} {base : Heap}
theorem ok_whole {f : Addr} {fd : FuncData} (F : Fun K "is_whole" "is_whole" sWhole f fd) (T : Nm mg) : FnOk P w K mg base CX0 1 f fd ["thing"] (spOne isWhole) := by
  refine F.ok scWhole spOne_len (fun cdv A outer s H vs Q E hr h => ?_)
  obtain ⟨v, d, rfl, hR, q⟩ := h
  refine ⟨_, pss_one (ps_ret (pe_and (pe_callB call_isi (by rfl) T.isi (by decide +kernel) (pa_cons (pv 0) (pa_cons (pe_bltn (v := .ty "int") (by rfl) T.int PyProof.Rows.boot_int rfl) pa_nil)))
    (pe_one (pe_not (pe_callB call_isi (by rfl) T.isi (by decide +kernel) (pa_cons (pv 0) (pa_cons (pe_bltn (v := .ty "bool") (by rfl) T.bool PyProof.Rows.boot_bool rfl) pa_nil))))))), ?_⟩
  refine ⟨v, rfl, v, .ty "int", _, _, isIntB d, rfl, .ty _, hR.ty, kit_int d, isIntB d, rfl, ite2 (fun e => ?_) (fun e => ?_)⟩
  · refine ⟨v, rfl, v, .ty "bool", _, _, isBoolB d, rfl, .ty _, hR.ty, kit_bool d, isBoolB d, rfl, ?_⟩
    have z : (!isBoolB d) = isWhole d := by cases d <;> first | rfl | (exact absurd e Bool.false_ne_true)
    rw [z]
    exact q H (Same.refl H)
  · have z : isWhole d = false := by cases d <;> first | rfl | (exact absurd rfl e)
    have q' := q H (Same.refl H)
    rw [z] at q'
    exact q'
theorem ok_pat {f : Addr} {fd : FuncData} (F : Fun K "is_patience" "is_patience" sPat f fd) (T : Nm mg) (CW : Cal P w K mg base 1 "is_whole" ["thing"] (spOne isWhole)) : FnOk P w K mg base CX0 2 f fd ["thing"] (spOne isPatience) := by
  refine F.ok scPat spOne_len (fun cdv A outer s H vs Q E hr h => ?_)
  obtain ⟨v, d, rfl, hR, q⟩ := h
  obtain ⟨tg, hgr⟩ := T.great
  refine ⟨_, pss_one (ps_ret (pe_or (pe_cmp (pc_isN (pv 0)) rfl) (pe_one (pe_and (pe_cal CW hr (by rfl) (pa_cons (pv 0) pa_nil))
    (pe_one (pe_chain op_le op_le pe_int (pv 0) (pe_glob (v := .int GREAT) (by rfl) hgr ⟨_, rfl⟩))))))), ?_⟩
  refine ⟨v, rfl, decide (v = .non), rfl, ite2 (fun e => ?_) (fun e => ?_)⟩
  · have ev : v = .non := of_decide_eq_true e
    subst ev
    cases hR
    exact q H (Same.refl H)
  · have nv : v ≠ .non := fun z => e (decide_eq_true z)
    refine ⟨v, rfl, v, d, rfl, hR, fun H1 s1 => ⟨isWhole d, rfl, ite2 (fun e2 => ?_) (fun e2 => ?_)⟩⟩
    · cases hR with
      | int i =>
        refine ⟨.int i, rfl, 0, i, rfl, rfl, decide (0 ≤ i), rfl, ite2 (fun e3 => ?_) (fun e3 => ?_)⟩
        · refine ⟨i, GREAT, rfl, rfl, ?_⟩
          have q' := q H1 s1
          have z : isPatience (.int i) = decide (i ≤ GREAT) := by
            show (decide (0 ≤ i) && decide (i ≤ GREAT)) = _
            rw [e3, Bool.true_and]
          rw [z] at q'
          exact q'
        · have q' := q H1 s1
          have z : isPatience (.int i) = false := by
            show (decide (0 ≤ i) && decide (i ≤ GREAT)) = _
            rw [Bool.eq_false_iff.mpr e3, Bool.false_and]
          rw [z] at q'
          exact q'
      | _ => exact absurd e2 Bool.false_ne_true
    · have q' := q H1 s1
      have z : isPatience d = false := by
        cases hR with
        | non => exact absurd rfl nv
        | int i => exact absurd rfl e2
        | _ => rfl
      rw [z] at q'
      exact q'
end
theorem all_take {p : PyData → Bool} {ds : List PyData} {i : Nat} {d : PyData} (h : ds[i]? = some d) : (ds.take (i + 1)).all p = ((ds.take i).all p && p d) := by
  rw [List.take_add_one, h, List.all_append]
  simp
theorem any_take {p : PyData → Bool} {ds : List PyData} {i : Nat} {d : PyData} (h : ds[i]? = some d) : (ds.take (i + 1)).any p = ((ds.take i).any p || p d) := by
  rw [List.take_add_one, h, List.any_append]
  simp
theorem all_false {p : PyData → Bool} {ds : List PyData} {i : Nat} {d : PyData} (h : ds[i]? = some d) (e : p d = false) : ds.all p = false := by
  rw [List.all_eq_false]
  exact ⟨d, List.mem_of_getElem? h, by rw [e]; exact Bool.false_ne_true⟩
theorem any_true {p : PyData → Bool} {ds : List PyData} {i : Nat} {d : PyData} (h : ds[i]? = some d) (e : p d = true) : ds.any p = true := by
  rw [List.any_eq_true]
  exact ⟨d, List.mem_of_getElem? h, e⟩
theorem name_yes {i : Nat} {x : V} {σ : L2.St} {H : Hp} {A B : L2.St → Hp → Prop} (h : A (σ.set i (some x)) H) : gName i x σ H (fun σ2 H2 => tYes σ2 H2 fun b H3 => if b = true then A σ2 H3 else B σ2 H3) := by
  show if true = true then A (σ.set i (some x)) H else B (σ.set i (some x)) H
  exact iteT h
theorem nd1 {x : Str} : [x].Nodup := by simp
theorem p18 : (10 : Int) ^ (18 : Int).toNat = 1000000000000000000 := by decide +kernel
theorem p30 : (10 : Int) ^ (30 : Int).toNat = GREAT := by decide +kernel
theorem same_ne {H H' : Hp} (s : Same H H') {p b : Addr} (np : H' p = none) (hb : H b ≠ none) : b ≠ p := fun z => by
  rw [z] at hb
  cases q : H p with
  | none => exact hb q
  | some o =>
    rw [s p o q] at np
    cases np
theorem ints_dp {K : PySem.W.Frag} {H : Hp} : ∀ gs : List Int, DpAll K H (gs.map V.int) (gs.map PyData.int)
  | [] => .nil
  | x :: gs => .cons (.int x) (ints_dp gs)
theorem ints_lay : ∀ gs : List Int, PyData.canLayAll0 (gs.map PyData.int) = true
  | [] => by simp [PyData.canLayAll0]
  | x :: gs => by
    have := ints_lay gs
    simp [PyData.canLayAll0, PyData.canLay0, this]
theorem ints_depth : ∀ gs : List Int, PyData.depthAll (gs.map PyData.int) = 0
  | [] => rfl
  | x :: gs => by
    have := ints_depth gs
    show max 0 (PyData.depthAll (gs.map PyData.int)) = 0
    rw [this]
    rfl
theorem ints_shaped (gs : List Int) : SeqAt.shaped (.list (gs.map PyData.int)) = true := by
  unfold SeqAt.shaped
  have h1 : PyData.canLay0 (.list (gs.map PyData.int)) = true := by
    have := ints_lay gs
    simp [PyData.canLay0, this]
  have h2 : PyData.depth (.list (gs.map PyData.int)) = 1 := by
    show PyData.depthAll (gs.map PyData.int) + 1 = 1
    rw [ints_depth]
  rw [h1, h2]
  rfl
theorem ints_take (gs : List Int) (k : Nat) : (gs.map V.int).take k = (gs.take k).map V.int := List.map_take.symm
theorem cut_to (xs : List V) (k : Nat) : cutV xs none (some (k : Int)) = xs.take k := by
  unfold cutV
  have e0 : HT.sIx xs.length 0 none = 0 := rfl
  have e1 : HT.sIx xs.length xs.length (some (k : Int)) = min k xs.length := HT.sIx_nat _ _ _
  rw [e0, e1, List.drop_zero, Nat.sub_zero]
  rcases Nat.le_total k xs.length with h | h
  · rw [Nat.min_eq_left h]
  · rw [Nat.min_eq_right h, List.take_of_length_le h, List.take_of_length_le (Nat.le_refl _)]
theorem cut_from (xs : List V) (k : Nat) : cutV xs (some (k : Int)) none = xs.drop k := by
  unfold cutV
  have e0 : HT.sIx xs.length 0 (some (k : Int)) = min k xs.length := HT.sIx_nat _ _ _
  have e1 : HT.sIx xs.length xs.length none = xs.length := rfl
  rw [e0, e1]
  rcases Nat.le_total k xs.length with h | h
  · rw [Nat.min_eq_left h]
    exact List.take_of_length_le (by rw [List.length_drop]; exact Nat.le_refl _)
  · rw [Nat.min_eq_right h, List.drop_of_length_le (Nat.le_refl _), List.drop_of_length_le h]
    simp
theorem small_add {a b : Nat} (ha : a ≤ 1000) (hb : b ≤ 1000) : a + b ≤ sizeLine := by
  have : 2000 ≤ sizeLine := by decide
  omega
theorem small_le {a : Nat} (ha : a ≤ 1000) : a ≤ sizeLine := by
  have : 1000 ≤ sizeLine := by decide
  omega
theorem yesT {σ : L2.St} {H : Hp} {A B : Hp → Prop} (h : A H) : tYes σ H (fun b H3 => if b = true then A H3 else B H3) := by
  show if true = true then A H else B H
  exact iteT h
open Classical in
noncomputable def Hw (W : Addr → Prop) (H : Hp) : Hp := fun b => if W b then none else H b
theorem Hw.at {W : Addr → Prop} {H : Hp} {b : Addr} (n : ¬ W b) : Hw W H b = H b := by
  unfold Hw
  rw [if_neg n]
theorem Hw.ne {W : Addr → Prop} {H : Hp} {b : Addr} {o : HO} (e : Hw W H b = some o) : ¬ W b := fun z => by
  unfold Hw at e
  rw [if_pos z] at e
  cases e
theorem Hw.sub (W : Addr → Prop) (H : Hp) : Same (Hw W H) H := fun b o e => by rw [Hw.at (Hw.ne e)] at e; exact e
theorem Hw.less {W W' : Addr → Prop} {H : Hp} (h : ∀ b, W b → W' b) : Same (Hw W' H) (Hw W H) := fun b o e => by
  rw [Hw.at fun z => Hw.ne e (h b z)]
  exact Hw.sub W' H b o e
theorem Hw.more {W W' : Addr → Prop} {H : Hp} (h : ∀ b, W' b → W b ∨ H b = none) : Same (Hw W H) (Hw W' H) := fun b o e => by
  have e1 := Hw.sub W H b o e
  rw [Hw.at fun z => (h b z).elim (Hw.ne e) fun q => by rw [q] at e1; cases e1]
  exact e1
theorem hw_upd {W : Addr → Prop} {a : Addr} {H : Hp} {o : HO} (h : W a) : Hw W (upd H a o) = Hw W H := by
  funext b
  by_cases hb : W b
  · unfold Hw
    rw [if_pos hb, if_pos hb]
  · rw [Hw.at hb, Hw.at hb, upd_ne fun z => hb (by rw [z]; exact h)]
theorem Same.hw {W : Addr → Prop} {H H' : Hp} (m : Same H H') : Same (Hw W H) (Hw W H') := fun b o e => by
  rw [Hw.at (Hw.ne e)]
  exact m b o (Hw.sub W H b o e)
theorem Rp.sm {H H' : Hp} (s : Same H H') {v : V} {d : PyData} (h : Rp H v d) : Rp H' v d := Rp.ex (Ex.of s) d v h
theorem RpAll.sm {H H' : Hp} (s : Same H H') {vs : List V} {ds : List PyData} (h : RpAll H vs ds) : RpAll H' vs ds := RpAll.ex (Ex.of s) ds vs h
theorem RpAll.snoc {H : Hp} : ∀ {vs : List V} {ds : List PyData} {v : V} {d : PyData}, RpAll H vs ds → Rp H v d → RpAll H (vs ++ [v]) (ds ++ [d])
  | _, _, _, _, .nil, h => .cons h .nil
  | _, _, _, _, .cons a b, h => .cons a (RpAll.snoc b h)
theorem cut_last (xs : List V) : cutV xs none (some (-1)) = xs.take (xs.length - 1) := by
  unfold cutV
  have e0 : HT.sIx xs.length 0 none = 0 := rfl
  have e1 : HT.sIx xs.length xs.length (some (-1)) = xs.length - 1 := by
    show (if (-1 : Int) < 0 then ((-1 : Int) + (xs.length : Int)).toNat else min (-1 : Int).toNat xs.length) = _
    rw [if_pos (by decide)]
    omega
  rw [e0, e1, List.drop_zero, Nat.sub_zero]
end CL
set_option Elab.async false
set_option linter.all false
set_option maxRecDepth 100000
set_option maxHeartbeats 4000000
namespace CL
open PySem PySem.Spec PyProof.Rows L2 GE
abbrev sBag : Stmt := topS 15
abbrev sStir : Stmt := topS 16
abbrev sDraw : Stmt := topS 17
theorem scBag : FnScope ["script", "total", "cell"] ["script"] (defScope sBag) := ⟨rfl, rfl, rfl, by decide +kernel, rfl, by decide +kernel, by decide +kernel⟩
theorem scStir : FnScope ["number", "place", "one", "two"] ["number", "place"] (defScope sStir) := ⟨rfl, rfl, rfl, by decide +kernel, rfl, by decide +kernel, by decide +kernel⟩
theorem scDraw : FnScope ["bag", "many", "cell", "found"] ["bag", "many"] (defScope sDraw) := ⟨rfl, rfl, rfl, by decide +kernel, rfl, by decide +kernel, by decide +kernel⟩
abbrev MSP : Int := 2305843009213693951
theorem t64 : (2 : Int) ^ 64 = 18446744073709551616 := by decide +kernel
abbrev M60 : Nat := 1000000000000000000
/-- a bag's place, and its cells' -/
structure Bg where
  a : Addr
  c : Addr
/-- the bag: the cells, which is next, what is left of one, how many draws (n at most), a number mixed -/
structure BagAt (n : Nat) (H : Hp) (r : Bg) : Prop where
  ex : ∃ (ns : List Int) (i : Nat) (b k t : Int), H r.a = some (.lst [.ref r.c, .int i, .int b, .int k, .int t]) ∧ H r.c = some (.lst (ns.map V.int)) ∧ i ≤ ns.length ∧ 0 ≤ b ∧ 0 ≤ k ∧ k ≤ n ∧ 0 ≤ t ∧ t < MSP
/-- all but the bag stays -/
structure Mv (r : Bg) (H H' : Hp) : Prop where
  keep : ∀ b o, b ≠ r.a → H b = some o → H' b = some o
theorem Mv.refl (r : Bg) (H : Hp) : Mv r H H := ⟨fun _ _ _ h => h⟩
theorem Mv.of {r : Bg} {H H' : Hp} (s : Same H H') : Mv r H H' := ⟨fun b o _ h => s b o h⟩
theorem Mv.trans {r : Bg} {H H1 H2 : Hp} (a : Mv r H H1) (b : Mv r H1 H2) : Mv r H H2 := ⟨fun c o n h => b.keep c o n (a.keep c o n h)⟩
theorem Mv.upd {r : Bg} {p : Addr} {H H' : Hp} {o : HO} (m : Mv r H H') (hn : H p = none) : Mv r H (upd H' p o) := ⟨fun b x nb e => by
  rw [upd_ne (ne_of_none e hn)]
  exact m.keep b x nb e⟩
theorem BagAt.mono {n m : Nat} {H : Hp} {r : Bg} (h : BagAt n H r) (l : n ≤ m) : BagAt m H r := by
  obtain ⟨ns, i, b, k, t, er, ec, hi, hb, hk, hn, ht⟩ := h
  exact ⟨ns, i, b, k, t, er, ec, hi, hb, hk, by omega, ht⟩
theorem BagAt.same {n : Nat} {r : Bg} {H H' : Hp} (s : Same H H') (hr : BagAt n H r) : BagAt n H' r := by
  obtain ⟨ns, i, b, k, t, er, ec, h⟩ := hr
  exact ⟨ns, i, b, k, t, s _ _ er, s _ _ ec, h⟩
theorem BagAt.some {n : Nat} {r : Bg} {H : Hp} (hr : BagAt n H r) : H r.a ≠ none := by
  obtain ⟨ns, i, b, k, t, er, h⟩ := hr
  rw [er]
  exact nofun
theorem BagAt.someC {n : Nat} {r : Bg} {H : Hp} (hr : BagAt n H r) : H r.c ≠ none := by
  obtain ⟨ns, i, b, k, t, er, ec, h⟩ := hr
  rw [ec]
  exact nofun
/-- a place that is neither -/
structure Off (r : Bg) (p : Addr) : Prop where
  a : p ≠ r.a
  c : p ≠ r.c
theorem BagAt.new {n : Nat} {r : Bg} {p : Addr} {H : Hp} (hr : BagAt n H r) (np : H p = none) : Off r p := ⟨fun z => hr.some (by rw [← z]; exact np), fun z => hr.someC (by rw [← z]; exact np)⟩
theorem BagAt.store {n : Nat} {r : Bg} {p : Addr} {H : Hp} {o : HO} (hr : BagAt n H r) (f : Off r p) : BagAt n (upd H p o) r := by
  obtain ⟨ns, i, b, k, t, er, ec, h⟩ := hr
  exact ⟨ns, i, b, k, t, by rw [upd_ne (Ne.symm f.a)]; exact er, by rw [upd_ne (Ne.symm f.c)]; exact ec, h⟩
theorem BagAt.kx {n : Nat} {r : Bg} {H H' : Hp} (h : BagAt n H r) (e : Ex H H') : BagAt n H' r := by
  obtain ⟨ns, i, b, k, t, er, ec, h⟩ := h
  exact ⟨ns, i, b, k, t, e.lst er, e.lst ec, h⟩
theorem bag_ne {c r : Addr} {H : Hp} {ns : List Int} {vs : List V} (er : H r = some (.lst (.ref c :: vs))) (ec : H c = some (.lst (ns.map V.int))) : c ≠ r := fun z => by
  rw [z, er] at ec
  cases ns with
  | nil => simp at ec
  | cons x ns => simp at ec
theorem mem_keep {r : Bg} {b : Addr} {H H' : Hp} (m : Mv r H H') (n : b ≠ r.a) (h : H b ≠ none) : H' b ≠ none := fun z => by
  cases q : H b with
  | none => exact h q
  | some o =>
    rw [m.keep b o n q] at z
    cases z
def spStir : Sp := fun vs H Q _ => ∃ a b : Int, vs = [.int a, .int b] ∧ 0 ≤ a ∧ a < MSP ∧ 0 ≤ b ∧ b ≤ (M60 : Int) ∧ ∀ x, Q (.int x) H
def spDraw (r : Bg) : Sp := fun vs H Q _ => ∃ (m : Int) (n : Nat), vs = [.ref r.a, .int m] ∧ BagAt n H r ∧ n < M60 ∧ 1 ≤ m ∧ m < 2 ^ 140 ∧ ∀ x H', BagAt (n + 1) H' r → Mv r H H' → 0 ≤ x → x < m → Q (.int x) H'
def spBag (K : PySem.W.Frag) : Sp := fun vs H Q _ => ∃ (a : Addr) (ns : List Int), vs = [.ref a] ∧ SqL K H a (ns.map V.int) ∧ ∀ (r : Bg) H', Same H H' → H r.a = none → BagAt 0 H' r → Q (.ref r.a) H'
section
variable {P : Program} {w : World} {K : PySem.W.Frag} {mg : Str → Option Value} {base : Heap}
theorem ok_stir {f : Addr} {fd : FuncData} (F : Fun K "_law_stir" "_law_stir" sStir f fd) : FnOk P w K mg base CX0 1 f fd ["number", "place"] spStir := by
  refine F.ok scStir (fun vs H Q E ⟨a, b, e, _⟩ => by rw [e]; rfl) (fun cdv A outer s H vs Q E hr h => ?_)
  obtain ⟨a, b, rfl, a0, a1, b0, b1, q⟩ := h
  have nd := scStir.nd
  refine ⟨_, pss_cons (ps_set (i := 2) nd rfl (.inl rfl) (pe_op op_mod (pe_op op_add (pe_op op_add (pe_op op_mul (pv 0) pe_int) (pe_op op_mul (pv 1) pe_int)) pe_int) pe_int))
    (pss_cons (ps_set (i := 3) nd rfl (.inl rfl) (pe_op op_mod (pe_op op_mul (pv 2) (pv 2)) pe_int))
    (pss_one (ps_ret (pe_op op_fdiv (pe_op op_mod (pe_op op_add (pe_op op_add (pe_op op_mul (pv 3) pe_int) (pe_op op_mul (pe_op op_mul (pv 1) (pv 1)) pe_int)) (pe_op op_fdiv (pv 2) pe_int)) pe_int) pe_int)))), ?_⟩
  have a1' : a < 2305843009213693951 := a1
  have b1' : b ≤ 1000000000000000000 := b1
  refine ⟨.int a, rfl, a, 998244353, rfl, rfl, .inr ⟨by decide, by decide⟩, .int b, rfl, b, 1000000007, rfl, rfl, .inr ⟨by decide, by decide⟩, _, _, rfl, rfl, _, 5, rfl, rfl, _, _, rfl, rfl, (by show (0 : Int) < 2305843009213693951; decide), ?_⟩
  show tSeq _ _ _ [some (.int a), some (.int b), some (.int ((a * 998244353 + b * 1000000007 + 5) % 2305843009213693951)), none] H
  generalize hz : (a * 998244353 + b * 1000000007 + 5) % 2305843009213693951 = z
  have z0 : 0 ≤ z := by rw [← hz]; exact Int.emod_nonneg _ (by decide)
  have z1 : z < 2305843009213693951 := by rw [← hz]; exact Int.emod_lt_of_pos _ (by decide)
  refine ⟨.int z, rfl, .int z, rfl, z, z, rfl, rfl, .inl ⟨by rw [t64]; omega, by rw [t64]; omega⟩, _, _, rfl, rfl, (by show (0 : Int) < 2305843009213693951; decide), ?_⟩
  refine ⟨.int (z * z % 2305843009213693951), rfl, z * z % 2305843009213693951, 2860486313, rfl, rfl, .inr ⟨by decide, by decide⟩, .int b, rfl, .int b, rfl, b, b, rfl, rfl, .inl ⟨by rw [t64]; omega, by rw [t64]; omega⟩, _, 48271, rfl, rfl, .inr ⟨by decide, by decide⟩, _, _, rfl, rfl, .int z, rfl, z, 3, rfl, rfl, ⟨by decide, by decide⟩, _, _, rfl, rfl, _, _, rfl, rfl, (by show (0 : Int) < 2305843009213693921; decide), _, _, rfl, rfl, ⟨by decide, by decide⟩, ?_⟩
  exact q _
theorem ok_draw {f : Addr} {r : Bg} {fd : FuncData} (F : Fun K "_law_draw" "_law_draw" sDraw f fd) (hlen : mg "len" = none) (CS : Cal P w K mg base 1 "_law_stir" ["number", "place"] spStir) : FnOk P w K mg base CX0 2 f fd ["bag", "many"] (spDraw r) := by
  refine F.ok scDraw (fun vs H Q E ⟨m, n, e, _⟩ => by rw [e]; rfl) (fun cdv A outer s H vs Q E hr h => ?_)
  obtain ⟨m, n, rfl, ⟨ns, i, b, k, t, er, ec, hi, hb, hk, hn, ht0, ht1⟩, hn1, m1, m2, q⟩ := h
  have nd := scDraw.nd
  refine ⟨_, pss_cons (ps_if (pt_cmpR op_eq (pv 1) pe_int (nomark _)) (pss_one (ps_ret pe_int)) pss_nil)
    (pss_cons (ps_asg (pe_op op_add (pe_ix ix_list (pv 0) pe_int (fun _ _ => rfl)) pe_int) (pg_sub (pv 0) pe_int set_list))
    (pss_cons (ps_if (PW.pt (pw_and (pt_cmpR op_lt (pe_ix ix_list (pv 0) pe_int (fun _ _ => rfl)) pe_int (nomark _)) (pw_and1 (pt_cmpR op_eq (pe_ix ix_list (pv 0) pe_int (fun _ _ => rfl)) (pe_callB call_len_seq (by rfl) hlen PySem.boot_len (pa_cons (pe_ix ix_list (pv 0) pe_int (fun _ _ => rfl)) pa_nil)) (nomark _)))))
      (pss_one (ps_ret (pe_op op_mod (pe_cal CS hr (by rfl) (pa_cons (pe_ix ix_list (pv 0) pe_int (fun _ _ => rfl)) (pa_cons (pe_ix ix_list (pv 0) pe_int (fun _ _ => rfl)) pa_nil))) (pv 1)))) pss_nil)
    (pss_cons (ps_if (pt_cmpR op_lt (pe_ix ix_list (pv 0) pe_int (fun _ _ => rfl)) pe_int (nomark _))
      (pss_cons (ps_set (i := 2) nd rfl (.inl rfl) (pe_ix ix_list (pe_ix ix_list (pv 0) pe_int (fun _ _ => rfl)) (pe_ix ix_list (pv 0) pe_int (fun _ _ => rfl)) (fun _ _ => rfl)))
      (pss_cons (ps_asg (pe_op op_add (pe_ix ix_list (pv 0) pe_int (fun _ _ => rfl)) pe_int) (pg_sub (pv 0) pe_int set_list))
      (pss_cons (ps_if (pt_cmpR op_lt (pv 2) (pe_op op_pow pe_int pe_int) (nomark _)) (pss_one (ps_ret (pe_op op_mod (pe_cal CS hr (by rfl) (pa_cons (pe_op op_mod (pv 2) pe_int) (pa_cons (pe_ix ix_list (pv 0) pe_int (fun _ _ => rfl)) pa_nil))) (pv 1)))) pss_nil)
      (pss_one (ps_asg (pe_op op_sub (pv 2) (pe_op op_pow pe_int pe_int)) (pg_sub (pv 0) pe_int set_list)))))) pss_nil)
    (pss_cons (ps_set (i := 3) nd rfl (.inl rfl) (pe_op op_mod (pe_ix ix_list (pv 0) pe_int (fun _ _ => rfl)) (pv 1)))
    (pss_cons (ps_asg (pe_op op_fdivW (pe_ix ix_list (pv 0) pe_int (fun _ _ => rfl)) (pv 1)) (pg_sub (pv 0) pe_int set_list))
    (pss_one (ps_ret (pv 3)))))))), ?_⟩
  have hcr := bag_ne er ec
  have mdiv : ∀ f : Int, CDivW f m := fun f => wide_div (b := 140) (by omega) (by omega) (by decide) (by decide)
  have mp : (0 : Int) < m := by omega
  refine ⟨.int m, rfl, rfl, _, rfl, ite2 (fun e => ?_) (fun _ => ?_)⟩
  · exact q 0 H (BagAt.mono (n := n) ⟨ns, i, b, k, t, er, ec, hi, hb, hk, hn, ht0, ht1⟩ (Nat.le_succ n)) (Mv.refl r H) (Int.le_refl 0) mp
  -- the counter
  refine ⟨.ref r.a, rfl, r.a, _, 3, .int k, rfl, rfl, SqL.of er, atI_nat (j := 3) rfl, k, 1, rfl, rfl, .ref r.a, rfl, r.a, _, 3, 3, rfl, rfl, er, rfl, ?_⟩
  show tSeq _ _ _ _ (upd H r.a (.lst [.ref r.c, .int i, .int b, .int (k + 1), .int t]))
  have m1' : Mv r H (upd H r.a (.lst [.ref r.c, .int i, .int b, .int (k + 1), .int t])) := ⟨fun b o nb e => by rw [upd_ne nb]; exact e⟩
  have er1 : (upd H r.a (.lst [.ref r.c, .int i, .int b, .int (k + 1), .int t])) r.a = some (.lst [.ref r.c, .int i, .int b, .int (k + 1), .int t]) := upd_same
  generalize upd H r.a (.lst [.ref r.c, .int i, .int b, .int (k + 1), .int t]) = H1 at m1' er1
  have ec1 := m1'.keep r.c _ hcr ec
  have fin1 : ∀ x : Int, Q (.int (x % m)) H1 := fun x => q _ H1 ⟨ns, i, b, k + 1, t, er1, ec1, hi, hb, by omega, by omega, ht0, ht1⟩ m1' (Int.emod_nonneg _ (by omega)) (Int.emod_lt_of_pos _ mp)
  have last : ∀ (H2 : Hp) (i2 : Nat) (b2 : Int) (y : Option V), Mv r H H2 → H2 r.a = some (.lst [.ref r.c, .int i2, .int b2, .int (k + 1), .int t]) → i2 ≤ ns.length → 0 ≤ b2 → ∀ x : Int, x = b2 % m → Q (.int x) (upd H2 r.a (.lst [.ref r.c, .int i2, .int (b2 / m), .int (k + 1), .int t])) := fun H2 i2 b2 y mv e2 hi2 hb2 x hx => by
    rw [hx]
    exact q _ _ ⟨ns, i2, b2 / m, k + 1, t, upd_same, by rw [upd_ne hcr]; exact mv.keep r.c _ hcr ec, hi2, Int.ediv_nonneg hb2 (by omega), by omega, by omega, ht0, ht1⟩ ⟨fun b o nb e => by rw [upd_ne nb]; exact mv.keep b o nb e⟩ (Int.emod_nonneg _ (by omega)) (Int.emod_lt_of_pos _ mp)
  refine ⟨.ref r.a, rfl, r.a, _, 2, .int b, rfl, rfl, SqL.of er1, atI_nat (j := 2) rfl, b, 2, rfl, rfl, decide (b < 2), rfl, ?_⟩
  by_cases hb2 : b < 2
  · rw [decide_eq_true hb2]
    refine iteT ⟨.ref r.a, rfl, r.a, _, 1, .int i, rfl, rfl, SqL.of er1, atI_nat (j := 1) rfl, .ref r.a, rfl, r.a, _, 0, .ref r.c, rfl, rfl, SqL.of er1, atI_nat (j := 0) rfl, r.c, _, rfl, .inl (SqL.of ec1), rfl, _, rfl, ite2 (fun e => ?_) (fun e => ?_)⟩
    · refine ⟨.ref r.a, rfl, r.a, _, 4, .int t, rfl, rfl, SqL.of er1, atI_nat (j := 4) rfl, .ref r.a, rfl, r.a, _, 3, .int (k + 1), rfl, rfl, SqL.of er1, atI_nat (j := 3) rfl, t, k + 1, rfl, ht0, ht1, by omega, by omega, fun x => ?_⟩
      exact ⟨.int m, rfl, x, m, rfl, rfl, mp, fin1 x⟩
    · have hi2 : i < ns.length := by
        rcases Nat.lt_or_ge i ns.length with z | z
        · exact z
        · refine absurd ?_ e
          have : i = ns.length := by omega
          rw [this, List.length_map]
          exact decide_eq_true rfl
      refine ⟨.ref r.a, rfl, r.a, _, 2, .int b, rfl, rfl, SqL.of er1, atI_nat (j := 2) rfl, b, 2, rfl, rfl, decide (b < 2), rfl, ?_⟩
      rw [decide_eq_true hb2]
      refine iteT ?_
      refine ⟨.ref r.a, rfl, r.a, _, 0, .ref r.c, rfl, rfl, SqL.of er1, atI_nat (j := 0) rfl, .ref r.a, rfl, r.a, _, 1, .int i, rfl, rfl, SqL.of er1, atI_nat (j := 1) rfl, r.c, _, i, .int ns[i], rfl, rfl, SqL.of ec1, atI_nat (j := i) (by rw [List.getElem?_map, List.getElem?_eq_getElem hi2]; rfl), ?_⟩
      refine ⟨.ref r.a, rfl, r.a, _, 1, .int i, rfl, rfl, SqL.of er1, atI_nat (j := 1) rfl, i, 1, rfl, rfl, .ref r.a, rfl, r.a, _, 1, 1, rfl, rfl, er1, rfl, ?_⟩
      show tSeq _ _ _ _ (upd H1 r.a (.lst [.ref r.c, .int (i + 1 : Int), .int b, .int (k + 1), .int t]))
      have m2' : Mv r H (upd H1 r.a (.lst [.ref r.c, .int (i + 1 : Int), .int b, .int (k + 1), .int t])) := ⟨fun b o nb e => by rw [upd_ne nb]; exact m1'.keep b o nb e⟩
      have er2 : (upd H1 r.a (.lst [.ref r.c, .int (i + 1 : Int), .int b, .int (k + 1), .int t])) r.a = some (.lst [.ref r.c, .int ((i + 1 : Nat) : Int), .int b, .int (k + 1), .int t]) := by rw [upd_same]; rfl
      generalize upd H1 r.a (.lst [.ref r.c, .int (i + 1 : Int), .int b, .int (k + 1), .int t]) = H2 at m2' er2
      generalize hcell : ns[i] = cell
      have ec2 := m2'.keep r.c _ hcr ec
      refine ⟨.int cell, rfl, 10, 18, rfl, rfl, ⟨by decide, by decide, by decide⟩, cell, _, rfl, rfl, _, rfl, ?_⟩
      rw [show (10 : Int) ^ (18 : Int).toNat = 1000000000000000000 from p18]
      refine ite2 (fun e1 => ?_) (fun e1 => ?_)
      · refine ⟨.int cell, rfl, cell, 2305843009213693951, rfl, rfl, (by show (0 : Int) < 2305843009213693951; decide), .ref r.a, rfl, r.a, _, 3, .int (k + 1), rfl, rfl, SqL.of er2, atI_nat (j := 3) rfl, cell % 2305843009213693951, k + 1, rfl, Int.emod_nonneg _ (by decide), Int.emod_lt_of_pos _ (by decide), by omega, by omega, fun x => ?_⟩
        exact ⟨.int m, rfl, x, m, rfl, rfl, mp, q _ H2 ⟨ns, i + 1, b, k + 1, t, er2, ec2, hi2, hb, by omega, by omega, ht0, ht1⟩ m2' (Int.emod_nonneg _ (by omega)) (Int.emod_lt_of_pos _ mp)⟩
      · have hc18 : 1000000000000000000 ≤ cell := by
          rcases Int.lt_or_le cell 1000000000000000000 with z | z
          · exact absurd (decide_eq_true z) e1
          · exact z
        refine ⟨.int cell, rfl, 10, 18, rfl, rfl, ⟨by decide, by decide, by decide⟩, cell, _, rfl, rfl, .ref r.a, rfl, r.a, _, 2, 2, rfl, rfl, er2, rfl, ?_⟩
        show tSeq _ _ _ _ (upd H2 r.a (.lst [.ref r.c, .int ((i + 1 : Nat) : Int), .int (cell - (10 : Int) ^ (18 : Int).toNat), .int (k + 1), .int t]))
        rw [show (10 : Int) ^ (18 : Int).toNat = 1000000000000000000 from p18]
        have m3' : Mv r H (upd H2 r.a (.lst [.ref r.c, .int ((i + 1 : Nat) : Int), .int (cell - 1000000000000000000), .int (k + 1), .int t])) := ⟨fun b o nb e => by rw [upd_ne nb]; exact m2'.keep b o nb e⟩
        have er3 : (upd H2 r.a (.lst [.ref r.c, .int ((i + 1 : Nat) : Int), .int (cell - 1000000000000000000), .int (k + 1), .int t])) r.a = some (.lst [.ref r.c, .int ((i + 1 : Nat) : Int), .int (cell - 1000000000000000000), .int (k + 1), .int t]) := upd_same
        have hb3 : 0 ≤ cell - 1000000000000000000 := by omega
        generalize cell - 1000000000000000000 = b2 at m3' er3 hb3
        generalize upd H2 r.a (.lst [.ref r.c, .int ((i + 1 : Nat) : Int), .int b2, .int (k + 1), .int t]) = H3 at m3' er3
        exact ⟨.ref r.a, rfl, r.a, _, 2, .int b2, rfl, rfl, SqL.of er3, atI_nat (j := 2) rfl, .int m, rfl, b2, m, rfl, rfl, mp, .ref r.a, rfl, r.a, _, 2, .int b2, rfl, rfl, SqL.of er3, atI_nat (j := 2) rfl, .int m, rfl, b2, m, rfl, rfl, mdiv b2, .ref r.a, rfl, r.a, _, 2, 2, rfl, rfl, er3, rfl, .int (b2 % m), rfl, last H3 (i + 1) b2 none m3' er3 hi2 hb3 _ rfl⟩
  · rw [decide_eq_false hb2]
    refine iteF ⟨.ref r.a, rfl, r.a, _, 2, .int b, rfl, rfl, SqL.of er1, atI_nat (j := 2) rfl, b, 2, rfl, rfl, decide (b < 2), rfl, ?_⟩
    rw [decide_eq_false hb2]
    exact iteF ⟨.ref r.a, rfl, r.a, _, 2, .int b, rfl, rfl, SqL.of er1, atI_nat (j := 2) rfl, .int m, rfl, b, m, rfl, rfl, mp, .ref r.a, rfl, r.a, _, 2, .int b, rfl, rfl, SqL.of er1, atI_nat (j := 2) rfl, .int m, rfl, b, m, rfl, rfl, mdiv b, .ref r.a, rfl, r.a, _, 2, 2, rfl, rfl, er1, rfl, .int (b % m), rfl, last H1 i b none m1' er1 hi hb _ rfl⟩
theorem ok_bag {f : Addr} {fd : FuncData} (F : Fun K "_law_bag" "_law_bag" sBag f fd) (hlist : mg "list" = none) : FnOk P w K mg base CX0 1 f fd ["script"] (spBag K) := by
  refine F.ok scBag (fun vs H Q E ⟨a, ns, e, _⟩ => by rw [e]; rfl) (fun cdv A outer s H vs Q E hr h => ?_)
  obtain ⟨a, ns, rfl, hS, q⟩ := h
  have nd := scBag.nd
  refine ⟨_, pss_cons (ps_set (i := 1) nd rfl (.inl rfl) pe_int)
    (pss_cons (ps_for PassesOwn.never rfl (pi_list (pv 0)) (pg_name (i := 2) nd rfl (.inl rfl))
      (pss_one (ps_set (i := 1) nd rfl (.inl rfl) (pe_op op_mod (pe_op op_add (pe_op op_add (pe_op op_mul (pv 1) pe_int) (pe_op op_mod (pv 2) pe_int)) pe_int) pe_int))))
    (pss_one (ps_ret (pe_lst (pa_cons (pe_callTy call_list_of (by rfl) hlist (by decide +kernel) (pa_cons (pv 0) pa_nil)) (pa_cons pe_int (pa_cons pe_int (pa_cons pe_int (pa_cons (pv 1) pa_nil))))))))), ?_⟩
  refine ⟨.ref a, rfl, a, rfl, ⟨_, hS⟩, for_list (xs := ns.map V.int) (fun i σ H2 => H2 = H ∧ ∃ t y2, σ = [some (.ref a), some (.int t), y2] ∧ 0 ≤ t ∧ t < MSP) ⟨rfl, 1, none, rfl, by decide, by decide⟩
    (fun i σ H2 _ ⟨e, _⟩ => by rw [e]; exact hS) (fun i x σ H2 hx ⟨e, t, y2, es, t0, t1⟩ => ?_) (fun σ H2 ⟨e, t, y2, es, t0, t1⟩ => ?_)⟩
  · subst e es
    obtain ⟨c, rfl⟩ : ∃ c, x = .int c := by
      rw [List.getElem?_map] at hx
      cases q : ns[i]? with
      | none => rw [q] at hx; cases hx
      | some c => rw [q] at hx; cases hx; exact ⟨c, rfl⟩
    exact ⟨.int t, rfl, t, 1000003, rfl, rfl, .inr ⟨by decide, by decide⟩, .int c, rfl, c, _, rfl, rfl, (by show (0 : Int) < 2305843009213693951; decide), _, _, rfl, rfl, _, 1, rfl, rfl, _, _, rfl, rfl, (by show (0 : Int) < 2305843009213693951; decide), rfl, _, some (.int c), rfl, Int.emod_nonneg _ (by decide), Int.emod_lt_of_pos _ (by decide)⟩
  · subst e es
    refine ⟨.ref a, rfl, a, _, rfl, .inl hS, fun l nl => ⟨.int t, rfl, small_le (by show 5 ≤ 1000; decide), fun r nr => ?_⟩⟩
    have s1 : Same H2 (upd H2 l (.lst (ns.map V.int))) := same_upd nl
    have lr : l ≠ r := fun z => by rw [← z, upd_same] at nr; cases nr
    exact q ⟨r, l⟩ _ (s1.trans (same_upd nr)) (s1.free nr) ⟨ns, 0, 0, 0, t, upd_same, by rw [upd_ne lr]; exact upd_same, Nat.zero_le _, Int.le_refl 0, Int.le_refl 0, Int.le_refl 0, t0, t1⟩
end
end CL
set_option Elab.async false
set_option linter.all false
set_option maxRecDepth 100000
set_option maxHeartbeats 4000000
namespace CL
open PySem PySem.Spec PyProof.Rows L2 GE
/-! ### who comes goes past all that let it -/
def goes : Nat → List (Option Int) → Nat × List (Option Int)
  | 0, l => (0, l)
  | p + 1, l => match l[p]? with
    | some (some k) => if k = 0 then (p + 1, l) else goes p (l.set p (some (k - 1)))
    | some none => goes p l
    | none => (p + 1, l)
theorem goes_le : ∀ (p : Nat) (l : List (Option Int)), (goes p l).1 ≤ p ∧ (goes p l).2.length = l.length
  | 0, l => ⟨Nat.le_refl 0, rfl⟩
  | p + 1, l => by
    unfold goes
    split
    · split
      · exact ⟨Nat.le_refl _, rfl⟩
      · have h := goes_le p (l.set p (some (‹Int› - 1)))
        exact ⟨Nat.le_succ_of_le h.1, by rw [h.2, List.length_set]⟩
    · have h := goes_le p l
      exact ⟨Nat.le_succ_of_le h.1, h.2⟩
    · exact ⟨Nat.le_refl _, rfl⟩
theorem goes_zero : ∀ (p : Nat) (l : List (Option Int)) (j : Nat), l[j]? = some (some 0) → (goes p l).2[j]? = some (some 0)
  | 0, l, j, h => h
  | p + 1, l, j, h => by
    unfold goes
    split
    · rename_i k hk
      split
      · exact h
      · rename_i k0
        refine goes_zero p _ j ?_
        rw [List.getElem?_set, if_neg (fun z => ?_)]
        · exact h
        · rw [z, h] at hk
          cases hk
          exact k0 rfl
    · exact goes_zero p l j h
    · exact h
/-- where a nought stands behind, or at, the last of the first g: these are let be -/
theorem goes_drop (g : Nat) : ∀ (p : Nat) (l : List (Option Int)), g + p ≤ l.length → (∃ j, g ≤ j + 1 ∧ j < g + p ∧ l[j]? = some (some 0)) →
    goes p (l.drop g) = ((goes (g + p) l).1 - g, (goes (g + p) l).2.drop g) ∧ g ≤ (goes (g + p) l).1 ∧ (goes (g + p) l).2.take g = l.take g
  | 0, l, hl, ⟨j, h1, h2, h3⟩ => by
    obtain ⟨g', rfl⟩ : ∃ g', g = g' + 1 := ⟨g - 1, by omega⟩
    obtain rfl : j = g' := by omega
    have e : goes (j + 1 + 0) l = (j + 1, l) := by
      show goes (j + 1) l = _
      unfold goes
      rw [h3]
      rfl
    rw [e]
    exact ⟨by simp [goes], Nat.le_refl _, rfl⟩
  | p + 1, l, hl, ⟨j, h1, h2, h3⟩ => by
    have hlt : g + p < l.length := by omega
    have ed : (l.drop g)[p]? = l[g + p]? := List.getElem?_drop
    have es : goes (g + (p + 1)) l = goes (g + p + 1) l := rfl
    rw [es]
    conv => lhs; lhs; unfold goes
    rw [ed]
    have eu : goes (g + p + 1) l = match l[g + p]? with
      | some (some k) => if k = 0 then (g + p + 1, l) else goes (g + p) (l.set (g + p) (some (k - 1)))
      | some none => goes (g + p) l
      | none => (g + p + 1, l) := by conv => lhs; unfold goes
    rw [eu]
    cases q : l[g + p]? with
    | none => rw [List.getElem?_eq_getElem hlt] at q; cases q
    | some o =>
      cases o with
      | none =>
        refine goes_drop g p l (by omega) ⟨j, h1, ?_, h3⟩
        rcases Nat.lt_or_ge j (g + p) with z | z
        · exact z
        · obtain rfl : j = g + p := by omega
          rw [q] at h3; cases h3
      | some k =>
        dsimp only
        by_cases hk : k = 0
        · rw [if_pos hk, if_pos hk]
          exact ⟨by congr 1; show p + 1 = g + p + 1 - g; omega, by show g ≤ g + p + 1; omega, rfl⟩
        · rw [if_neg hk, if_neg hk]
          have hj : j ≠ g + p := fun z => by rw [z, q] at h3; cases h3; exact hk rfl
          obtain ⟨i1, i2, i3⟩ := goes_drop g p (l.set (g + p) (some (k - 1))) (by rw [List.length_set]; omega) ⟨j, h1, by omega, by rw [List.getElem?_set, if_neg (Ne.symm hj)]; exact h3⟩
          have e2 : (l.drop g).set p (some (k - 1)) = (l.set (g + p) (some (k - 1))).drop g := by
            rw [List.drop_set]
            rw [if_neg (by omega)]
            congr 1
            omega
          rw [e2]
          refine ⟨i1, i2, ?_⟩
          rw [i3, List.take_set_of_le (by omega)]
/-! ### a line's state -/
inductive Deed where
  | come (p : Option Int)
  | serve
structure LS where
  xs : List Nat
  rs : List (Option Int)
  ps : List Nat
  sv : List (Nat × Option Int)
  ds : List Deed
def LS.nil : LS := ⟨[], [], [], [], []⟩
def bump (ps : List Nat) : List Nat → List Nat
  | [] => ps
  | y :: ys => bump (ps.set y (ps.getD y 0 + 1)) ys
theorem bump_len : ∀ (ys ps : List Nat), (bump ps ys).length = ps.length
  | [], _ => rfl
  | y :: ys, ps => by
    unfold bump
    rw [bump_len ys, List.length_set]
abbrev LS.k (s : LS) : Nat := (goes s.rs.length s.rs).1
def comeS (s : LS) (p : Option Int) : LS :=
  ⟨s.xs.take s.k ++ s.ps.length :: s.xs.drop s.k, (goes s.rs.length s.rs).2.take s.k ++ p :: (goes s.rs.length s.rs).2.drop s.k, bump s.ps (s.xs.drop s.k) ++ [0], s.sv, s.ds ++ [.come p]⟩
def serveS (s : LS) (x : Nat) (r : Option Int) : LS := ⟨s.xs.tail, s.rs.tail, s.ps, s.sv ++ [(x, r)], s.ds ++ [.serve]⟩
structure LS.Ok (s : LS) : Prop where
  len : s.xs.length = s.rs.length
  lt : ∀ x ∈ s.xs, x < s.ps.length
  tot : s.xs.length + s.sv.length = s.ps.length
  dl : s.ds.length = s.ps.length + s.sv.length
theorem nil_ok : LS.nil.Ok := ⟨rfl, (fun x h => nomatch h), rfl, rfl⟩
theorem LS.Ok.come {s : LS} (h : s.Ok) (p : Option Int) : (comeS s p).Ok := by
  obtain ⟨g1, g2⟩ := goes_le s.rs.length s.rs
  have hl := h.len
  have hps : (comeS s p).ps.length = s.ps.length + 1 := by
    show (bump _ _ ++ [0]).length = _
    rw [List.length_append, bump_len]; rfl
  have hxs : (comeS s p).xs.length = s.xs.length + 1 := by
    show (_ ++ _ :: _).length = _
    rw [List.length_append, List.length_cons, List.length_take, List.length_drop]
    omega
  refine ⟨?_, fun x hx => ?_, ?_, ?_⟩
  · rw [hxs]
    show _ = (_ ++ _ :: _).length
    rw [List.length_append, List.length_cons, List.length_take, List.length_drop, g2]
    omega
  · rw [hps]
    rcases List.mem_append.mp (show x ∈ s.xs.take s.k ++ s.ps.length :: s.xs.drop s.k from hx) with z | z
    · exact Nat.lt_succ_of_lt (h.lt x (List.mem_of_mem_take z))
    · rcases List.mem_cons.mp z with z | z
      · rw [z]; exact Nat.lt_succ_self _
      · exact Nat.lt_succ_of_lt (h.lt x (List.mem_of_mem_drop z))
  · rw [hxs, hps]
    have := h.tot
    show s.xs.length + 1 + s.sv.length = _
    omega
  · rw [hps]
    show (s.ds ++ [_]).length = s.ps.length + 1 + s.sv.length
    rw [List.length_append, h.dl, List.length_singleton]
    omega
theorem LS.Ok.serve {s : LS} (h : s.Ok) {x : Nat} {r : Option Int} {xs : List Nat} (e : s.xs = x :: xs) : (serveS s x r).Ok := by
  have hl := h.len
  refine ⟨?_, fun y hy => h.lt y (List.mem_of_mem_tail (show y ∈ s.xs.tail from hy)), ?_, ?_⟩
  · show s.xs.tail.length = s.rs.tail.length
    rw [List.length_tail, List.length_tail, hl]
  · show s.xs.tail.length + (s.sv ++ [_]).length = s.ps.length
    have := h.tot
    rw [List.length_append, List.length_singleton, List.length_tail, e, List.length_cons] at *
    omega
  · show (s.ds ++ [_]).length = s.ps.length + (s.sv ++ [_]).length
    rw [List.length_append, List.length_append, h.dl, List.length_singleton, List.length_singleton]
    omega
/-! ### the one line serves its front where that is safe -/
structure Beh (g : Nat) (s t : LS) : Prop where
  xs : s.xs = t.xs.drop g
  rs : s.rs = t.rs.drop g
  ps : s.ps = t.ps
  le : g ≤ t.xs.length
  zero : g = 0 ∨ ∃ j, g ≤ j + 1 ∧ t.rs[j]? = some (some 0)
theorem Beh.goes {g : Nat} {s t : LS} (b : Beh g s t) (ht : t.Ok) : CL.goes s.rs.length s.rs = ((CL.goes t.rs.length t.rs).1 - g, (CL.goes t.rs.length t.rs).2.drop g) ∧ g ≤ (CL.goes t.rs.length t.rs).1 ∧ (CL.goes t.rs.length t.rs).2.take g = t.rs.take g := by
  have hl := ht.len
  have hg := b.le
  rw [b.rs]
  rcases b.zero with z | ⟨j, h1, h2⟩
  · subst z
    exact ⟨by simp, Nat.zero_le _, rfl⟩
  · have hj := (List.getElem?_eq_some_iff.mp h2).1
    have h := goes_drop g (t.rs.length - g) t.rs (by omega) ⟨j, h1, by omega, h2⟩
    have e : g + (t.rs.length - g) = t.rs.length := by omega
    rw [e] at h
    rw [List.length_drop]
    exact h
theorem drop_take_cons {α : Type} (l : List α) (a : α) (g k : Nat) (h : g ≤ k) (hk : k ≤ l.length) : (l.take k ++ a :: l.drop k).drop g = (l.drop g).take (k - g) ++ a :: (l.drop g).drop (k - g) := by
  rw [List.drop_append_of_le_length (by rw [List.length_take]; omega), List.drop_take, List.drop_drop]
  congr 3
  omega
theorem take_take_cons {α : Type} (l : List α) (a : α) (g k : Nat) (h : g ≤ k) (hk : k ≤ l.length) : (l.take k ++ a :: l.drop k).take g = l.take g := by
  rw [List.take_append_of_le_length (by rw [List.length_take]; omega), List.take_take, Nat.min_eq_left h]
theorem Beh.come {g : Nat} {s t : LS} (b : Beh g s t) (ht : t.Ok) (p : Option Int) : Beh g (comeS s p) (comeS t p) ∧ (comeS t p).xs.take g = t.xs.take g := by
  obtain ⟨h1, h2, h3⟩ := b.goes ht
  obtain ⟨k1, k2⟩ := goes_le t.rs.length t.rs
  have hl := ht.len
  have hk : s.k = t.k - g := by show (CL.goes s.rs.length s.rs).1 = _; rw [h1]
  have hr : (CL.goes s.rs.length s.rs).2 = (CL.goes t.rs.length t.rs).2.drop g := by rw [h1]
  have hx : (s.xs.drop s.k) = t.xs.drop t.k := by
    rw [hk, b.xs, List.drop_drop]
    congr 1
    show g + ((CL.goes t.rs.length t.rs).1 - g) = (CL.goes t.rs.length t.rs).1
    omega
  refine ⟨⟨?_, ?_, ?_, ?_, ?_⟩, take_take_cons _ _ _ _ h2 (by show (CL.goes t.rs.length t.rs).1 ≤ _; omega)⟩
  · show s.xs.take s.k ++ s.ps.length :: s.xs.drop s.k = (t.xs.take t.k ++ t.ps.length :: t.xs.drop t.k).drop g
    rw [drop_take_cons _ _ _ _ h2 (by show (CL.goes t.rs.length t.rs).1 ≤ _; omega), hk, b.xs, b.ps]
  · show (CL.goes s.rs.length s.rs).2.take s.k ++ p :: (CL.goes s.rs.length s.rs).2.drop s.k = ((CL.goes t.rs.length t.rs).2.take t.k ++ p :: (CL.goes t.rs.length t.rs).2.drop t.k).drop g
    rw [drop_take_cons _ _ _ _ h2 (by show (CL.goes t.rs.length t.rs).1 ≤ _; omega), hk, hr]
  · show bump s.ps (s.xs.drop s.k) ++ [0] = bump t.ps (t.xs.drop t.k) ++ [0]
    rw [hx, b.ps]
  · show g ≤ (_ ++ _ :: _).length
    have := b.le
    rw [List.length_append, List.length_cons, List.length_take, List.length_drop]
    omega
  · rcases b.zero with z | ⟨j, j1, j2⟩
    · exact .inl z
    · refine .inr ?_
      have hz := goes_zero t.rs.length t.rs j j2
      have hkk : t.k = (CL.goes t.rs.length t.rs).1 := rfl
      by_cases hj : j < t.k
      · refine ⟨j, j1, ?_⟩
        show (_ ++ _ :: _)[j]? = _
        rw [List.getElem?_append_left (by rw [List.length_take]; omega), List.getElem?_take, if_pos hj]
        exact hz
      · refine ⟨j + 1, by omega, ?_⟩
        show (_ ++ _ :: _)[j + 1]? = _
        rw [List.getElem?_append_right (by rw [List.length_take]; omega), List.length_take, Nat.min_eq_left (by omega)]
        have e : j + 1 - t.k = (j - t.k) + 1 := by omega
        rw [e, List.getElem?_cons_succ, List.getElem?_drop]
        rw [show t.k + (j - t.k) = j by omega]
        exact hz
theorem Beh.serve {g : Nat} {s t : LS} (b : Beh g s t) (h0 : some 0 ∈ s.rs) {x : Nat} {r : Option Int} {xs : List Nat} (e : s.xs = x :: xs) : Beh (g + 1) (serveS s x r) t ∧ t.xs.take (g + 1) = t.xs.take g ++ [x] := by
  have hx : t.xs.drop g = x :: xs := by rw [← b.xs]; exact e
  have hlt : g < t.xs.length := by
    rcases Nat.lt_or_ge g t.xs.length with z | z
    · exact z
    · rw [List.drop_of_length_le z] at hx; cases hx
  have hget : t.xs[g]? = some x := by
    have : (t.xs.drop g)[0]? = some x := by rw [hx]; rfl
    rw [List.getElem?_drop] at this
    exact this
  refine ⟨⟨?_, ?_, b.ps, hlt, .inr ?_⟩, by rw [List.take_add_one, hget]; rfl⟩
  · show s.xs.tail = _
    rw [b.xs, List.tail_drop]
  · show s.rs.tail = _
    rw [b.rs, List.tail_drop]
  · obtain ⟨j, hj⟩ := List.getElem?_of_mem h0
    rw [b.rs, List.getElem?_drop] at hj
    exact ⟨g + j, by omega, hj⟩
end CL
set_option Elab.async false
set_option linter.all false
set_option maxRecDepth 100000
set_option maxHeartbeats 4000000
namespace CL
open PySem PySem.Spec PyProof.Rows L2 GE
abbrev sLet : Stmt := topS 11
abbrev sLn : Stmt := topS 13
abbrev sInit : Stmt := inClass sLn 0
abbrev sComeM : Stmt := inClass sLn 1
abbrev sServeM : Stmt := inClass sLn 2
abbrev sQueM : Stmt := inClass sLn 5
abbrev sLeftM : Stmt := inClass sLn 6
abbrev sWentM : Stmt := inClass sLn 7
abbrev sLenM : Stmt := inClass sLn 9
theorem scLet : FnScope ["left", "place"] ["left"] (defScope sLet) := ⟨rfl, rfl, rfl, by decide +kernel, rfl, by decide +kernel, by decide +kernel⟩
theorem scInit : FnScope ["self"] ["self"] (defScope sInit) := ⟨rfl, rfl, rfl, by decide +kernel, rfl, by decide +kernel, by decide +kernel⟩
theorem scComeM : FnScope ["self", "patience", "newcomer", "place", "person"] ["self", "patience"] (defScope sComeM) := ⟨rfl, rfl, rfl, by decide +kernel, rfl, by decide +kernel, by decide +kernel⟩
theorem scServeM : FnScope ["self", "person"] ["self"] (defScope sServeM) := ⟨rfl, rfl, rfl, by decide +kernel, rfl, by decide +kernel, by decide +kernel⟩
theorem scQueM : FnScope ["self"] ["self"] (defScope sQueM) := ⟨rfl, rfl, rfl, by decide +kernel, rfl, by decide +kernel, by decide +kernel⟩
theorem scLeftM : FnScope ["self"] ["self"] (defScope sLeftM) := ⟨rfl, rfl, rfl, by decide +kernel, rfl, by decide +kernel, by decide +kernel⟩
theorem scWentM : FnScope ["self", "person"] ["self", "person"] (defScope sWentM) := ⟨rfl, rfl, rfl, by decide +kernel, rfl, by decide +kernel, by decide +kernel⟩
theorem scLenM : FnScope ["self"] ["self"] (defScope sLenM) := ⟨rfl, rfl, rfl, by decide +kernel, rfl, by decide +kernel, by decide +kernel⟩
/-! ### xs[i] -= e -/
theorem get_list {X : Cx} : PGet X (fun x y H Q => ∃ p xs, ∃ i : Nat, ∃ v, x = .ref p ∧ y = .int (i : Int) ∧ SqL X.K H p xs ∧ xs[i]? = some v ∧ Q v H) := by
  intro pins s σ H o k ov iv Q I ro ri h
  obtain ⟨p, xs, i, v, rfl, rfl, hs, hv, q⟩ := h
  cases ro
  obtain ⟨t, rfl⟩ := ri
  obtain ⟨its, r, pl, hz⟩ := I.list hs
  obtain ⟨w, ew, rw'⟩ := r.get hv
  have hn := line63
  have hl : i < xs.length := (List.getElem?_eq_some_iff.mp hv).1
  exact wpAny_getItem_list pl.isList (by omega) (by omega) (by simpa using ew) ⟨v, H, I, rw', q⟩
def optD : Option Int → PyData
  | some i => .int i
  | none => .none
def optV : Option Int → V
  | some i => .int i
  | none => .non
theorem rp_opt2 {H : Hp} : ∀ o : Option Int, Rp H (optV o) (optD o)
  | none => .non
  | some i => .int i
def spLet : Sp := fun vs H Q _ => ∃ (L : Addr) (l : List (Option Int)), vs = [.ref L] ∧ H L = some (.lst (l.map optV)) ∧ l.length ≤ 2000 ∧ ∀ H', (∀ b, b ≠ L → H' b = H b) → H' L = some (.lst ((goes l.length l).2.map optV)) → Q (.int ((goes l.length l).1 : Int)) H'
theorem optV_dp {K : PySem.W.Frag} {H : Hp} : ∀ o : Option Int, Dp K H (optV o) (optD o)
  | none => .non
  | some i => .int i
theorem optD_shaped : ∀ o : Option Int, SeqAt.shaped (optD o) = true
  | none => by decide
  | some i => by unfold SeqAt.shaped; simp [optD, PyData.canLay0, PyData.depth]
theorem optV_ne0 : ∀ o : Option Int, (!PyData.eqv (optD o) (.int 0)) = !decide (o = some 0)
  | none => by simp [optD, PyData.eqv]
  | some i => by
    by_cases h : i = 0
    · subst h; simp [optD, PyData.eqv]
    · simp [optD, PyData.eqv, h]
theorem rp_optV {H : Hp} {v : V} : ∀ {o : Option Int}, Rp H v (optD o) → v = optV o
  | none, h => by cases h; rfl
  | some i, h => by cases h; rfl
theorem ixN_nat {n j : Nat} (h : j < n) : ixN n (j : Int) = some j := by
  unfold ixN
  rw [if_pos (by omega)]
  simp [h]
section
variable {P : Program} {w : World} {K : PySem.W.Frag} {mg : Str → Option Value} {base : Heap}
theorem ok_let {f : Addr} {fd : FuncData} (F : Fun K "let_past" "let_past" sLet f fd) (T : Nm mg) : FnOk P w K mg base CX0 1 f fd ["left"] spLet := by
  refine F.ok scLet (fun vs H Q E ⟨L, l, e, _⟩ => by rw [e]; rfl) (fun cdv A outer s H vs Q E hr h => ?_)
  obtain ⟨L2, l0, rfl, eL, hl0, q⟩ := h
  have nd := scLet.nd
  refine ⟨_, (pss_cons (ps_set (i := 1) nd rfl (.inl rfl) (pe_callB call_len_seq (by rfl) T.len PySem.boot_len (pa_cons (pv 0) pa_nil)))
      (pss_cons (ps_while PassesOwn.never (PW.pt (pw_and (pt_cmpR op_gt (pv 1) pe_int (nomark _)) (pw_and1 (pt_cmpR (op_neD hr.units) (pe_ix ix_list (pv 0) (pe_op op_sub (pv 1) pe_int) (fun _ _ => rfl)) pe_int (nomark _)))))
        (pss_cons (ps_aug (i := 1) nd rfl (.inl rfl) pe_int ip_sub)
        (pss_one (ps_if (pt_cmp (pc_notN (pe_ix ix_list (pv 0) (pv 1) (fun _ _ => rfl)))) (pss_one (ps_augS (pv 0) (pv 1) get_list pe_int ip_sub set_list)) pss_nil))))
      (pss_one (ps_ret (pv 1))))), ?_⟩
  refine ⟨.ref L2, rfl, L2, _, rfl, .inl (SqL.of eL), ?_⟩
  rw [List.length_map]
  refine ⟨fun k σ H3 => ∃ l : List (Option Int), σ = [some (.ref L2), some (.int (k : Int))] ∧ (∀ b, b ≠ L2 → H3 b = H b) ∧ H3 L2 = some (.lst (l.map optV)) ∧ l.length = l0.length ∧ k ≤ l0.length ∧ goes k l = goes l0.length l0,
      ⟨l0.length, l0, rfl, fun b _ => rfl, eL, rfl, Nat.le_refl _, rfl⟩, fun k σ H3 hW => ?_⟩
  obtain ⟨l, rfl, s3, f2, hl, hk, hg⟩ := hW
  have ix : ∀ {b : Nat} {o : Option Int}, l[b]? = some o → (l.map optV)[b]? = some (optV o) := fun {b o} e => by rw [List.getElem?_map, e]; rfl
  have fin : ∀ {k : Nat}, (k, l) = goes l0.length l0 → Q (.int (k : Int)) H3 := fun {k} e => by
    have q' := q H3 s3
    rw [← e] at q'
    exact q' f2
  cases k with
  | zero =>
    refine ⟨.int ((0 : Nat) : Int), rfl, ((0 : Nat) : Int), 0, rfl, rfl, decide ((0 : Int) < ((0 : Nat) : Int)), rfl, iteF ?_⟩
    exact ⟨.int ((0 : Nat) : Int), rfl, fin hg⟩
  | succ k' =>
    have hk' : k' < l.length := by omega
    obtain ⟨o, ho⟩ : ∃ o, l[k']? = some o := ⟨_, List.getElem?_eq_getElem hk'⟩
    have hi1 : ((k' + 1 : Nat) : Int) - 1 = (k' : Int) := by omega
    refine ⟨.int ((k' + 1 : Nat) : Int), rfl, ((k' + 1 : Nat) : Int), 0, rfl, rfl, decide ((0 : Int) < ((k' + 1 : Nat) : Int)), rfl, ?_⟩
    rw [decide_eq_true (by omega : (0 : Int) < ((k' + 1 : Nat) : Int))]
    refine iteT ⟨.ref L2, rfl, .int ((k' + 1 : Nat) : Int), rfl, ((k' + 1 : Nat) : Int), 1, rfl, rfl, L2, _, ((k' + 1 : Nat) : Int) - 1, optV o, rfl, rfl, SqL.of f2, by rw [hi1]; exact atI_nat (ix ho), optD o, .int 0, optV_dp o, .int 0, optD_shaped o, optD_shaped (some 0), _, rfl, ?_⟩
    rw [optV_ne0]
    by_cases hz : o = some 0
    · rw [decide_eq_true hz]
      have hg2 : (k' + 1, l) = goes l0.length l0 := by
        rw [← hg]
        unfold goes
        rw [ho, hz]
        rfl
      exact iteF ⟨.int ((k' + 1 : Nat) : Int), rfl, fin hg2⟩
    · rw [decide_eq_false hz]
      cases o with
      | none =>
        have hg2 : goes k' l = goes l0.length l0 := by
          rw [← hg]
          conv => rhs; unfold goes
          rw [ho]
        refine iteT ⟨fun σ' H'' => σ' = [some (.ref L2), some (.int (((k' + 1 : Nat) : Int) - 1))] ∧ H'' = H3, fun σ' H'' z => ⟨k', Nat.lt_succ_self k', l, by rw [z.1, hi1], by rw [z.2]; exact s3, by rw [z.2]; exact f2, hl, by omega, hg2⟩, ?_⟩
        refine ⟨.int ((k' + 1 : Nat) : Int), rfl, ((k' + 1 : Nat) : Int), 1, rfl, rfl, .ref L2, rfl, .int (((k' + 1 : Nat) : Int) - 1), rfl, L2, _, ((k' + 1 : Nat) : Int) - 1, optV none, rfl, rfl, SqL.of f2, by rw [hi1]; exact atI_nat (ix ho), _, rfl, iteF ⟨rfl, rfl⟩⟩
      | some j =>
        have hj0 : j ≠ 0 := fun z => hz (by rw [z])
        have hg2 : goes k' (l.set k' (some (j - 1))) = goes l0.length l0 := by
          rw [← hg]
          conv => rhs; unfold goes
          rw [ho]
          exact (if_neg hj0).symm
        refine iteT ⟨fun σ' H'' => σ' = [some (.ref L2), some (.int (((k' + 1 : Nat) : Int) - 1))] ∧ H'' = upd H3 L2 (.lst ((l.set k' (some (j - 1))).map optV)), fun σ' H'' z => ⟨k', Nat.lt_succ_self k', l.set k' (some (j - 1)), by rw [z.1, hi1], by rw [z.2]; exact fun b hb => by rw [upd_ne hb]; exact s3 b hb, by rw [z.2]; exact upd_same, by rw [List.length_set]; exact hl, by omega, hg2⟩, ?_⟩
        refine ⟨.int ((k' + 1 : Nat) : Int), rfl, ((k' + 1 : Nat) : Int), 1, rfl, rfl, .ref L2, rfl, .int (((k' + 1 : Nat) : Int) - 1), rfl, L2, _, ((k' + 1 : Nat) : Int) - 1, optV (some j), rfl, rfl, SqL.of f2, by rw [hi1]; exact atI_nat (ix ho), _, rfl, iteT ?_⟩
        refine ⟨.ref L2, rfl, .int (((k' + 1 : Nat) : Int) - 1), rfl, L2, _, k', optV (some j), rfl, by rw [hi1], SqL.of f2, ix ho, j, 1, rfl, rfl, L2, _, (k' : Int), k', rfl, by rw [hi1], f2, ixN_nat (by rw [List.length_map]; exact hk'), rfl, ?_⟩
        rw [List.map_set]
        first | rfl | exact ⟨rfl, rfl⟩
end
/-- people by their numbers, as values -/
def ppl (xs : List Nat) : List V := xs.map fun x : Nat => V.int (x : Int)
theorem ppl_len (xs : List Nat) : (ppl xs).length = xs.length := List.length_map ..
theorem ppl_get {xs : List Nat} {i : Nat} (h : i < xs.length) : (ppl xs)[i]? = some (.int (xs[i] : Int)) := by
  unfold ppl
  rw [List.getElem?_map, List.getElem?_eq_getElem h]
  rfl
theorem small1000 {n : Nat} (h : n < 1000) : n < sizeLine := by
  have : 1000 ≤ sizeLine := by decide
  omega
theorem seq_nat {n j : Nat} (h : j < n) : seqIndex? (j : Int) n = some j := by
  unfold seqIndex?
  have h1 : ¬ ((j : Int) < 0) := by omega
  simp [h1, h]
theorem bump_snoc : ∀ (ys ps : List Nat) (y : Nat), bump ps (ys ++ [y]) = (bump ps ys).set y ((bump ps ys).getD y 0 + 1)
  | [], ps, y => rfl
  | x :: ys, ps, y => bump_snoc ys _ y
/-! ### the class, and a line's places -/
structure LnT (K : PySem.W.Frag) (mg : Str → Option Value) (C : Addr) : Prop where
  cl : Cls K C
  n_pe : NoAttr K C "people"
  n_re : NoAttr K C "rest"
  n_pa : NoAttr K C "past"
  n_se : NoAttr K C "served"
  n_de : NoAttr K C "deeds"
  mgC : mg "Line" = some (.ref C)
structure LnA where
  o : Addr
  pe : Addr
  re : Addr
  pa : Addr
  se : Addr
  de : Addr
def LnA.has (L : LnA) (b : Addr) : Prop := b = L.pe ∨ b = L.re ∨ b = L.pa ∨ b = L.se ∨ b = L.de
structure Flds (fs : List (Str × V)) (L : LnA) : Prop where
  pe : fs.lookup ("people" : Str) = some (V.ref L.pe)
  re : fs.lookup ("rest" : Str) = some (V.ref L.re)
  pa : fs.lookup ("past" : Str) = some (V.ref L.pa)
  se : fs.lookup ("served" : Str) = some (V.ref L.se)
  de : fs.lookup ("deeds" : Str) = some (V.ref L.de)
  no : ∀ m : Str, m ≠ "people" → m ≠ "rest" → m ≠ "past" → m ≠ "served" → m ≠ "deeds" → fs.lookup m = none
def ServV (H : Hp) (v : V) (x : Nat × Option Int) : Prop := ∃ t, v = .ref t ∧ H t = some (.tup [.int (x.1 : Int), optV x.2])
def DeedV (H : Hp) (v : V) : Deed → Prop
  | .come p => ∃ t, v = .ref t ∧ H t = some (.tup [.str "come", optV p])
  | .serve => ∃ t, v = .ref t ∧ H t = some (.tup [.str "serve"])
inductive All2 {α : Type} (R : V → α → Prop) : List V → List α → Prop
  | nil : All2 R [] []
  | cons {v : V} {x : α} {vs : List V} {xs : List α} : R v x → All2 R vs xs → All2 R (v :: vs) (x :: xs)
theorem All2.length {α : Type} {R : V → α → Prop} : ∀ {vs : List V} {xs : List α}, All2 R vs xs → vs.length = xs.length
  | _, _, .nil => rfl
  | _, _, .cons _ t => congrArg (· + 1) (All2.length t)
theorem All2.imp {α : Type} {R R' : V → α → Prop} (h : ∀ v x, R v x → R' v x) : ∀ {vs : List V} {xs : List α}, All2 R vs xs → All2 R' vs xs
  | _, _, .nil => .nil
  | _, _, .cons a t => .cons (h _ _ a) (All2.imp h t)
theorem All2.snoc {α : Type} {R : V → α → Prop} : ∀ {vs : List V} {xs : List α} {v : V} {x : α}, All2 R vs xs → R v x → All2 R (vs ++ [v]) (xs ++ [x])
  | _, _, _, _, .nil, h => .cons h .nil
  | _, _, _, _, .cons a t, h => .cons a (All2.snoc t h)
structure LineAt (C : Addr) (H : Hp) (L : LnA) (s : LS) : Prop where
  ob : ∃ dx fs, H L.o = some (.ins C dx fs) ∧ Flds fs L
  pe : H L.pe = some (.lst (ppl s.xs))
  re : H L.re = some (.lst (s.rs.map optV))
  pa : H L.pa = some (.lst (ppl s.ps))
  se : ∃ vs, H L.se = some (.lst vs) ∧ All2 (ServV H) vs s.sv
  de : ∃ vs, H L.de = some (.lst vs) ∧ All2 (DeedV H) vs s.ds
  nd : [L.pe, L.re, L.pa, L.se, L.de].Nodup
  ok : s.Ok
/-- all but a line's own lists stays -/
structure MvL (L : LnA) (H H' : Hp) : Prop where
  keep : ∀ b o, ¬ L.has b → H b = some o → H' b = some o
theorem MvL.refl (L : LnA) (H : Hp) : MvL L H H := ⟨fun _ _ _ h => h⟩
theorem MvL.trans {L : LnA} {H H1 H2 : Hp} (a : MvL L H H1) (b : MvL L H1 H2) : MvL L H H2 := ⟨fun c o n h => b.keep c o n (a.keep c o n h)⟩
theorem MvL.of {L : LnA} {H H' : Hp} (s : Same H H') : MvL L H H' := ⟨fun b o _ h => s b o h⟩
theorem MvL.upd {L : LnA} {H H' : Hp} {p : Addr} {o : HO} (m : MvL L H H') (h : L.has p) : MvL L H (L2.upd H' p o) := ⟨fun b x nb e => by
  rw [upd_ne fun z => nb (by rw [z]; exact h)]
  exact m.keep b x nb e⟩
theorem MvL.new {L : LnA} {H H' : Hp} {p : Addr} {o : HO} (m : MvL L H H') (h : H' p = none) : MvL L H (L2.upd H' p o) := m.trans (MvL.of (same_upd h))
section
variable {C : Addr} {H H' : Hp} {L : LnA} {s : LS}
theorem LineAt.isl (h : LineAt C H L s) {b : Addr} (hb : L.has b) : ∃ vs, H b = some (.lst vs) := by
  rcases hb with rfl | rfl | rfl | rfl | rfl
  · exact ⟨_, h.pe⟩
  · exact ⟨_, h.re⟩
  · exact ⟨_, h.pa⟩
  · obtain ⟨vs, e, _⟩ := h.se; exact ⟨vs, e⟩
  · obtain ⟨vs, e, _⟩ := h.de; exact ⟨vs, e⟩
theorem LineAt.nol (h : LineAt C H L s) {b : Addr} {o : HO} (e : H b = some o) (n : ∀ vs, o ≠ .lst vs) : ¬ L.has b := fun hb => by
  obtain ⟨vs, z⟩ := h.isl hb
  rw [e] at z
  exact n vs (Option.some.inj z)
theorem ServV.kx {v : V} {x : Nat × Option Int} (k : ∀ t ys, H t = some (.tup ys) → H' t = some (.tup ys)) (h : ServV H v x) : ServV H' v x := by
  obtain ⟨t, e, q⟩ := h
  exact ⟨t, e, k t _ q⟩
theorem DeedV.kx {v : V} {d : Deed} (k : ∀ t ys, H t = some (.tup ys) → H' t = some (.tup ys)) (h : DeedV H v d) : DeedV H' v d := by
  cases d with
  | come p => obtain ⟨t, e, q⟩ := h; exact ⟨t, e, k t _ q⟩
  | serve => obtain ⟨t, e, q⟩ := h; exact ⟨t, e, k t _ q⟩
/-- a line whose own places stay, stays -/
theorem LineAt.kx (h : LineAt C H L s) (k : ∀ b o, (L.has b ∨ ∀ vs, o ≠ .lst vs) → H b = some o → H' b = some o) : LineAt C H' L s := by
  obtain ⟨dx, fs, ho, hf⟩ := h.ob
  obtain ⟨vs, e1, a1⟩ := h.se
  obtain ⟨ws, e2, a2⟩ := h.de
  have kt : ∀ t ys, H t = some (.tup ys) → H' t = some (.tup ys) := fun t ys e => k t _ (.inr fun _ => nofun) e
  exact ⟨⟨dx, fs, k _ _ (.inr fun _ => nofun) ho, hf⟩, k _ _ (.inl (.inl rfl)) h.pe, k _ _ (.inl (.inr (.inl rfl))) h.re, k _ _ (.inl (.inr (.inr (.inl rfl)))) h.pa, ⟨vs, k _ _ (.inl (.inr (.inr (.inr (.inl rfl))))) e1, a1.imp fun _ _ => ServV.kx kt⟩, ⟨ws, k _ _ (.inl (.inr (.inr (.inr (.inr rfl))))) e2, a2.imp fun _ _ => DeedV.kx kt⟩, h.nd, h.ok⟩
theorem LineAt.same (h : LineAt C H L s) (m : Same H H') : LineAt C H' L s := h.kx fun b o _ e => m b o e
/-- one line's deeds are nothing to another one -/
theorem LineAt.other {C' : Addr} {L' : LnA} {s' : LS} (h : LineAt C H L s) (h' : LineAt C' H L' s') (d : ∀ b, L.has b → ¬ L'.has b) (m : MvL L' H H') : LineAt C H' L s := h.kx fun b o hb e => m.keep b o (hb.elim (d b) (h'.nol e)) e
theorem nodup5 {a b c d e : Addr} (h : [a, b, c, d, e].Nodup) : a ≠ b ∧ a ≠ c ∧ a ≠ d ∧ a ≠ e ∧ b ≠ c ∧ b ≠ d ∧ b ≠ e ∧ c ≠ d ∧ c ≠ e ∧ d ≠ e := by
  simp only [List.nodup_cons, List.mem_cons, List.not_mem_nil, or_false, not_or, List.nodup_nil, and_true] at h
  obtain ⟨⟨h1, h2, h3, h4⟩, ⟨h5, h6, h7⟩, ⟨h8, h9⟩, h10, _⟩ := h
  exact ⟨h1, h2, h3, h4, h5, h6, h7, h8, h9, h10⟩
end
/-! ### what each method promises -/
def spInit (C : Addr) : Sp := fun vs H Q _ => ∃ o dx, vs = [.ref o] ∧ H o = some (.ins C dx []) ∧ ∀ (L : LnA) H', L.o = o → (∀ b, L.has b → H b = none) → LineAt C H' L LS.nil → (∀ b x, b ≠ o → H b = some x → H' b = some x) → Q .non H'
def spComeM (C : Addr) : Sp := fun vs H Q _ => ∃ (L : LnA) (s : LS) (p : Option Int), vs = [.ref L.o, optV p] ∧ LineAt C H L s ∧ isPatience (optD p) = true ∧ s.ps.length ≤ 400 ∧ ∀ H', LineAt C H' L (comeS s p) → MvL L H H' → Q (.int (s.ps.length : Int)) H'
def spServeM (C : Addr) : Sp := fun vs H Q _ => ∃ (L : LnA) (s : LS) (x : Nat) (xs : List Nat), vs = [.ref L.o] ∧ LineAt C H L s ∧ s.xs = x :: xs ∧ s.ps.length ≤ 400 ∧ ∀ H' r, s.rs.head? = some r → LineAt C H' L (serveS s x r) → MvL L H H' → Q (.int (x : Int)) H'
def spQueM (C : Addr) : Sp := fun vs H Q _ => ∃ (L : LnA) (s : LS), vs = [.ref L.o] ∧ LineAt C H L s ∧ ∀ p, H p = none → Q (.ref p) (upd H p (.lst (ppl s.xs)))
def spLeftM (C : Addr) : Sp := fun vs H Q _ => ∃ (L : LnA) (s : LS), vs = [.ref L.o] ∧ LineAt C H L s ∧ ∀ p, H p = none → Q (.ref p) (upd H p (.lst (s.rs.map optV)))
def spWentM (C : Addr) : Sp := fun vs H Q _ => ∃ (L : LnA) (s : LS) (x : Nat) (h : x < s.ps.length), vs = [.ref L.o, .int (x : Int)] ∧ LineAt C H L s ∧ ∀ H', Same H H' → Q (.int (s.ps[x] : Int)) H'
def spLenM (C : Addr) : Sp := fun vs H Q _ => ∃ (L : LnA) (s : LS), vs = [.ref L.o] ∧ LineAt C H L s ∧ Q (.int (s.xs.length : Int)) H
theorem init_one {K : PySem.W.Frag} {D : Ends} {σ : L2.St} {G : Hp} {o C dx : Addr} {fs : List (Str × V)} {f : Str} {n : Nat} (h0 : σ[0]? = some (some (.ref o))) (ho : G o = some (.ins C dx fs)) (hc : Cls K C) (hn : NoAttr K C f) (hl : fs.length ≤ n) (h9 : n < 900)
    (q : ∀ p, G p = none → ∀ G', G' o = some (.ins C dx (putF f (.ref p) fs)) → G' p = some (.lst []) → (∀ b x, b ≠ o → G b = some x → G' b = some x) → (putF f (.ref p) fs).length ≤ n + 1 → D.nx σ G') : sFld K (tVar 0) (tLst tNil) f D σ G := by
  refine ⟨Nat.zero_le _, fun p np => ?_⟩
  have hpo : p ≠ o := fun z => by rw [z, ho] at np; cases np
  refine ⟨.ref o, h0, o, C, dx, fs, rfl, by rw [upd_ne (Ne.symm hpo)]; exact ho, hc, hn, by omega, q p np _ upd_same (by rw [upd_ne hpo]; exact upd_same) (fun b x hb e => ?_) (Nat.le_trans (length_putF _ _ _) (Nat.succ_le_succ hl))⟩
  rw [upd_ne hb, upd_ne (ne_of_none e np)]
  exact e
theorem nameq : (("people" : Str) ≠ "rest" ∧ ("people" : Str) ≠ "past" ∧ ("people" : Str) ≠ "served" ∧ ("people" : Str) ≠ "deeds") ∧ (("rest" : Str) ≠ "past" ∧ ("rest" : Str) ≠ "served" ∧ ("rest" : Str) ≠ "deeds") ∧ (("past" : Str) ≠ "served" ∧ ("past" : Str) ≠ "deeds") ∧ ("served" : Str) ≠ "deeds" := by decide +kernel
section
variable {P : Program} {w : World} {K : PySem.W.Frag} {mg : Str → Option Value} {base : Heap} {C : Addr}
theorem ok_init {f : Addr} {fd : FuncData} (F : Fun K "__init__" "Line.__init__" sInit f fd) (T : LnT K mg C) : FnOk P w K mg base CX0 1 f fd ["self"] (spInit C) := by
  refine F.ok scInit (fun vs H Q E ⟨o, dx, e, _⟩ => by rw [e]; rfl) (fun cdv A outer s H vs Q E hr h => ?_)
  obtain ⟨o, dx, rfl, ho, q⟩ := h
  refine ⟨_, (pss_cons (ps_fld (pv 0) (pe_lst pa_nil) rfl) (pss_cons (ps_fld (pv 0) (pe_lst pa_nil) rfl) (pss_cons (ps_fld (pv 0) (pe_lst pa_nil) rfl) (pss_cons (ps_fld (pv 0) (pe_lst pa_nil) rfl) (pss_one (ps_fld (pv 0) (pe_lst pa_nil) rfl)))))), ?_⟩
  refine init_one (o := o) rfl ho T.cl T.n_pe (Nat.le_refl 0) (by decide) fun p1 n1 G1 a1 b1 k1 l1 => ?_
  refine init_one (o := o) rfl a1 T.cl T.n_re l1 (by decide) fun p2 n2 G2 a2 b2 k2 l2 => ?_
  refine init_one (o := o) rfl a2 T.cl T.n_pa l2 (by decide) fun p3 n3 G3 a3 b3 k3 l3 => ?_
  refine init_one (o := o) rfl a3 T.cl T.n_se l3 (by decide) fun p4 n4 G4 a4 b4 k4 l4 => ?_
  refine init_one (o := o) rfl a4 T.cl T.n_de l4 (by decide) fun p5 n5 G5 a5 b5 k5 l5 => ?_
  have ne : ∀ {G : Hp} {p q : Addr} {vs : List V}, G p = some (.lst vs) → G q = none → p ≠ q := fun {G p q vs} e n z => by rw [z, n] at e; cases e
  have no : ∀ {G : Hp} {p : Addr} {fs : List (Str × V)}, G o = some (.ins C dx fs) → G p = none → p ≠ o := fun {G p fs} e n z => by rw [z, e] at n; cases n
  have o1 := no ho n1
  have o2 := no a1 n2
  have o3 := no a2 n3
  have o4 := no a3 n4
  have o5 := no a4 n5
  have b12 := k2 _ _ o1 b1
  have b13 := k3 _ _ o1 b12
  have b14 := k4 _ _ o1 b13
  have b15 := k5 _ _ o1 b14
  have b23 := k3 _ _ o2 b2
  have b24 := k4 _ _ o2 b23
  have b25 := k5 _ _ o2 b24
  have b34 := k4 _ _ o3 b3
  have b35 := k5 _ _ o3 b34
  have b45 := k5 _ _ o4 b4
  have fr : ∀ {G G' : Hp} {p : Addr}, p ≠ o → (∀ b x, b ≠ o → G b = some x → G' b = some x) → G' p = none → G p = none := fun {G G' p} hp k n => by
    cases z : G p with
    | none => rfl
    | some x => rw [k p x hp z] at n; cases n
  have m2 := fr o2 k1 n2
  have m3 := fr o3 k1 (fr o3 k2 n3)
  have m4 := fr o4 k1 (fr o4 k2 (fr o4 k3 n4))
  have m5 := fr o5 k1 (fr o5 k2 (fr o5 k3 (fr o5 k4 n5)))
  obtain ⟨⟨q1, q2, q3, q4⟩, ⟨q5, q6, q7⟩, ⟨q8, q9⟩, q10⟩ := nameq
  refine q ⟨o, p1, p2, p3, p4, p5⟩ G5 rfl (fun b hb => ?_) ⟨⟨dx, _, a5, ?_⟩, b15, b25, b35, ⟨[], b45, .nil⟩, ⟨[], b5, .nil⟩, ?_, nil_ok⟩ fun b x hb e => k5 b x hb (k4 b x hb (k3 b x hb (k2 b x hb (k1 b x hb e))))
  · rcases hb with rfl | rfl | rfl | rfl | rfl
    · exact n1
    · exact m2
    · exact m3
    · exact m4
    · exact m5
  · refine ⟨?_, ?_, ?_, ?_, ?_, fun m h1 h2 h3 h4 h5 => ?_⟩
    · rw [lookup_putF, if_neg q4, lookup_putF, if_neg q3, lookup_putF, if_neg q2, lookup_putF, if_neg q1, lookup_putF, if_pos rfl]
    · rw [lookup_putF, if_neg q7, lookup_putF, if_neg q6, lookup_putF, if_neg q5, lookup_putF, if_pos rfl]
    · rw [lookup_putF, if_neg q9, lookup_putF, if_neg q8, lookup_putF, if_pos rfl]
    · rw [lookup_putF, if_neg q10, lookup_putF, if_pos rfl]
    · rw [lookup_putF, if_pos rfl]
    · rw [lookup_putF, if_neg h5, lookup_putF, if_neg h4, lookup_putF, if_neg h3, lookup_putF, if_neg h2, lookup_putF, if_neg h1]
      rfl
  · have c12 : p1 ≠ p2 := ne b1 n2
    have c13 : p1 ≠ p3 := ne b12 n3
    have c14 : p1 ≠ p4 := ne b13 n4
    have c15 : p1 ≠ p5 := ne b14 n5
    have c23 : p2 ≠ p3 := ne b2 n3
    have c24 : p2 ≠ p4 := ne b23 n4
    have c25 : p2 ≠ p5 := ne b24 n5
    have c34 : p3 ≠ p4 := ne b3 n4
    have c35 : p3 ≠ p5 := ne b34 n5
    have c45 : p4 ≠ p5 := ne b4 n5
    simp [c12, c13, c14, c15, c23, c24, c25, c34, c35, c45]
theorem ok_comeM {f : Addr} {fd : FuncData} (F : Fun K "come" "Line.come" sComeM f fd) (hT : Nm mg) (T : LnT K mg C) (CP : Cal P w K mg base 2 "is_patience" ["thing"] (spOne isPatience)) (CL : Cal P w K mg base 1 "let_past" ["left"] spLet) : FnOk P w K mg base CX0 3 f fd ["self", "patience"] (spComeM C) := by
  refine F.ok scComeM (fun vs H Q E ⟨L, s, p, e, _⟩ => by rw [e]; rfl) (fun cdv A outer s H vs Q E hr h => ?_)
  obtain ⟨L, s, p, rfl, hL, hp, hn, q⟩ := h
  have nd := scComeM.nd
  refine ⟨_, (pss_cons (ps_if (pt_not (pt_val (pe_cal CP (hr.mono (by decide)) (by rfl) (pa_cons (pv 1) pa_nil)))) (pss_one ps_never) pss_nil)
      (pss_cons (ps_set (i := 2) nd rfl (.inl rfl) (pe_callB call_len_seq (by rfl) hT.len PySem.boot_len (pa_cons (pe_fld (pv 0) rfl) pa_nil)))
      (pss_cons (ps_set (i := 3) nd rfl (.inl rfl) (pe_cal CL (hr.mono (by decide)) (by rfl) (pa_cons (pe_fld (pv 0) rfl) pa_nil)))
      (pss_cons (ps_for PassesOwn.never rfl (pi_list (pe_slice sl_list (pe_fld (pv 0) rfl) (po_some (pv 3)) po_none)) (pg_name (i := 4) nd rfl (.inl rfl)) (pss_one (ps_augS (pe_fld (pv 0) rfl) (pv 4) get_list pe_int ip_add set_list)))
      (pss_cons (ps_expr (pe_bm PySem.F.plainAttrs_list PySem.F.slot_list_insert PySem.F.type_list_insert mt_insert (pe_fld (pv 0) rfl) (pa_cons (pv 3) (pa_cons (pv 2) pa_nil))))
      (pss_cons (ps_expr (pe_bm PySem.F.plainAttrs_list PySem.F.slot_list_insert PySem.F.type_list_insert mt_insert (pe_fld (pv 0) rfl) (pa_cons (pv 3) (pa_cons (pv 1) pa_nil))))
      (pss_cons (ps_expr (pe_bm PySem.F.plainAttrs_list PySem.F.slot_list_append PySem.F.type_list_append mt_append (pe_fld (pv 0) rfl) (pa_cons pe_int pa_nil)))
      (pss_cons (ps_expr (pe_bm PySem.F.plainAttrs_list PySem.F.slot_list_append PySem.F.type_list_append mt_append (pe_fld (pv 0) rfl) (pa_cons (pe_tup (pa_cons pe_str (pa_cons (pv 1) pa_nil))) pa_nil)))
      (pss_one (ps_ret (pv 2))))))))))), ?_⟩
  obtain ⟨d1, d2, d3, d4, d5, d6, d7, d8, d9, d10⟩ := nodup5 hL.nd
  have ok := hL.ok
  have hxl : s.xs.length ≤ 400 := by have := ok.tot; omega
  have hrl : s.rs.length ≤ 400 := by rw [← ok.len]; exact hxl
  have hdl : s.ds.length ≤ 800 := by have := ok.dl; have := ok.tot; omega
  refine ⟨optV p, rfl, optV p, optD p, rfl, rp_opt2 p, fun H1 s1 => ⟨_, rfl, ?_⟩⟩
  rw [hp]
  refine iteF ?_
  have hL1 := hL.same s1
  obtain ⟨⟨dx, fs, hob, hf⟩, e_pe, e_re, e_pa, ⟨vs, e_se, a_se⟩, ⟨ws, e_de, a_de⟩, _, _⟩ := hL1
  refine ⟨.ref L.o, rfl, L.o, C, dx, fs, .ref L.pa, rfl, hob, T.cl, T.n_pa, hf.pa, L.pa, _, rfl, .inl (SqL.of e_pa), ?_⟩
  rw [ppl_len]
  refine ⟨.ref L.o, rfl, L.o, C, dx, fs, .ref L.re, rfl, hob, T.cl, T.n_re, hf.re, L.re, s.rs, rfl, e_re, by omega, fun H2 k2 f2 => ?_⟩
  obtain ⟨g1, g2⟩ := goes_le s.rs.length s.rs
  have hk : s.k ≤ s.xs.length := by rw [ok.len]; exact g1
  show tSeq _ _ _ [some (.ref L.o), some (optV p), some (.int (s.ps.length : Int)), some (.int (s.k : Int)), none] H2
  have nli : ∀ {b : Addr} {o : HO} {vs : List V}, H1 b = some o → (∀ vs, o ≠ .lst vs) → H1 L.re = some (.lst vs) → b ≠ L.re := fun {b o vs} e n e2 z => by rw [z, e2] at e; exact n _ (Option.some.inj e).symm
  have hob2 : H2 L.o = some (.ins C dx fs) := by rw [k2 _ (nli hob (fun _ => nofun) e_re)]; exact hob
  have e_pe2 : H2 L.pe = some (.lst (ppl s.xs)) := by rw [k2 _ d1]; exact e_pe
  have e_pa2 : H2 L.pa = some (.lst (ppl s.ps)) := by rw [k2 _ (Ne.symm d5)]; exact e_pa
  have e_se2 : H2 L.se = some (.lst vs) := by rw [k2 _ (Ne.symm d6)]; exact e_se
  have e_de2 : H2 L.de = some (.lst ws) := by rw [k2 _ (Ne.symm d7)]; exact e_de
  have m2 : MvL L H H2 := (MvL.of s1).trans ⟨fun b o nb e => by rw [k2 b fun z => nb (.inr (.inl z))]; exact e⟩
  have kt2 : ∀ t ys, H1 t = some (.tup ys) → H2 t = some (.tup ys) := fun t ys e => by rw [k2 t (nli e (fun _ => nofun) e_re)]; exact e
  refine ⟨.ref L.o, rfl, L.o, C, dx, fs, .ref L.pe, rfl, hob2, T.cl, T.n_pe, hf.pe, .int (s.k : Int), rfl, (s.k : Int), rfl, L.pe, _, rfl, SqL.of e_pe2, fun D nD => ?_⟩
  rw [cut_from]
  have ed : (ppl s.xs).drop s.k = ppl (s.xs.drop s.k) := List.map_drop.symm
  rw [ed]
  have sD : Same H2 (upd H2 D (.lst (ppl (s.xs.drop s.k)))) := same_upd nD
  have eD : (upd H2 D (.lst (ppl (s.xs.drop s.k)))) D = some (.lst (ppl (s.xs.drop s.k))) := upd_same
  have nDpa : D ≠ L.pa := fun z => by rw [z, e_pa2] at nD; cases nD
  generalize upd H2 D (.lst (ppl (s.xs.drop s.k))) = H3 at sD eD
  refine ⟨D, rfl, ⟨_, SqL.of eD⟩, for_list (xs := ppl (s.xs.drop s.k)) (fun i σ G => (∃ y, σ = [some (.ref L.o), some (optV p), some (.int (s.ps.length : Int)), some (.int (s.k : Int)), y]) ∧ (∀ b, b ≠ L.pa → G b = H3 b) ∧ G L.pa = some (.lst (ppl (bump s.ps ((s.xs.drop s.k).take i)))))
    ⟨⟨_, rfl⟩, fun _ _ => rfl, sD _ _ e_pa2⟩ (fun i σ G _ ⟨_, k, _⟩ => SqL.of (by rw [k _ nDpa]; exact eD)) (fun i x σ G hx hP => ?_) (fun σ G hP => ?_)⟩
  · obtain ⟨⟨y, rfl⟩, kG, eG⟩ := hP
    have il : i < (s.xs.drop s.k).length := by rw [← ppl_len]; exact (List.getElem?_eq_some_iff.mp hx).1
    rw [ppl_get il] at hx
    obtain rfl := (Option.some.inj hx).symm
    have hsn : (s.xs.drop s.k).take (i + 1) = (s.xs.drop s.k).take i ++ [(s.xs.drop s.k)[i]] := by rw [List.take_add_one, List.getElem?_eq_getElem il]; rfl
    have hlt : (s.xs.drop s.k)[i] < s.ps.length := ok.lt _ (List.mem_of_mem_drop (List.getElem_mem il))
    rw [hsn, bump_snoc]
    have hbl := bump_len ((s.xs.drop s.k).take i) s.ps
    generalize bump s.ps ((s.xs.drop s.k).take i) = ps at eG hbl
    generalize (s.xs.drop s.k)[i] = y at hlt
    have hob3 : G L.o = some (.ins C dx fs) := by rw [kG _ (fun z => by rw [z, e_pa2] at hob2; cases hob2)]; exact sD _ _ hob2
    have hg : (ppl ps)[y]? = some (.int ((ps.getD y 0 : Nat) : Int)) := by
      rw [ppl_get (by omega)]
      rw [List.getD_eq_getElem?_getD, List.getElem?_eq_getElem (by omega)]
      rfl
    refine ⟨.ref L.o, rfl, L.o, C, dx, fs, .ref L.pa, rfl, hob3, T.cl, T.n_pa, hf.pa, .int (y : Int), rfl, L.pa, _, y, _, rfl, rfl, SqL.of eG, hg, _, 1, rfl, rfl, L.pa, _, (y : Int), y, rfl, rfl, eG, ixN_nat (by rw [ppl_len]; omega), ⟨_, rfl⟩, fun b nb => by rw [upd_ne nb]; exact kG b nb, ?_⟩
    rw [upd_same]
    unfold ppl
    rw [List.map_set]
    rfl
  · obtain ⟨⟨y, rfl⟩, kG, eG⟩ := hP
    rw [ppl_len, List.take_length] at eG
    have up : ∀ {b : Addr} {o : HO}, b ≠ L.pa → H2 b = some o → G b = some o := fun {b o} n e => by rw [kG b n]; exact sD _ _ e
    have hob3 : G L.o = some (.ins C dx fs) := up (fun z => by rw [z, e_pa2] at hob2; cases hob2) hob2
    have e_pe3 := up d2 e_pe2
    have e_re3 := up d5 f2
    have e_se3 := up (Ne.symm d8) e_se2
    have e_de3 := up (Ne.symm d9) e_de2
    have m3 : MvL L H G := m2.trans ⟨fun b o nb e => up (fun z => nb (.inr (.inr (.inl z)))) e⟩
    have kt3 : ∀ t ys, H2 t = some (.tup ys) → G t = some (.tup ys) := fun t ys e => up (fun z => by rw [z, e_pa2] at e; cases e) e
    have b1 : bump s.ps (s.xs.drop s.k) = bump s.ps (s.xs.drop s.k) := rfl
    have hbl := bump_len (s.xs.drop s.k) s.ps
    -- self.people.insert(place, newcomer)
    refine ⟨.ref L.o, rfl, L.o, C, dx, fs, .ref L.pe, rfl, hob3, T.cl, T.n_pe, hf.pe, .inl ⟨rfl, _, SqL.of e_pe3⟩, .int (s.k : Int), rfl, .int (s.ps.length : Int), rfl, L.pe, _, (s.k : Int), _, rfl, rfl, e_pe3, by rw [ppl_len]; exact small1000 (by omega), by omega, by omega, ?_⟩
    have ei : (ppl s.xs).take (s.k : Int).toNat ++ [V.int (s.ps.length : Int)] ++ (ppl s.xs).drop (s.k : Int).toNat = ppl (comeS s p).xs := by
      show _ = ppl (s.xs.take s.k ++ s.ps.length :: s.xs.drop s.k)
      unfold ppl
      rw [List.map_append, List.map_cons, List.map_take, List.map_drop, List.append_assoc]
      rfl
    rw [ei]
    have q_pe4 : (upd G L.pe (.lst (ppl (comeS s p).xs))) L.pe = some (.lst (ppl (comeS s p).xs)) := upd_same
    have k4 : ∀ b, b ≠ L.pe → (upd G L.pe (.lst (ppl (comeS s p).xs))) b = G b := fun b n => upd_ne n
    have m4 := m3.upd (o := .lst (ppl (comeS s p).xs)) (.inl rfl)
    generalize upd G L.pe (.lst (ppl (comeS s p).xs)) = G4 at q_pe4 k4 m4
    have hob4 : G4 L.o = some (.ins C dx fs) := by rw [k4 _ (fun z => by rw [z, e_pe3] at hob3; cases hob3)]; exact hob3
    have e_re4 : G4 L.re = _ := (k4 _ (Ne.symm d1)).trans e_re3
    -- self.rest.insert(place, patience)
    refine ⟨.ref L.o, rfl, L.o, C, dx, fs, .ref L.re, rfl, hob4, T.cl, T.n_re, hf.re, .inl ⟨rfl, _, SqL.of e_re4⟩, .int (s.k : Int), rfl, optV p, rfl, L.re, _, (s.k : Int), _, rfl, rfl, e_re4, by rw [List.length_map, g2]; exact small1000 (by omega), by omega, by omega, ?_⟩
    have er : ((goes s.rs.length s.rs).2.map optV).take (s.k : Int).toNat ++ [optV p] ++ ((goes s.rs.length s.rs).2.map optV).drop (s.k : Int).toNat = (comeS s p).rs.map optV := by
      show _ = ((goes s.rs.length s.rs).2.take s.k ++ p :: (goes s.rs.length s.rs).2.drop s.k).map optV
      rw [List.map_append, List.map_cons, List.map_take, List.map_drop, List.append_assoc]
      rfl
    rw [er]
    have q_re5 : (upd G4 L.re (.lst ((comeS s p).rs.map optV))) L.re = some (.lst ((comeS s p).rs.map optV)) := upd_same
    have k5 : ∀ b, b ≠ L.re → (upd G4 L.re (.lst ((comeS s p).rs.map optV))) b = G4 b := fun b n => upd_ne n
    have m5 := m4.upd (o := .lst ((comeS s p).rs.map optV)) (.inr (.inl rfl))
    generalize upd G4 L.re (.lst ((comeS s p).rs.map optV)) = G5 at q_re5 k5 m5
    have hob5 : G5 L.o = some (.ins C dx fs) := by rw [k5 _ (fun z => by rw [z, e_re4] at hob4; cases hob4)]; exact hob4
    have e_pa5 : G5 L.pa = _ := (k5 _ (Ne.symm d5)).trans ((k4 _ (Ne.symm d2)).trans eG)
    -- self.past.append(0)
    refine ⟨.ref L.o, rfl, L.o, C, dx, fs, .ref L.pa, rfl, hob5, T.cl, T.n_pa, hf.pa, .inl ⟨rfl, _, SqL.of e_pa5⟩, L.pa, _, _, rfl, rfl, e_pa5, by rw [ppl_len, hbl]; exact small1000 (by omega), ?_⟩
    have ep : ppl (bump s.ps (s.xs.drop s.k)) ++ [V.int 0] = ppl (comeS s p).ps := by
      show _ = ppl (bump s.ps (s.xs.drop s.k) ++ [0])
      unfold ppl
      rw [List.map_append]
      rfl
    rw [ep]
    have q_pa6 : (upd G5 L.pa (.lst (ppl (comeS s p).ps))) L.pa = some (.lst (ppl (comeS s p).ps)) := upd_same
    have k6 : ∀ b, b ≠ L.pa → (upd G5 L.pa (.lst (ppl (comeS s p).ps))) b = G5 b := fun b n => upd_ne n
    have m6 := m5.upd (o := .lst (ppl (comeS s p).ps)) (.inr (.inr (.inl rfl)))
    generalize upd G5 L.pa (.lst (ppl (comeS s p).ps)) = G6 at q_pa6 k6 m6
    have hob6 : G6 L.o = some (.ins C dx fs) := by rw [k6 _ (fun z => by rw [z, e_pa5] at hob5; cases hob5)]; exact hob5
    have e_de6 : G6 L.de = some (.lst ws) := (k6 _ (Ne.symm d9)).trans ((k5 _ (Ne.symm d7)).trans ((k4 _ (Ne.symm d4)).trans e_de3))
    have e_se6 : G6 L.se = some (.lst vs) := (k6 _ (Ne.symm d8)).trans ((k5 _ (Ne.symm d6)).trans ((k4 _ (Ne.symm d3)).trans e_se3))
    have e_pe6 : G6 L.pe = _ := (k6 _ d2).trans ((k5 _ d1).trans q_pe4)
    have e_re6 : G6 L.re = _ := (k6 _ d5).trans q_re5
    have kt6 : ∀ t ys, H1 t = some (.tup ys) → G6 t = some (.tup ys) := fun t ys e => by
      have e3 := kt3 _ _ (kt2 _ _ e)
      have n1 : t ≠ L.pe := fun z => by rw [z, e_pe3] at e3; cases e3
      have n2 : t ≠ L.re := fun z => by rw [z, e_re3] at e3; cases e3
      have n3 : t ≠ L.pa := fun z => by rw [z, eG] at e3; cases e3
      exact (k6 _ n3).trans ((k5 _ n2).trans ((k4 _ n1).trans e3))
    -- self.deeds.append(("come", patience))
    refine ⟨.ref L.o, rfl, L.o, C, dx, fs, .ref L.de, rfl, hob6, T.cl, T.n_de, hf.de, .inl ⟨rfl, _, SqL.of e_de6⟩, optV p, rfl, small_le (by show 2 ≤ 1000; decide), fun t nt => ⟨L.de, ws, .ref t, rfl, rfl, (same_upd nt) _ _ e_de6, by rw [a_de.length]; exact small1000 (by omega), ?_⟩⟩
    have st : Same G6 (upd G6 t (.tup [.str "come", optV p])) := same_upd nt
    have et : (upd G6 t (.tup [.str "come", optV p])) t = some (.tup [.str "come", optV p]) := upd_same
    have m7 := m6.new (o := .tup [.str "come", optV p]) nt
    generalize upd G6 t (.tup [.str "come", optV p]) = G7 at st et m7
    have ntd : t ≠ L.de := fun z => by rw [z, e_de6] at nt; cases nt
    have kt8 : ∀ t' ys, G7 t' = some (.tup ys) → (upd G7 L.de (.lst (ws ++ [.ref t]))) t' = some (.tup ys) := fun t' ys e => by
      rw [upd_ne (fun z => by rw [z, st _ _ e_de6] at e; cases e)]; exact e
    refine ⟨_, rfl, q _ ⟨⟨dx, fs, ?_, hf⟩, ?_, ?_, ?_, ⟨vs, ?_, a_se.imp fun _ _ => ServV.kx fun t' ys e => kt8 _ _ (st _ _ (kt6 _ _ e))⟩, ⟨ws ++ [.ref t], upd_same, All2.snoc (a_de.imp fun _ _ => DeedV.kx fun t' ys e => kt8 _ _ (st _ _ (kt6 _ _ e))) ⟨t, rfl, kt8 _ _ et⟩⟩, hL.nd, ok.come p⟩ (m7.upd (.inr (.inr (.inr (.inr rfl)))))⟩
    · rw [upd_ne (fun z => by rw [z, e_de6] at hob6; cases hob6)]; exact st _ _ hob6
    · rw [upd_ne d4]; exact st _ _ e_pe6
    · rw [upd_ne d7]; exact st _ _ e_re6
    · rw [upd_ne d9]; exact st _ _ q_pa6
    · rw [upd_ne d10]; exact st _ _ e_se6
end
end CL
set_option Elab.async false
set_option linter.all false
set_option maxRecDepth 100000
set_option maxHeartbeats 4000000
namespace CL
open PySem PySem.Spec PyProof.Rows L2 GE
/-- len(x) of an instance whose class has a __len__ of its own -/
theorem call_lenOwn {X : Cx} {C f : Addr} {fd : FuncData} {ps : List Str} {k : Nat} {CX : CXT} {E : XK} {sp : Sp} (F : FnOk X.prog X.w X.K X.mg X.base CX k f fd ps sp) (hr : Room (k + 1) X.A)
    (hs : PySem.W.findIn X.K (.ref C) "__len__" = some (some (.ref f))) (hf : PySem.W.isFn X.K (.ref f) = true) (hb : Binds X.K fd ps []) (hx : Passes CX X E) :
    CallR X (.builtin "len") (fun xs H Q => ∃ a dx fs, xs = [.ref a] ∧ H a = some (.ins C dx fs) ∧ sp [.ref a] H (fun v H' => ∃ n : Nat, v = .int (n : Int) ∧ n < 2 ^ 62 ∧ Q (.int (n : Int)) H') E) := by
  intro pins s σ H xs us Q I r h
  obtain ⟨a, dx, fs, rfl, ha, hsp⟩ := h
  obtain ⟨u, rfl, ru⟩ := vals1 r
  obtain rfl : u = Value.ref a := ru
  obtain ⟨mA, J, _⟩ := ins_get I.hok ha
  obtain ⟨od, J, _⟩ := J.look
  obtain ⟨m, hF⟩ := I.fr
  refine PySem.W.len_K hF I.ok.mod.kin J hs hf ?_
  have e0 : Env0 X.prog X.w X.K X.mg X.base X.A.in1 X.stack s H := by
    have e := I.env0
    exact ⟨e.frames, e.mod, e.bs, e.bsz, e.funs, e.frf, e.hok, e.bare⟩
  have hl := F.len _ _ _ _ hsp
  refine wpAny_call (codeAny_mono (F.run X.A.in1 X.stack s H ⟨[.ref a], []⟩ [.ref a] [.ref a] _ E hr.in1 e0 (by
    have := hb s [.ref a] I.kIn (by simpa using hl)
    simpa using this) (.cons rfl .nil) hsp) fun r s' hq => ?_)
  cases r with
  | error e => exact hx pins σ H s e s' I hq
  | ok fl =>
    cases fl with
    | ret w =>
      obtain ⟨z, H', I', rz, n, ez, hn, q⟩ := I.after hq
      subst ez
      obtain ⟨t, rfl⟩ := rz
      exact ⟨⟨Int.natCast_nonneg n, by omega⟩, .int (n : Int), H', I'.tok _, ⟨_, rfl⟩, q⟩
    | next => exact False.elim hq
    | brk => exact False.elim hq
    | cont => exact False.elim hq
section
variable {P : Program} {w : World} {K : PySem.W.Frag} {mg : Str → Option Value} {base : Heap} {C : Addr}
theorem ok_serveM {f : Addr} {fd : FuncData} (F : Fun K "serve" "Line.serve" sServeM f fd) (T : LnT K mg C) : FnOk P w K mg base CX0 1 f fd ["self"] (spServeM C) := by
  refine F.ok scServeM (fun vs H Q E ⟨L, s, x, xs, e, _⟩ => by rw [e]; rfl) (fun cdv A outer s H vs Q E hr h => ?_)
  obtain ⟨L, s, x, xs, rfl, hL, hx, hn, q⟩ := h
  have nd := scServeM.nd
  refine ⟨_, (pss_cons (ps_if (pt_not (pt_truth (pe_fld (pv 0) rfl) (by intro _; rfl))) (pss_one ps_never) pss_nil)
      (pss_cons (ps_set (i := 1) nd rfl (.inl rfl) (pe_bm PySem.F.plainAttrs_list PySem.F.slot_list_pop PySem.F.type_list_pop mt_popAt (pe_fld (pv 0) rfl) (pa_cons pe_int pa_nil)))
      (pss_cons (ps_expr (pe_bm PySem.F.plainAttrs_list PySem.F.slot_list_append PySem.F.type_list_append mt_append (pe_fld (pv 0) rfl) (pa_cons (pe_tup (pa_cons (pv 1) (pa_cons (pe_bm PySem.F.plainAttrs_list PySem.F.slot_list_pop PySem.F.type_list_pop mt_popAt (pe_fld (pv 0) rfl) (pa_cons pe_int pa_nil)) pa_nil))) pa_nil)))
      (pss_cons (ps_expr (pe_bm PySem.F.plainAttrs_list PySem.F.slot_list_append PySem.F.type_list_append mt_append (pe_fld (pv 0) rfl) (pa_cons (pe_tup (pa_cons pe_str pa_nil)) pa_nil)))
      (pss_one (ps_ret (pv 1))))))), ?_⟩
  obtain ⟨d1, d2, d3, d4, d5, d6, d7, d8, d9, d10⟩ := nodup5 hL.nd
  have ok := hL.ok
  have hxl : s.xs.length ≤ 400 := by have := ok.tot; omega
  have hdl : s.ds.length ≤ 800 := by have := ok.dl; have := ok.tot; omega
  have hsl : s.sv.length ≤ 400 := by have := ok.tot; omega
  obtain ⟨r, rs, hr'⟩ : ∃ r rs, s.rs = r :: rs := by
    have hlen := ok.len
    rw [hx, List.length_cons] at hlen
    cases z : s.rs with
    | nil => rw [z] at hlen; cases hlen
    | cons r rs => exact ⟨r, rs, rfl⟩
  obtain ⟨⟨dx, fs, hob, hf⟩, e_pe, e_re, e_pa, ⟨vs, e_se, a_se⟩, ⟨ws, e_de, a_de⟩, _, _⟩ := id hL
  rw [hx] at e_pe
  rw [hr'] at e_re
  refine ⟨.ref L.o, rfl, L.o, C, dx, fs, .ref L.pe, rfl, hob, T.cl, T.n_pe, hf.pe, true, .inl ⟨_, SqL.of e_pe, rfl⟩, ?_⟩
  refine iteF ?_
  refine ⟨.ref L.o, rfl, L.o, C, dx, fs, .ref L.pe, rfl, hob, T.cl, T.n_pe, hf.pe, .inl ⟨rfl, _, SqL.of e_pe⟩, L.pe, _, 0, 0, .int (x : Int), rfl, rfl, e_pe, by decide, by decide, seq_nat (j := 0) (Nat.succ_pos _), rfl, ?_⟩
  have ep : (ppl (x :: xs)).eraseIdx 0 = ppl (serveS s x r).xs := by
    show ppl xs = ppl s.xs.tail
    rw [hx]
    rfl
  rw [ep]
  have q_pe1 : (upd H L.pe (.lst (ppl (serveS s x r).xs))) L.pe = some (.lst (ppl (serveS s x r).xs)) := upd_same
  have k1 : ∀ b, b ≠ L.pe → (upd H L.pe (.lst (ppl (serveS s x r).xs))) b = H b := fun b n => upd_ne n
  have m1 := (MvL.refl L H).upd (o := .lst (ppl (serveS s x r).xs)) (.inl rfl)
  dsimp only [gName]
  show tSeq _ _ _ [some (.ref L.o), some (.int (x : Int))] (upd H L.pe (.lst (ppl (serveS s x r).xs)))
  generalize upd H L.pe (.lst (ppl (serveS s x r).xs)) = G1 at q_pe1 k1 m1
  have hob1 : G1 L.o = some (.ins C dx fs) := by rw [k1 _ (fun z => by rw [z, e_pe] at hob; cases hob)]; exact hob
  have e_se1 : G1 L.se = some (.lst vs) := (k1 _ (Ne.symm d3)).trans e_se
  have e_re1 : G1 L.re = _ := (k1 _ (Ne.symm d1)).trans e_re
  -- self.served.append((person, self.rest.pop(0)))
  refine ⟨.ref L.o, rfl, L.o, C, dx, fs, .ref L.se, rfl, hob1, T.cl, T.n_se, hf.se, .inl ⟨rfl, _, SqL.of e_se1⟩, .int (x : Int), rfl, .ref L.o, rfl, L.o, C, dx, fs, .ref L.re, rfl, hob1, T.cl, T.n_re, hf.re, .inl ⟨rfl, _, SqL.of e_re1⟩, L.re, _, 0, 0, optV r, rfl, rfl, e_re1, by decide, by decide, seq_nat (j := 0) (Nat.succ_pos _), rfl, ?_⟩
  have er : ((r :: rs).map optV).eraseIdx 0 = (serveS s x r).rs.map optV := by
    show rs.map optV = s.rs.tail.map optV
    rw [hr']
    rfl
  rw [er]
  have q_re2 : (upd G1 L.re (.lst ((serveS s x r).rs.map optV))) L.re = some (.lst ((serveS s x r).rs.map optV)) := upd_same
  have k2 : ∀ b, b ≠ L.re → (upd G1 L.re (.lst ((serveS s x r).rs.map optV))) b = G1 b := fun b n => upd_ne n
  have m2 := m1.upd (o := .lst ((serveS s x r).rs.map optV)) (.inr (.inl rfl))
  generalize upd G1 L.re (.lst ((serveS s x r).rs.map optV)) = G2 at q_re2 k2 m2
  have hob2 : G2 L.o = some (.ins C dx fs) := by rw [k2 _ (fun z => by rw [z, e_re1] at hob1; cases hob1)]; exact hob1
  have e_se2 : G2 L.se = some (.lst vs) := (k2 _ (Ne.symm d6)).trans e_se1
  refine ⟨small_le (by show 2 ≤ 1000; decide), fun t nt => ⟨L.se, vs, .ref t, rfl, rfl, (same_upd nt) _ _ e_se2, by rw [a_se.length]; exact small1000 (by omega), ?_⟩⟩
  have st : Same G2 (upd G2 t (.tup [.int (x : Int), optV r])) := same_upd nt
  have et : (upd G2 t (.tup [.int (x : Int), optV r])) t = some (.tup [.int (x : Int), optV r]) := upd_same
  have m3 := m2.new (o := .tup [.int (x : Int), optV r]) nt
  generalize upd G2 t (.tup [.int (x : Int), optV r]) = G3 at st et m3
  have e_se3 := st _ _ e_se2
  have q_se4 : (upd G3 L.se (.lst (vs ++ [.ref t]))) L.se = some (.lst (vs ++ [.ref t])) := upd_same
  have k4 : ∀ b, b ≠ L.se → (upd G3 L.se (.lst (vs ++ [.ref t]))) b = G3 b := fun b n => upd_ne n
  have m4 := m3.upd (o := .lst (vs ++ [.ref t])) (.inr (.inr (.inr (.inl rfl))))
  generalize upd G3 L.se (.lst (vs ++ [.ref t])) = G4 at q_se4 k4 m4
  have up4 : ∀ {b : Addr} {o : HO}, b ≠ L.se → G2 b = some o → G4 b = some o := fun {b o} n e => by rw [k4 b n]; exact st _ _ e
  have hob4 : G4 L.o = some (.ins C dx fs) := up4 (fun z => by rw [z, e_se2] at hob2; cases hob2) hob2
  have e_de4 : G4 L.de = some (.lst ws) := up4 (Ne.symm d10) ((k2 _ (Ne.symm d7)).trans ((k1 _ (Ne.symm d4)).trans e_de))
  have e_pa4 : G4 L.pa = _ := up4 d8 ((k2 _ (Ne.symm d5)).trans ((k1 _ (Ne.symm d2)).trans e_pa))
  have e_pe4 : G4 L.pe = _ := up4 d3 ((k2 _ d1).trans q_pe1)
  have e_re4 : G4 L.re = _ := up4 d6 q_re2
  have kt4 : ∀ t ys, H t = some (.tup ys) → G4 t = some (.tup ys) := fun t ys e => by
    have n1 : t ≠ L.pe := fun z => by rw [z, e_pe] at e; cases e
    have n2 : t ≠ L.re := fun z => by rw [z, e_re] at e; cases e
    have n3 : t ≠ L.se := fun z => by rw [z, e_se] at e; cases e
    exact up4 n3 ((k2 _ n2).trans ((k1 _ n1).trans e))
  have et4 : G4 t = some (.tup [.int (x : Int), optV r]) := by rw [k4 t (fun z => by rw [z, e_se3] at et; cases et)]; exact et
  have a4 := All2.snoc (a_se.imp fun _ _ => ServV.kx (H' := G4) fun t' ys e => kt4 _ _ e) (v := .ref t) (x := (x, r)) ⟨t, rfl, et4⟩
  -- self.deeds.append(("serve",))
  refine ⟨.ref L.o, rfl, L.o, C, dx, fs, .ref L.de, rfl, hob4, T.cl, T.n_de, hf.de, .inl ⟨rfl, _, SqL.of e_de4⟩, small_le (by show 1 ≤ 1000; decide), fun t' nt' => ⟨L.de, ws, .ref t', rfl, rfl, (same_upd nt') _ _ e_de4, by rw [a_de.length]; exact small1000 (by omega), ?_⟩⟩
  have st' : Same G4 (upd G4 t' (.tup [.str "serve"])) := same_upd nt'
  have et' : (upd G4 t' (.tup [.str "serve"])) t' = some (.tup [.str "serve"]) := upd_same
  have m5 := m4.new (o := .tup [.str "serve"]) nt'
  generalize upd G4 t' (.tup [.str "serve"]) = G5 at st' et' m5
  have kt8 : ∀ t' ys, G5 t' = some (.tup ys) → (upd G5 L.de (.lst (ws ++ [.ref t']))) t' = some (.tup ys) := fun t' ys e => by
    rw [upd_ne (fun z => by rw [z, st' _ _ e_de4] at e; cases e)]; exact e
  have kt8' : ∀ u ys, G5 u = some (.tup ys) → (upd G5 L.de (.lst (ws ++ [.ref t']))) u = some (.tup ys) := fun u ys e => by
    rw [upd_ne (fun z => by rw [z, st' _ _ e_de4] at e; cases e)]; exact e
  refine ⟨_, rfl, q _ r (by rw [hr']; rfl) ⟨⟨dx, fs, ?_, hf⟩, ?_, ?_, ?_, ⟨vs ++ [.ref t], ?_, a4.imp fun _ _ => ServV.kx fun u ys e => kt8' _ _ (st' _ _ e)⟩, ⟨ws ++ [.ref t'], upd_same, All2.snoc (a_de.imp fun _ _ => DeedV.kx fun u ys e => kt8' _ _ (st' _ _ (kt4 _ _ e))) ⟨t', rfl, kt8' _ _ et'⟩⟩, hL.nd, ok.serve hx⟩ (m5.upd (.inr (.inr (.inr (.inr rfl)))))⟩
  · rw [upd_ne (fun z => by rw [z, e_de4] at hob4; cases hob4)]; exact st' _ _ hob4
  · rw [upd_ne d4]; exact st' _ _ e_pe4
  · rw [upd_ne d7]; exact st' _ _ e_re4
  · rw [upd_ne d9]; exact st' _ _ e_pa4
  · rw [upd_ne d10]; exact st' _ _ q_se4
theorem ok_queM {f : Addr} {fd : FuncData} (F : Fun K "queue" "Line.queue" sQueM f fd) (hT : Nm mg) (T : LnT K mg C) : FnOk P w K mg base CX0 1 f fd ["self"] (spQueM C) := by
  refine F.ok scQueM (fun vs H Q E ⟨L, s, e, _⟩ => by rw [e]; rfl) (fun cdv A outer s H vs Q E hr h => ?_)
  obtain ⟨L, s, rfl, hL, q⟩ := h
  refine ⟨_, pss_one (ps_ret (pe_callTy call_list_of (by rfl) hT.list (by decide +kernel) (pa_cons (pe_fld (pv 0) rfl) pa_nil))), ?_⟩
  obtain ⟨⟨dx, fs, hob, hf⟩, e_pe, e_re, _⟩ := id hL
  exact ⟨.ref L.o, rfl, L.o, C, dx, fs, .ref L.pe, rfl, hob, T.cl, T.n_pe, hf.pe, L.pe, _, rfl, .inl (SqL.of e_pe), fun p np => q p np⟩
theorem ok_leftM {f : Addr} {fd : FuncData} (F : Fun K "left" "Line.left" sLeftM f fd) (hT : Nm mg) (T : LnT K mg C) : FnOk P w K mg base CX0 1 f fd ["self"] (spLeftM C) := by
  refine F.ok scLeftM (fun vs H Q E ⟨L, s, e, _⟩ => by rw [e]; rfl) (fun cdv A outer s H vs Q E hr h => ?_)
  obtain ⟨L, s, rfl, hL, q⟩ := h
  refine ⟨_, pss_one (ps_ret (pe_callTy call_list_of (by rfl) hT.list (by decide +kernel) (pa_cons (pe_fld (pv 0) rfl) pa_nil))), ?_⟩
  obtain ⟨⟨dx, fs, hob, hf⟩, e_pe, e_re, _⟩ := id hL
  exact ⟨.ref L.o, rfl, L.o, C, dx, fs, .ref L.re, rfl, hob, T.cl, T.n_re, hf.re, L.re, _, rfl, .inl (SqL.of e_re), fun p np => q p np⟩
theorem ok_wentM {f : Addr} {fd : FuncData} (F : Fun K "went_past" "Line.went_past" sWentM f fd) (hT : Nm mg) (T : LnT K mg C) (CW : Cal P w K mg base 1 "is_whole" ["thing"] (spOne isWhole)) : FnOk P w K mg base CX0 2 f fd ["self", "person"] (spWentM C) := by
  refine F.ok scWentM (fun vs H Q E ⟨L, s, x, hx, e, _⟩ => by rw [e]; rfl) (fun cdv A outer s H vs Q E hr h => ?_)
  obtain ⟨L, s, x, hx, rfl, hL, q⟩ := h
  refine ⟨_, pss_cons (ps_if (PW.pt (pw_or (pt_not (pt_val (pe_cal CW hr (by rfl) (pa_cons (pv 1) pa_nil)))) (pw_or1 (pt_not (pt_chain op_le op_lt pe_int (pv 1) (pe_callB call_len_seq (by rfl) hT.len PySem.boot_len (pa_cons (pe_fld (pv 0) rfl) pa_nil))))))) (pss_one ps_never) pss_nil)
    (pss_one (ps_ret (pe_ix ix_list (pe_fld (pv 0) rfl) (pv 1) (fun _ _ => rfl)))), ?_⟩
  refine ⟨.int (x : Int), rfl, .int (x : Int), .int (x : Int), rfl, .int _, fun H1 s1 => ⟨true, rfl, ?_⟩⟩
  have hL1 := hL.same s1
  obtain ⟨⟨dx, fs, hob, hf⟩, e_pe, e_re, e_pa, _⟩ := hL1
  refine iteF ⟨.int (x : Int), rfl, 0, (x : Int), rfl, rfl, decide ((0 : Int) ≤ (x : Int)), rfl, ?_⟩
  rw [decide_eq_true (Int.natCast_nonneg x)]
  refine iteT ⟨.ref L.o, rfl, L.o, C, dx, fs, .ref L.pa, rfl, hob, T.cl, T.n_pa, hf.pa, L.pa, _, rfl, .inl (SqL.of e_pa), (x : Int), _, rfl, rfl, decide ((x : Int) < ((ppl s.ps).length : Int)), rfl, ?_⟩
  rw [decide_eq_true (by rw [ppl_len]; omega)]
  refine iteF ⟨.ref L.o, rfl, L.o, C, dx, fs, .ref L.pa, rfl, hob, T.cl, T.n_pa, hf.pa, .int (x : Int), rfl, L.pa, _, (x : Int), _, rfl, rfl, SqL.of e_pa, atI_nat (ppl_get hx), q H1 s1⟩
theorem ok_lenM {f : Addr} {fd : FuncData} (F : Fun K "__len__" "Line.__len__" sLenM f fd) (hT : Nm mg) (T : LnT K mg C) : FnOk P w K mg base CX0 1 f fd ["self"] (spLenM C) := by
  refine F.ok scLenM (fun vs H Q E ⟨L, s, e, _⟩ => by rw [e]; rfl) (fun cdv A outer s H vs Q E hr h => ?_)
  obtain ⟨L, s, rfl, hL, q⟩ := h
  refine ⟨_, pss_one (ps_ret (pe_callB call_len_seq (by rfl) hT.len PySem.boot_len (pa_cons (pe_fld (pv 0) rfl) pa_nil))), ?_⟩
  obtain ⟨⟨dx, fs, hob, hf⟩, e_pe, e_re, _⟩ := id hL
  refine ⟨.ref L.o, rfl, L.o, C, dx, fs, .ref L.pe, rfl, hob, T.cl, T.n_pe, hf.pe, L.pe, _, rfl, .inl (SqL.of e_pe), ?_⟩
  rw [ppl_len]
  exact q
end
end CL
set_option Elab.async false
set_option linter.all false
set_option maxRecDepth 100000
set_option maxHeartbeats 4000000
namespace CL
open PySem PySem.Spec PyProof.Rows L2 GE
abbrev sPatL : Stmt := topS 19
theorem scPatL : FnScope ["bag", "most"] ["bag", "most"] (defScope sPatL) := ⟨rfl, rfl, rfl, by decide +kernel, rfl, by decide +kernel, by decide +kernel⟩
def spE (sp : Bg → Sp) : Sp := fun vs H Q E => ∃ r, sp r vs H Q E
def spPatL (r : Bg) : Sp := fun vs H Q _ => ∃ (m : Int) (n : Nat), vs = [.ref r.a, .int m] ∧ BagAt n H r ∧ n + 4 < M60 ∧ 2 ≤ m ∧ m ≤ GREAT ∧ ∀ o H', BagAt (n + 4) H' r → Mv r H H' → isPatience (optD o) = true → (∀ i, o = some i → i ≤ m) → Q (optV o) H'
theorem t140 : (2 : Int) ^ 140 = 1393796574908163946345982392040522594123776 := by decide +kernel
theorem pat_some {i : Int} (h0 : 0 ≤ i) (h1 : i ≤ GREAT) : isPatience (optD (some i)) = true := by
  show (decide (0 ≤ i) && decide (i ≤ GREAT)) = true
  rw [decide_eq_true h0, decide_eq_true h1]
  rfl
section
variable {P : Program} {w : World} {K : PySem.W.Frag} {mg : Str → Option Value} {base : Heap}
theorem ok_patL {f : Addr} {r : Bg} {fd : FuncData} (F : Fun K "_law_patience" "_law_patience" sPatL f fd) (CD : Cal P w K mg base 2 "_law_draw" ["bag", "many"] (spDraw r)) : FnOk P w K mg base CX0 3 f fd ["bag", "most"] (spPatL r) := by
  refine F.ok scPatL (fun vs H Q E ⟨m, n, e, _⟩ => by rw [e]; rfl) (fun cdv A outer s H vs Q E hr h => ?_)
  obtain ⟨m, n, rfl, hb, hn, hm0, hm, q⟩ := h
  refine ⟨_, pss_one (ps_ret (pe_ix ix_list (pe_lst (pa_cons (pe_cal CD hr (by rfl) (pa_cons (pv 0) (pa_cons pe_int pa_nil))) (pa_cons (pe_cal CD hr (by rfl) (pa_cons (pv 0) (pa_cons pe_int pa_nil))) (pa_cons (pe_cal CD hr (by rfl) (pa_cons (pv 0) (pa_cons (pe_op op_add (pv 1) pe_int) pa_nil))) (pa_cons pe_non pa_nil))))) (pe_cal CD hr (by rfl) (pa_cons (pv 0) (pa_cons pe_int pa_nil))) (fun _ _ => rfl))), ?_⟩
  have hm' : m ≤ 1000000000000000000000000000000 := hm
  refine ⟨.ref r.a, rfl, 3, n, rfl, hb, by omega, by decide, by decide, fun x1 H1 b1 v1 a1 c1 => ?_⟩
  refine ⟨.ref r.a, rfl, 3, n + 1, rfl, b1, by omega, by decide, by decide, fun x2 H2 b2 v2 a2 c2 => ?_⟩
  refine ⟨.ref r.a, rfl, .int m, rfl, m, 1, rfl, rfl, m + 1, n + 2, rfl, b2, by omega, by omega, by rw [t140]; omega, fun x3 H3 b3 v3 a3 c3 => ?_⟩
  refine ⟨small_le (by show 4 ≤ 1000; decide), fun p np => ?_⟩
  have s4 : Same H3 (upd H3 p (.lst [.int x1, .int x2, .int x3, .non])) := same_upd np
  have e4 : (upd H3 p (.lst [.int x1, .int x2, .int x3, .non])) p = some (.lst ([some x1, some x2, some x3, none].map optV)) := upd_same
  have npr := b3.new np
  generalize upd H3 p (.lst [.int x1, .int x2, .int x3, .non]) = H4 at s4 e4
  refine ⟨.ref r.a, rfl, 4, n + 3, rfl, b3.same s4, by omega, by decide, by decide, fun x5 H5 b5 v5 a5 c5 => ?_⟩
  obtain ⟨j, rfl⟩ : ∃ j : Nat, x5 = (j : Int) := ⟨x5.toNat, by omega⟩
  have hj : j < [some x1, some x2, some x3, none].length := by show j < 4; omega
  have key : isPatience (optD [some x1, some x2, some x3, none][j]) = true ∧ ∀ i, [some x1, some x2, some x3, none][j] = some i → i ≤ m := by
    have g1 : (1000000000000000000000000000000 : Int) = GREAT := rfl
    match j, hj with
    | 0, _ => exact ⟨pat_some a1 (by omega), fun i e => by cases e; omega⟩
    | 1, _ => exact ⟨pat_some a2 (by omega), fun i e => by cases e; omega⟩
    | 2, _ => exact ⟨pat_some a3 (by omega), fun i e => by cases e; omega⟩
    | 3, _ => exact ⟨rfl, fun i e => by cases e⟩
  exact ⟨p, _, j, optV [some x1, some x2, some x3, none][j], rfl, rfl, SqL.of (v5.keep p _ npr.a e4), atI_nat (by rw [List.getElem?_map, List.getElem?_eq_getElem hj]; rfl), q _ H5 b5 ((v1.trans v2).trans (v3.trans ((Mv.of s4).trans v5))) key.1 key.2⟩
end
/-! ### lists of numbers and None, as data -/
theorem opts_dp {K : PySem.W.Frag} {H : Hp} : ∀ os : List (Option Int), DpAll K H (os.map optV) (os.map optD)
  | [] => .nil
  | o :: os => .cons (optV_dp o) (opts_dp os)
theorem opts_lay : ∀ os : List (Option Int), PyData.canLayAll0 (os.map optD) = true
  | [] => by simp [PyData.canLayAll0]
  | o :: os => by
    have := opts_lay os
    cases o <;> simp [PyData.canLayAll0, PyData.canLay0, this, optD]
theorem opts_depth : ∀ os : List (Option Int), PyData.depthAll (os.map optD) = 0
  | [] => rfl
  | o :: os => by
    have := opts_depth os
    show max (PyData.depth (optD o)) (PyData.depthAll (os.map optD)) = 0
    rw [this]
    cases o <;> rfl
theorem opts_shaped (os : List (Option Int)) : SeqAt.shaped (.list (os.map optD)) = true := by
  unfold SeqAt.shaped
  have h1 : PyData.canLay0 (.list (os.map optD)) = true := by
    have := opts_lay os
    simp [PyData.canLay0, this]
  have h2 : PyData.depth (.list (os.map optD)) = 1 := by
    show PyData.depthAll (os.map optD) + 1 = 1
    rw [opts_depth]
  rw [h1, h2]
  rfl
theorem eqvAll_opts : ∀ as : List (Option Int), PyData.eqvAll (as.map optD) (as.map optD) = true
  | [] => by simp [PyData.eqvAll]
  | o :: as => by
    have := eqvAll_opts as
    cases o <;> simp [PyData.eqvAll, PyData.eqv, optD, this]
theorem eqv_opts (as : List (Option Int)) : PyData.eqv (.list (as.map optD)) (.list (as.map optD)) = true := by
  have := eqvAll_opts as
  simp [PyData.eqv, this]
def so (xs : List Nat) : List (Option Int) := xs.map fun x : Nat => some (x : Int)
theorem ppl_so (xs : List Nat) : ppl xs = (so xs).map optV := by
  unfold ppl so
  rw [List.map_map]
  rfl
theorem opts_flat : ∀ os : List (Option Int), (os.map optV).all flatV = true
  | [] => rfl
  | o :: os => by
    have := opts_flat os
    cases o <;> simp [optV, flatV, this]
theorem inV_zero : ∀ os : List (Option Int), inV (.int 0) (os.map optV) = decide (some 0 ∈ os)
  | [] => rfl
  | o :: os => by
    have ih := inV_zero os
    unfold inV at ih ⊢
    rw [List.map_cons, List.any_cons, ih]
    cases o with
    | none => simp [optV, eqV]
    | some i =>
      show ((i == 0) || decide (some 0 ∈ os)) = decide (some 0 ∈ some i :: os)
      by_cases h : i = 0
      · simp [h]
      · have h' : ¬ (0 : Int) = i := fun z => h z.symm
        simp [h, h']
theorem range_ppl (m : Nat) : rgV 0 (m : Int) = ppl (List.range m) := by
  unfold rgV ppl
  have e : ((m : Int) - 0).toNat = m := by omega
  rw [e]
  refine List.map_congr_left fun i _ => ?_
  rw [Int.zero_add]
def rNeE : R2 := fun x y H Q => ∃ (a b : Addr) (xs : List V), x = .ref a ∧ y = .ref b ∧ H a = some (.lst xs) ∧ H b = some (.lst []) ∧ Q (.bl (!xs.isEmpty)) H
theorem op_neE {X : Cx} (hu : X.A.units < cLine) : OpR X (compareOp .NotEq) rNeE := by
  intro pins s σ H x y v u Q I rx ry ⟨a, b, xs, ex, ey, ha, hb, q⟩
  subst ex ey
  obtain ⟨its, rv, p1, _⟩ := I.list (SqL.of ha)
  obtain ⟨jts, rw', p2, _⟩ := I.list (SqL.of hb)
  cases rx
  cases ry
  have l1 := rv.length
  have l2 := rw'.length
  cases xs with
  | nil =>
    have e : its.toArray.size = jts.toArray.size := by rw [List.size_toArray, List.size_toArray, ← l1, ← l2]
    have e0 : its.toArray.size = 0 := by rw [List.size_toArray, ← l1]; rfl
    have z := SeqAt.RcNeAt.lists (A := X.A) (e := fun _ => true) p1.isList p2.isList e hu (fun j h1 => absurd h1 (by rw [e0]; exact Nat.not_lt_zero j))
    refine z X.prog X.w _ _ ⟨.bl _, H, I, ?_, q⟩
    rw [e0]
    rfl
  | cons x xs =>
    have e : (its.toArray.size != jts.toArray.size) = true := by
      rw [List.size_toArray, List.size_toArray, ← l1, ← l2]
      rfl
    exact SeqAt.RcNeAt.lists_lengths (A := X.A) p1.isList p2.isList e hu X.prog X.w _ _ ⟨.bl _, H, I, rfl, q⟩
theorem Flds.come {fs : List (Str × V)} {L : LnA} (h : Flds fs L) : fs.lookup ("come" : Str) = none := h.no _ (by decide +kernel) (by decide +kernel) (by decide +kernel) (by decide +kernel) (by decide +kernel)
theorem Flds.serve {fs : List (Str × V)} {L : LnA} (h : Flds fs L) : fs.lookup ("serve" : Str) = none := h.no _ (by decide +kernel) (by decide +kernel) (by decide +kernel) (by decide +kernel) (by decide +kernel)
theorem Flds.queue {fs : List (Str × V)} {L : LnA} (h : Flds fs L) : fs.lookup ("queue" : Str) = none := h.no _ (by decide +kernel) (by decide +kernel) (by decide +kernel) (by decide +kernel) (by decide +kernel)
theorem Flds.left {fs : List (Str × V)} {L : LnA} (h : Flds fs L) : fs.lookup ("left" : Str) = none := h.no _ (by decide +kernel) (by decide +kernel) (by decide +kernel) (by decide +kernel) (by decide +kernel)
theorem Flds.went {fs : List (Str × V)} {L : LnA} (h : Flds fs L) : fs.lookup ("went_past" : Str) = none := h.no _ (by decide +kernel) (by decide +kernel) (by decide +kernel) (by decide +kernel) (by decide +kernel)
/-! ### a bag and lines side by side -/
section
variable {n : Nat} {C : Addr} {H H' : Hp} {r : Bg} {L : LnA} {s : LS}
theorem BagAt.mvL (hb : BagAt n H r) (h1 : ¬ L.has r.a) (h2 : ¬ L.has r.c) (m : MvL L H H') : BagAt n H' r := by
  obtain ⟨ns, i, b, k, t, er, ec, h⟩ := hb
  exact ⟨ns, i, b, k, t, m.keep _ _ h1 er, m.keep _ _ h2 ec, h⟩
theorem BagAt.isl (hb : BagAt n H r) : ∃ vs, H r.a = Option.some (HO.lst vs) := by
  obtain ⟨ns, i, b, k, t, er, ec, h⟩ := hb
  exact ⟨_, er⟩
theorem LineAt.mv (h : LineAt C H L s) (hb : BagAt n H r) (d : ¬ L.has r.a) (m : Mv r H H') : LineAt C H' L s := h.kx fun b o hbo e => m.keep b o (fun z => by
  rcases hbo with q | q
  · exact d (by rw [← z]; exact q)
  · obtain ⟨vs, e2⟩ := hb.isl
    rw [z, e2] at e
    exact q vs (Option.some.inj e).symm) e
theorem LineAt.store (h : LineAt C H L s) {g : Addr} {xs ys : List V} (e : H g = some (.lst xs)) (d : ¬ L.has g) : LineAt C (upd H g (.lst ys)) L s := h.kx fun b o hbo eb => by
  rw [upd_ne]
  · exact eb
  · intro z
    rcases hbo with q | q
    · exact d (by rw [← z]; exact q)
    · rw [z, e] at eb
      exact q _ (Option.some.inj eb).symm
end
end CL
set_option Elab.async false
set_option linter.all false
set_option maxRecDepth 100000
set_option maxHeartbeats 4000000
namespace CL
open PySem PySem.Spec PyProof.Rows L2 GE
abbrev sLaw : Stmt := topS 20
abbrev nLaw : List Str := ["script", "bag", "turn", "one", "other", "gone", "wide", "number", "patience", "again", "stand", "people", "person"]
theorem scLaw : FnScope nLaw ["script"] (defScope sLaw) := ⟨rfl, rfl, rfl, by decide +kernel, rfl, by decide +kernel, by decide +kernel⟩
def spLaw (K : PySem.W.Frag) : Sp := fun vs H Q _ => ∃ (a : Addr) (ns : List Int), vs = [.ref a] ∧ SqL K H a (ns.map V.int) ∧ ns.length ≤ 63 ∧ ∀ H', Q (.bl true) H'
theorem pick3 {K : PySem.W.Frag} {σ : L2.St} {H : Hp} {Q : VK} {r : Bg} {n k : Nat} {a b c : Int} (h : σ[k]? = some (some (.ref r.a))) (hb : BagAt n H r) (hn : n < M60) (q : ∀ w H', (w = a ∨ w = b ∨ w = c) → BagAt (n + 1) H' r → Mv r H H' → Q (.int w) H') :
    tOp (rIxL K) (tLst (tCons (tC (.int a)) (tCons (tC (.int b)) (tCons (tC (.int c)) tNil)))) (tCall (spE spDraw) [] E0 (tCons (tVar k) (tCons (tC (.int 3)) tNil))) σ H Q := by
  refine ⟨small_le (by show 3 ≤ 1000; decide), fun p np => ?_⟩
  have s4 : Same H (upd H p (.lst [.int a, .int b, .int c])) := same_upd np
  have e4 : (upd H p (.lst [.int a, .int b, .int c])) p = some (.lst [.int a, .int b, .int c]) := upd_same
  have npr := hb.new np
  generalize upd H p (.lst [.int a, .int b, .int c]) = H4 at s4 e4
  refine ⟨.ref r.a, h, r, 3, n, rfl, hb.same s4, hn, by decide, by decide, fun x5 H5 b5 v5 a5 c5 => ?_⟩
  obtain ⟨j, rfl⟩ : ∃ j : Nat, x5 = (j : Int) := ⟨x5.toNat, by omega⟩
  have hj : j < 3 := by omega
  have key : ∃ w, [V.int a, .int b, .int c][j]? = some (.int w) ∧ (w = a ∨ w = b ∨ w = c) := by
    match j, hj with
    | 0, _ => exact ⟨a, rfl, .inl rfl⟩
    | 1, _ => exact ⟨b, rfl, .inr (.inl rfl)⟩
    | 2, _ => exact ⟨c, rfl, .inr (.inr rfl)⟩
  obtain ⟨w, hw, hw2⟩ := key
  exact ⟨p, _, j, .int w, rfl, rfl, SqL.of (v5.keep p _ npr.a e4), atI_nat hw, q w H5 hw2 b5 ((Mv.of s4).trans v5)⟩
structure Dis (r : Bg) (A B : LnA) (g : Addr) : Prop where
  ab : ∀ b, A.has b → ¬ B.has b
  ba : ∀ b, B.has b → ¬ A.has b
  aa : ¬ A.has r.a
  ac : ¬ A.has r.c
  b_a : ¬ B.has r.a
  bc : ¬ B.has r.c
  ag : ¬ A.has g
  bg : ¬ B.has g
  g : Off r g
structure Wd (C : Addr) (n : Nat) (H : Hp) (r : Bg) (A B : LnA) (g : Addr) (s t : LS) (gs : List Nat) : Prop where
  bag : BagAt n H r
  la : LineAt C H A s
  lb : LineAt C H B t
  gl : H g = some (.lst (ppl gs))
section
variable {C : Addr} {n m : Nat} {H H' : Hp} {r : Bg} {A B : LnA} {g : Addr} {s t s' : LS} {gs : List Nat}
theorem Wd.same (w : Wd C n H r A B g s t gs) (m : Same H H') : Wd C n H' r A B g s t gs := ⟨w.bag.same m, w.la.same m, w.lb.same m, m _ _ w.gl⟩
theorem Wd.mv (w : Wd C n H r A B g s t gs) (d : Dis r A B g) (b : BagAt m H' r) (v : Mv r H H') : Wd C m H' r A B g s t gs := ⟨b, w.la.mv w.bag d.aa v, w.lb.mv w.bag d.b_a v, v.keep _ _ d.g.a w.gl⟩
theorem Wd.mvA (w : Wd C n H r A B g s t gs) (d : Dis r A B g) (l : LineAt C H' A s') (v : MvL A H H') : Wd C n H' r A B g s' t gs := ⟨w.bag.mvL d.aa d.ac v, l, w.lb.other w.la d.ba v, v.keep _ _ d.ag w.gl⟩
theorem Wd.mvB (w : Wd C n H r A B g s t gs) (d : Dis r A B g) (l : LineAt C H' B s') (v : MvL B H H') : Wd C n H' r A B g s s' gs := ⟨w.bag.mvL d.b_a d.bc v, w.la.other w.lb d.ab v, l, v.keep _ _ d.bg w.gl⟩
theorem Wd.st (w : Wd C n H r A B g s t gs) (d : Dis r A B g) {hs : List Nat} : Wd C n (upd H g (.lst (ppl hs))) r A B g s t hs := ⟨w.bag.store d.g, w.la.store w.gl d.ag, w.lb.store w.gl d.bg, upd_same⟩
end
section
variable {P : Program} {w : World} {K : PySem.W.Frag} {mg : Str → Option Value} {base : Heap} {C fI fC fS fQ fL fW fLN : Addr}
theorem ok_law {f : Addr} {fd fdI fdC fdS fdQ fdL fdW fdLN : FuncData} (F : Fun K "law" "law" sLaw f fd) (hT : Nm mg) (T : LnT K mg C) (M : Mk K C fI)
    (GI : FnOk P w K mg base CX0 1 fI fdI ["self"] (spInit C)) (bI : Binds K fdI ["self"] [])
    (mC : Meth K C "come" fC) (GC : FnOk P w K mg base CX0 3 fC fdC ["self", "patience"] (spComeM C)) (bC : Binds K fdC ["self", "patience"] [])
    (mS : Meth K C "serve" fS) (GS : FnOk P w K mg base CX0 1 fS fdS ["self"] (spServeM C)) (bS : Binds K fdS ["self"] [])
    (mQ : Meth K C "queue" fQ) (GQ : FnOk P w K mg base CX0 1 fQ fdQ ["self"] (spQueM C)) (bQ : Binds K fdQ ["self"] [])
    (mL : Meth K C "left" fL) (GL : FnOk P w K mg base CX0 1 fL fdL ["self"] (spLeftM C)) (bL : Binds K fdL ["self"] [])
    (mW : Meth K C "went_past" fW) (GW : FnOk P w K mg base CX0 2 fW fdW ["self", "person"] (spWentM C)) (bW : Binds K fdW ["self", "person"] [])
    (hLs : PySem.W.findIn K (.ref C) "__len__" = some (some (.ref fLN))) (hLf : PySem.W.isFn K (.ref fLN) = true) (GLN : FnOk P w K mg base CX0 1 fLN fdLN ["self"] (spLenM C)) (bLN : Binds K fdLN ["self"] [])
    (CB : Cal P w K mg base 4 "_law_bag" ["script"] (spBag K)) (CD : Cal P w K mg base 4 "_law_draw" ["bag", "many"] (spE spDraw)) (CPL : Cal P w K mg base 4 "_law_patience" ["bag", "most"] (spE spPatL)) : FnOk P w K mg base CX0 6 f fd ["script"] (spLaw K) := by
  refine F.ok scLaw (fun vs H Q E ⟨a, ns, e, _⟩ => by rw [e]; rfl) (fun cdv A outer s H vs Q E hr h => ?_)
  obtain ⟨a, ns, rfl, hS, h63, q⟩ := h
  have nd := scLaw.nd
  refine ⟨_, (pss_cons (ps_set (i := 1) nd rfl (.inl rfl) (pe_cal CB (hr.mono (by decide)) (by rfl) (pa_cons (pv 0) pa_nil)))
      (pss_cons (ps_for PassesOwn.never rfl (pi_range1 (by rfl) hT.range (pa_cons (pe_op op_add pe_int (pe_callB (call_min2 rfl) (by rfl) hT.min (by decide +kernel) (pa_cons pe_int (pa_cons (pe_callB call_len_seq (by rfl) hT.len PySem.boot_len (pa_cons (pv 0) pa_nil)) pa_nil)))) pa_nil)) (pg_name (i := 2) nd rfl (.inl rfl)) (pss_cons (ps_asg (pe_tup (pa_cons (pe_make0 M GI (hr.mono (by decide)) rfl T.mgC bI .nil pass0) (pa_cons (pe_make0 M GI (hr.mono (by decide)) rfl T.mgC bI .nil pass0) pa_nil))) (pg_tup rfl (pgs_cons (pg_name (i := 3) nd rfl (.inr rfl)) (pgs_cons (pg_name (i := 4) nd rfl (.inr rfl)) pgs_nil))))
      (pss_cons (ps_set (i := 5) nd rfl (.inl rfl) (pe_lst pa_nil))
      (pss_cons (ps_set (i := 6) nd rfl (.inl rfl) (pe_ix ix_list (pe_lst (pa_cons pe_int (pa_cons pe_int (pa_cons pe_int pa_nil)))) (pe_cal CD (hr.mono (by decide)) (by rfl) (pa_cons (pv 1) (pa_cons pe_int pa_nil))) (fun _ _ => rfl)))
      (pss_cons (ps_for PassesOwn.never rfl (pi_range1 (by rfl) hT.range (pa_cons (pe_cal CD (hr.mono (by decide)) (by rfl) (pa_cons (pv 1) (pa_cons pe_int pa_nil))) pa_nil)) (pg_name (i := 7) nd rfl (.inl rfl)) (pss_cons (ps_set (i := 8) nd rfl (.inl rfl) (pe_cal CPL (hr.mono (by decide)) (by rfl) (pa_cons (pv 1) (pa_cons (pv 6) pa_nil))))
      (pss_cons (ps_if (pt_cmpR (op_neD hr.units) (pe_lst (pa_cons (pe_meth (pv 3) T.cl mC GC (hr.mono (by decide)) bC .nil pass0 (pa_cons (pv 8) pa_nil)) (pa_cons (pe_meth (pv 4) T.cl mC GC (hr.mono (by decide)) bC .nil pass0 (pa_cons (pv 8) pa_nil)) pa_nil))) (pe_lst (pa_cons (pv 7) (pa_cons (pv 7) pa_nil))) (nomark _)) (pss_one (ps_ret pe_bl)) pss_nil)
      (pss_cons (ps_for PassesOwn.never rfl (pi_range1 (by rfl) hT.range (pa_cons (pe_cal CD (hr.mono (by decide)) (by rfl) (pa_cons (pv 1) (pa_cons pe_int pa_nil))) pa_nil)) (pg_name (i := 9) nd rfl (.inl rfl)) (pss_one (ps_if (pt_cmpR op_in_seq pe_int (pe_meth0 (pv 3) T.cl mL GL (hr.mono (by decide)) bL .nil pass0) (by rfl)) (pss_cons (ps_expr (pe_bm PySem.F.plainAttrs_list PySem.F.slot_list_append PySem.F.type_list_append mt_append (pv 5) (pa_cons (pe_meth0 (pv 3) T.cl mS GS (hr.mono (by decide)) bS .nil pass0) pa_nil)))
      (pss_one (ps_if (pt_cmpR (op_neD hr.units) (pv 5) (pe_slice sl_list (pe_meth0 (pv 4) T.cl mQ GQ (hr.mono (by decide)) bQ .nil pass0) po_none (po_some (pe_callB call_len_seq (by rfl) hT.len PySem.boot_len (pa_cons (pv 5) pa_nil)))) (nomark _)) (pss_one (ps_ret pe_bl)) pss_nil))) pss_nil)))
      (pss_cons (ps_set (i := 10) nd rfl (.inl rfl) (pe_meth0 (pv 4) T.cl mQ GQ (hr.mono (by decide)) bQ .nil pass0))
      (pss_one (ps_if (PW.pt (pw_or (pt_cmpR (op_neD hr.units) (pe_meth0 (pv 3) T.cl mQ GQ (hr.mono (by decide)) bQ .nil pass0) (pe_slice sl_list (pv 10) (po_some (pe_callB call_len_seq (by rfl) hT.len PySem.boot_len (pa_cons (pv 5) pa_nil))) po_none) (nomark _)) (pw_or1 (pt_cmpR (op_neD hr.units) (pe_meth0 (pv 3) T.cl mL GL (hr.mono (by decide)) bL .nil pass0) (pe_slice sl_list (pe_meth0 (pv 4) T.cl mL GL (hr.mono (by decide)) bL .nil pass0) (po_some (pe_callB call_len_seq (by rfl) hT.len PySem.boot_len (pa_cons (pv 5) pa_nil))) po_none) (nomark _))))) (pss_one (ps_ret pe_bl)) pss_nil)))))))
      (pss_cons (ps_set (i := 11) nd rfl (.inl rfl) (pe_listRg rfl (by rfl) hT.list (prg_1 (by rfl) hT.range (pe_op op_add (pe_callB call_len_seq (by rfl) hT.len PySem.boot_len (pa_cons (pv 5) pa_nil)) (pe_callB (call_lenOwn GLN (hr.mono (by decide)) hLs hLf bLN pass0) (by rfl) hT.len PySem.boot_len (pa_cons (pv 3) pa_nil))))))
      (pss_cons (ps_if (pt_cmpR (op_neE hr.units0) (pe_lc (own := [("person", 12)]) (g := gName 12) rfl nd (pi_list (pv 11)) (blkOk_by (own := [("person", 12)]) (N := nLaw) (sc := defScope sLaw) (by decide +kernel)) (fun _ _ _ _ _ => pg_name (i := 12) nd rfl (Or.inl rfl)) (fun _ _ _ _ _ => pts_one (pt_cmpR op_ne (pe_meth (pv 3) T.cl mW GW (hr.mono (by decide)) bW .nil pass0 (pa_cons (pv 12) pa_nil)) (pe_meth (pv 4) T.cl mW GW (hr.mono (by decide)) bW .nil pass0 (pa_cons (pv 12) pa_nil)) (nomark _))) (fun _ _ _ _ _ => pv 12)) (pe_lst pa_nil) (nomark _)) (pss_one (ps_ret pe_bl)) pss_nil)
      (pss_one (ps_if (pt_cmpR op_ne (pe_op op_add (pe_callB (call_lenOwn GLN (hr.mono (by decide)) hLs hLf bLN pass0) (by rfl) hT.len PySem.boot_len (pa_cons (pv 3) pa_nil)) (pe_callB call_len_seq (by rfl) hT.len PySem.boot_len (pa_cons (pv 5) pa_nil))) (pe_callB (call_lenOwn GLN (hr.mono (by decide)) hLs hLf bLN pass0) (by rfl) hT.len PySem.boot_len (pa_cons (pv 4) pa_nil)) (nomark _)) (pss_one (ps_ret pe_bl)) pss_nil)))))))))
      (pss_one (ps_ret pe_bl)))), ?_⟩
  have hM : M60 = 1000000000000000000 := rfl
  have hGr : (1000000000000000000000000000000 : Int) = GREAT := rfl
  refine ⟨.ref a, rfl, a, ns, rfl, hS, fun r H1 s1 nr b1 => ?_⟩
  have lm : (ns.map V.int).length = ns.length := List.length_map ..
  refine ⟨.ref a, rfl, a, ns.map V.int, rfl, .inl (s1.seq hS), 3, (ns.map V.int).length, rfl, 2, _, rfl, rfl, _, rfl, by split <;> omega, by split <;> omega, ?_⟩
  refine for_range (lo := 0) (n := ((2 : Int) + (if ((ns.map V.int).length : Int) < 3 then ((ns.map V.int).length : Int) else 3)).toNat) (fun i σ H2 => ∃ y2 y3 y4 y5 y6 y7 y8 y9 y10 y11, σ = [some (.ref a), some (.ref r.a), y2, y3, y4, y5, y6, y7, y8, y9, y10, y11, none] ∧ BagAt (1000 * i) H2 r)
    ⟨none, none, none, none, none, none, none, none, none, none, rfl, b1.mono (Nat.zero_le _)⟩ (fun i0 σ H2 hi hP => ?_) (fun σ H2 _ => q H2)
  obtain ⟨y2, y3, y4, y5, y6, y7, y8, y9, y10, y11, rfl, b2⟩ := hP
  have hi5 : i0 < 5 := by split at hi <;> omega
  clear hi
  -- one, other = Line(), Line()
  refine fun x1 dx1 nx1 nd1 ne1 => ⟨x1, dx1, rfl, upd_same, fun A G1 eA nA lA kA => ⟨rfl, ?_⟩⟩
  have s01 : Same H2 G1 := fun b o e => kA b o (ne_of_none e nx1) (by rw [upd_ne (ne_of_none e nx1), upd_ne (ne_of_none e nd1)]; exact e)
  have nA0 : ∀ b, A.has b → H2 b = none := fun b hb => by
    cases z : H2 b with
    | none => rfl
    | some o =>
      have := nA b hb
      rw [upd_ne (ne_of_none z nx1), upd_ne (ne_of_none z nd1), z] at this
      cases this
  subst eA
  refine fun x2 dx2 nx2 nd2 ne2 => ⟨x2, dx2, rfl, upd_same, fun B G2 eB nB lB kB => ⟨rfl, small_le (by show 2 ≤ 1000; decide), fun p np => ?_⟩⟩
  have s12 : Same G1 G2 := fun b o e => kB b o (ne_of_none e nx2) (by rw [upd_ne (ne_of_none e nx2), upd_ne (ne_of_none e nd2)]; exact e)
  have nB0 : ∀ b, B.has b → G1 b = none := fun b hb => by
    cases z : G1 b with
    | none => rfl
    | some o =>
      have := nB b hb
      rw [upd_ne (ne_of_none z nx2), upd_ne (ne_of_none z nd2), z] at this
      cases this
  subst eB
  refine ⟨p, _, rfl, SqT.of upd_same, rfl, .ref A.o, _, rfl, .ref B.o, _, rfl, rfl, ?_⟩
  have s23 : Same G2 (upd G2 p (.tup [.ref A.o, .ref B.o])) := same_upd np
  generalize upd G2 p (.tup [.ref A.o, .ref B.o]) = G3 at s23
  show tSeq _ _ _ [some (.ref a), some (.ref r.a), some (.int (0 + (i0 : Int))), some (.ref A.o), some (.ref B.o), y5, y6, y7, y8, y9, y10, y11, none] G3
  refine ⟨Nat.zero_le _, fun g ng => ?_⟩
  have s34 : Same G3 (upd G3 g (.lst (ppl []))) := same_upd ng
  have gl4 : (upd G3 g (.lst (ppl []))) g = some (.lst (ppl [])) := upd_same
  have b3 := ((b2.same s01).same s12).same s23
  have lA3 := (lA.same s12).same s23
  have lB3 := lB.same s23
  have dis : Dis r A B g := by
    have ab : ∀ b, A.has b → ¬ B.has b := fun b ha hb => by
      obtain ⟨vs, e⟩ := lA.isl ha
      rw [nB0 b hb] at e
      cases e
    refine ⟨ab, fun b hb ha => ab b ha hb, fun z => b2.some (nA0 _ z), fun z => b2.someC (nA0 _ z), fun z => (b2.same s01).some (nB0 _ z), fun z => (b2.same s01).someC (nB0 _ z), fun z => ?_, fun z => ?_, b3.new ng⟩
    · obtain ⟨vs, e⟩ := lA3.isl z
      rw [ng] at e
      cases e
    · obtain ⟨vs, e⟩ := lB3.isl z
      rw [ng] at e
      cases e
  have w4 : Wd C (1000 * i0) (upd G3 g (.lst (ppl []))) r A B g LS.nil LS.nil [] := ⟨b3.same s34, lA3.same s34, lB3.same s34, gl4⟩
  show tSeq _ _ _ [some (.ref a), some (.ref r.a), some (.int (0 + (i0 : Int))), some (.ref A.o), some (.ref B.o), some (.ref g), y6, y7, y8, y9, y10, y11, none] (upd G3 g (.lst (ppl [])))
  generalize upd G3 g (.lst (ppl [])) = G4 at w4
  clear s34 gl4 b3 lA3 lB3 s23 s12 s01 nA nB nA0 nB0 kA kB lA lB np ng nx1 nd1 nx2 nd2 b2
  refine pick3 (k := 1) rfl w4.bag (by omega) fun wd H5 hw b5 v5 => ?_
  have hw2 : 2 ≤ wd := by omega
  have hwG : wd ≤ GREAT := by omega
  clear hw
  have w5 := w4.mv dis b5 v5
  show tSeq _ _ _ [some (.ref a), some (.ref r.a), some (.int (0 + (i0 : Int))), some (.ref A.o), some (.ref B.o), some (.ref g), some (.int wd), y7, y8, y9, y10, y11, none] H5
  refine ⟨.ref r.a, rfl, r, 81, 1000 * i0 + 1, rfl, w5.bag, by omega, by decide, by decide, fun m H6 b6 v6 m0 m1 => ⟨m, rfl, by omega, by omega, ?_⟩⟩
  have w6 := w5.mv dis b6 v6
  refine for_range (lo := 0) (n := m.toNat) (fun i σ G => ∃ (s t : LS) (k : Nat) (y7 y8 y9 y10 : Option V), σ = [some (.ref a), some (.ref r.a), some (.int (0 + (i0 : Int))), some (.ref A.o), some (.ref B.o), some (.ref g), some (.int wd), y7, y8, y9, y10, y11, none] ∧ Wd C (1000 * i0 + 2 + 5 * i) G r A B g s t (t.xs.take k) ∧ Beh k s t ∧ t.ps.length = i)
    ⟨LS.nil, LS.nil, 0, y7, y8, y9, y10, rfl, w6, ⟨rfl, rfl, rfl, Nat.le_refl _, .inl rfl⟩, rfl⟩ (fun i σ G hi hP => ?_) (fun σ G hP => ?_)
  · obtain ⟨s, t, k, y7, y8, y9, y10, rfl, wd0, beh, hti⟩ := hP
    have hi80 : i < 81 := by omega
    have hsi : s.ps.length = i := by rw [beh.ps]; exact hti
    -- patience
    refine ⟨.ref r.a, rfl, .int wd, rfl, r, wd, 1000 * i0 + 2 + 5 * i, rfl, wd0.bag, by omega, hw2, hwG, fun o H7 b7 v7 hp _ => ?_⟩
    have wd7 := wd0.mv dis b7 v7
    show tSeq _ _ _ [some (.ref a), some (.ref r.a), some (.int (0 + (i0 : Int))), some (.ref A.o), some (.ref B.o), some (.ref g), some (.int wd), some (.int (0 + (i : Int))), some (optV o), y9, y10, y11, none] H7
    obtain ⟨dxA, fsA, hoA, hfA⟩ := wd7.la.ob
    refine ⟨.ref A.o, rfl, A.o, dxA, fsA, rfl, hoA, hfA.come, optV o, rfl, A, s, o, rfl, wd7.la, hp, by omega, fun H8 l8 m8 => ?_⟩
    have wd8 := wd7.mvA dis l8 m8
    obtain ⟨dxB, fsB, hoB, hfB⟩ := wd8.lb.ob
    refine ⟨.ref B.o, rfl, B.o, dxB, fsB, rfl, hoB, hfB.come, optV o, rfl, B, t, o, rfl, wd8.lb, hp, by omega, fun H9 l9 m9 => ⟨small_le (by show 2 ≤ 1000; decide), fun p1 n1 => ?_⟩⟩
    have wd9 := (wd8.mvB dis l9 m9).same (same_upd (o := .lst [.int (s.ps.length : Int), .int (t.ps.length : Int)]) n1)
    have e9 : (upd H9 p1 (.lst [.int (s.ps.length : Int), .int (t.ps.length : Int)])) p1 = some (.lst ([some (i : Int), some (i : Int)].map optV)) := by rw [upd_same, hsi, hti]; rfl
    generalize upd H9 p1 (.lst [.int (s.ps.length : Int), .int (t.ps.length : Int)]) = H10 at wd9 e9
    refine ⟨.int (0 + (i : Int)), rfl, .int (0 + (i : Int)), rfl, small_le (by show 2 ≤ 1000; decide), fun p2 n2 => ?_⟩
    have s10 : Same H10 (upd H10 p2 (.lst [.int (0 + (i : Int)), .int (0 + (i : Int))])) := same_upd n2
    have e10 : (upd H10 p2 (.lst [.int (0 + (i : Int)), .int (0 + (i : Int))])) p2 = some (.lst ([some (i : Int), some (i : Int)].map optV)) := by rw [upd_same, Int.zero_add]; rfl
    have wd11 := wd9.same s10
    generalize upd H10 p2 (.lst [.int (0 + (i : Int)), .int (0 + (i : Int))]) = H11 at s10 e10 wd11
    refine ⟨.list ([some (i : Int), some (i : Int)].map optD), .list ([some (i : Int), some (i : Int)].map optD), .lst (SqL.of (s10 _ _ e9)) (opts_dp _), .lst (SqL.of e10) (opts_dp _), opts_shaped _, opts_shaped _, _, rfl, ite2 (fun y => absurd y (by rw [eqv_opts]; simp)) (fun _ => ?_)⟩
    obtain ⟨beh2, htk⟩ := beh.come wd0.lb.ok o
    rw [← htk] at wd11
    have hti2 : (comeS t o).ps.length = i + 1 := by show (bump _ _ ++ [0]).length = _; rw [List.length_append, bump_len, hti]; rfl
    generalize comeS s o = s2 at wd11 beh2
    generalize comeS t o = t2 at wd11 beh2 hti2
    clear wd9 wd8 wd7 l8 m8 l9 m9 beh wd0 htk hti hsi
    -- for again in range(..)
    refine ⟨.ref r.a, rfl, r, 3, _, rfl, wd11.bag, by omega, by decide, by decide, fun m2 H12 b12 v12 m20 m21 => ⟨m2, rfl, by omega, by omega, ?_⟩⟩
    have wd12 := wd11.mv dis b12 v12
    refine for_range (lo := 0) (n := m2.toNat) (fun j σ G => ∃ (s : LS) (k : Nat) (y9 : Option V), σ = [some (.ref a), some (.ref r.a), some (.int (0 + (i0 : Int))), some (.ref A.o), some (.ref B.o), some (.ref g), some (.int wd), some (.int (0 + (i : Int))), some (optV o), y9, y10, y11, none] ∧ Wd C (1000 * i0 + 2 + 5 * i + 5) G r A B g s t2 (t2.xs.take k) ∧ Beh k s t2)
      ⟨s2, k, y9, rfl, wd12, beh2⟩ (fun j σ G hj hP => ?_) (fun σ G hP => ?_)
    · obtain ⟨s, k, y9, rfl, wd0, beh⟩ := hP
      have hti3 := wd0.lb.ok.tot
      have hsp : s.ps.length ≤ 400 := by rw [beh.ps]; omega
      obtain ⟨dxA, fsA, hoA, hfA⟩ := wd0.la.ob
      refine ⟨.ref A.o, rfl, A.o, dxA, fsA, rfl, hoA, hfA.left, A, s, rfl, wd0.la, fun p3 n3 => ⟨p3, _, rfl, .inl (SqL.of upd_same), rfl, opts_flat _, _, rfl, ite2 (fun y => ?_) (fun y => ?_)⟩⟩
      · have h0 : some 0 ∈ s.rs := of_decide_eq_true (by rw [← inV_zero]; exact y)
        have w1 := wd0.same (same_upd (o := .lst (s.rs.map optV)) n3)
        generalize upd G p3 (.lst (s.rs.map optV)) = H13 at w1
        obtain ⟨x, xs, hx⟩ : ∃ x xs, s.xs = x :: xs := by
          have hlen := w1.la.ok.len
          cases z : s.xs with
          | cons x xs => exact ⟨x, xs, rfl⟩
          | nil =>
            rw [z] at hlen
            rw [List.eq_nil_of_length_eq_zero hlen.symm] at h0
            cases h0
        obtain ⟨dxA, fsA, hoA, hfA⟩ := w1.la.ob
        refine ⟨.ref g, rfl, .inl ⟨rfl, _, SqL.of w1.gl⟩, .ref A.o, rfl, A.o, dxA, fsA, rfl, hoA, hfA.serve, A, s, x, xs, rfl, w1.la, hx, hsp, fun H14 r' hr' l14 m14 => ?_⟩
        have w2 := w1.mvA dis l14 m14
        obtain ⟨behs, htk⟩ := beh.serve h0 (r := r') hx
        have eg : ppl (t2.xs.take k) ++ [V.int (x : Int)] = ppl (t2.xs.take (k + 1)) := by
          rw [htk]
          unfold ppl
          rw [List.map_append]
          rfl
        refine ⟨g, _, _, rfl, rfl, w2.gl, by rw [ppl_len, List.length_take]; exact small1000 (by omega), ?_⟩
        rw [eg]
        have w3 := w2.st dis (hs := t2.xs.take (k + 1))
        generalize upd H14 g (.lst (ppl (t2.xs.take (k + 1)))) = H15 at w3
        obtain ⟨dxB, fsB, hoB, hfB⟩ := w3.lb.ob
        refine ⟨.ref g, rfl, .ref B.o, rfl, B.o, dxB, fsB, rfl, hoB, hfB.queue, B, t2, rfl, w3.lb, fun p4 n4 => ?_⟩
        have s4 : Same H15 (upd H15 p4 (.lst (ppl t2.xs))) := same_upd n4
        have e4 : (upd H15 p4 (.lst (ppl t2.xs))) p4 = some (.lst (ppl t2.xs)) := upd_same
        have w5 := w3.same s4
        generalize upd H15 p4 (.lst (ppl t2.xs)) = H16 at s4 e4 w5
        refine ⟨.ref g, rfl, g, _, rfl, .inl (SqL.of w5.gl), _, rfl, p4, _, rfl, SqL.of e4, fun p5 n5 => ?_⟩
        rw [cut_to]
        have e5 : (ppl t2.xs).take (ppl (t2.xs.take (k + 1))).length = ppl (t2.xs.take (k + 1)) := by
          rw [ppl_len, List.length_take]
          unfold ppl
          rw [← List.map_take]
          congr 1
          rcases Nat.le_total (k + 1) t2.xs.length with z | z
          · rw [Nat.min_eq_left z]
          · rw [Nat.min_eq_right z, List.take_length, List.take_of_length_le z]
        rw [e5]
        have w6 := w5.same (same_upd (o := .lst (ppl (t2.xs.take (k + 1)))) n5)
        have e6 : (upd H16 p5 (.lst (ppl (t2.xs.take (k + 1))))) p5 = some (.lst (ppl (t2.xs.take (k + 1)))) := upd_same
        generalize upd H16 p5 (.lst (ppl (t2.xs.take (k + 1)))) = H17 at w6 e6
        have g6 := w6.gl
        rw [ppl_so] at e6 g6
        refine ⟨.list ((so (t2.xs.take (k + 1))).map optD), .list ((so (t2.xs.take (k + 1))).map optD), .lst (SqL.of g6) (opts_dp _), .lst (SqL.of e6) (opts_dp _), opts_shaped _, opts_shaped _, _, rfl, ite2 (fun y => absurd y (by rw [eqv_opts]; simp)) (fun _ => ?_)⟩
        exact ⟨serveS s x r', k + 1, _, rfl, w6, behs⟩
      · exact ⟨s, k, _, rfl, wd0.same (same_upd n3), beh⟩
    · obtain ⟨s, k, y9, rfl, wd0, beh⟩ := hP
      have hti3 := wd0.lb.ok.tot
      dsimp only []
      show tSeq _ _ _ [some (.ref a), some (.ref r.a), some (.int (0 + (i0 : Int))), some (.ref A.o), some (.ref B.o), some (.ref g), some (.int wd), some (.int (0 + (i : Int))), some (optV o), y9, y10, y11, none] G
      obtain ⟨dxB, fsB, hoB, hfB⟩ := wd0.lb.ob
      refine ⟨.ref B.o, rfl, B.o, dxB, fsB, rfl, hoB, hfB.queue, B, t2, rfl, wd0.lb, fun p4 n4 => ?_⟩
      have s4 : Same G (upd G p4 (.lst (ppl t2.xs))) := same_upd n4
      have e4 : (upd G p4 (.lst (ppl t2.xs))) p4 = some (.lst (ppl t2.xs)) := upd_same
      have w5 := wd0.same s4
      dsimp only [gName]
      show tIfS _ _ _ _ [some (.ref a), some (.ref r.a), some (.int (0 + (i0 : Int))), some (.ref A.o), some (.ref B.o), some (.ref g), some (.int wd), some (.int (0 + (i : Int))), some (optV o), y9, some (.ref p4), y11, none] (upd G p4 (.lst (ppl t2.xs)))
      generalize upd G p4 (.lst (ppl t2.xs)) = H16 at s4 e4 w5
      have lk : (ppl (t2.xs.take k)).length = k := by rw [ppl_len, List.length_take]; have := beh.le; omega
      have dk : (ppl t2.xs).drop k = ppl s.xs := by rw [beh.xs]; unfold ppl; rw [List.map_drop]
      have dr : (t2.rs.map optV).drop k = s.rs.map optV := by rw [beh.rs, List.map_drop]
      -- one.queue() != stand[len(gone):]
      obtain ⟨dxA, fsA, hoA, hfA⟩ := w5.la.ob
      refine ⟨.ref A.o, rfl, A.o, dxA, fsA, rfl, hoA, hfA.queue, A, s, rfl, w5.la, fun p6 n6 => ?_⟩
      have s6 : Same H16 (upd H16 p6 (.lst (ppl s.xs))) := same_upd n6
      have e6 : (upd H16 p6 (.lst (ppl s.xs))) p6 = some (.lst (ppl s.xs)) := upd_same
      have w6 := w5.same s6
      generalize upd H16 p6 (.lst (ppl s.xs)) = H17 at s6 e6 w6
      refine ⟨.ref p4, rfl, .ref g, rfl, g, _, rfl, .inl (SqL.of w6.gl), _, rfl, p4, _, rfl, SqL.of (s6 _ _ e4), fun p7 n7 => ?_⟩
      rw [cut_from, lk, dk]
      have s7 : Same H17 (upd H17 p7 (.lst (ppl s.xs))) := same_upd n7
      have e7 : (upd H17 p7 (.lst (ppl s.xs))) p7 = some (.lst (ppl s.xs)) := upd_same
      have w7 := w6.same s7
      generalize upd H17 p7 (.lst (ppl s.xs)) = H18 at s7 e7 w7
      have e67 := s7 _ _ e6
      rw [ppl_so] at e67 e7
      refine ⟨.list ((so s.xs).map optD), .list ((so s.xs).map optD), .lst (SqL.of e67) (opts_dp _), .lst (SqL.of e7) (opts_dp _), opts_shaped _, opts_shaped _, _, rfl, ite2 (fun y => absurd y (by rw [eqv_opts]; simp)) (fun _ => ?_)⟩
      -- one.left() != other.left()[len(gone):]
      obtain ⟨dxA, fsA, hoA, hfA⟩ := w7.la.ob
      refine ⟨.ref A.o, rfl, A.o, dxA, fsA, rfl, hoA, hfA.left, A, s, rfl, w7.la, fun p8 n8 => ?_⟩
      have s8 : Same H18 (upd H18 p8 (.lst (s.rs.map optV))) := same_upd n8
      have e8 : (upd H18 p8 (.lst (s.rs.map optV))) p8 = some (.lst (s.rs.map optV)) := upd_same
      have w8 := w7.same s8
      generalize upd H18 p8 (.lst (s.rs.map optV)) = H19 at s8 e8 w8
      obtain ⟨dxB, fsB, hoB, hfB⟩ := w8.lb.ob
      refine ⟨.ref B.o, rfl, B.o, dxB, fsB, rfl, hoB, hfB.left, B, t2, rfl, w8.lb, fun p9 n9 => ?_⟩
      have s9 : Same H19 (upd H19 p9 (.lst (t2.rs.map optV))) := same_upd n9
      have e9 : (upd H19 p9 (.lst (t2.rs.map optV))) p9 = some (.lst (t2.rs.map optV)) := upd_same
      have w9 := w8.same s9
      generalize upd H19 p9 (.lst (t2.rs.map optV)) = H20 at s9 e9 w9
      refine ⟨.ref g, rfl, g, _, rfl, .inl (SqL.of w9.gl), _, rfl, p9, _, rfl, SqL.of e9, fun p10 n10 => ?_⟩
      rw [cut_from, lk, dr]
      have s10 : Same H20 (upd H20 p10 (.lst (s.rs.map optV))) := same_upd n10
      have e10 : (upd H20 p10 (.lst (s.rs.map optV))) p10 = some (.lst (s.rs.map optV)) := upd_same
      have w10 := w9.same s10
      generalize upd H20 p10 (.lst (s.rs.map optV)) = H21 at s10 e10 w10
      refine ⟨.list (s.rs.map optD), .list (s.rs.map optD), .lst (SqL.of (s10 _ _ (s9 _ _ e8))) (opts_dp _), .lst (SqL.of e10) (opts_dp _), opts_shaped _, opts_shaped _, _, rfl, ite2 (fun y => absurd y (by rw [eqv_opts]; simp)) (fun _ => ?_)⟩
      exact ⟨s, t2, k, _, _, _, _, rfl, w10, beh, hti2⟩
  · obtain ⟨s, t, k, y7, y8, y9, y10, rfl, wd0, beh, hti⟩ := hP
    have htot := wd0.lb.ok.tot
    have hkl := beh.le
    have lk : (ppl (t.xs.take k)).length = k := by rw [ppl_len, List.length_take]; omega
    have hsl : s.xs.length = t.xs.length - k := by rw [beh.xs, List.length_drop]
    have hm81 : m.toNat ≤ 80 := by omega
    dsimp only []
    show tSeq _ _ _ [some (.ref a), some (.ref r.a), some (.int (0 + (i0 : Int))), some (.ref A.o), some (.ref B.o), some (.ref g), some (.int wd), y7, y8, y9, y10, y11, none] G
    obtain ⟨dxA, fsA, hoA, hfA⟩ := wd0.la.ob
    -- people = list(range(len(gone) + len(one)))
    refine ⟨.ref g, rfl, g, _, rfl, .inl (SqL.of wd0.gl), .ref A.o, rfl, A.o, dxA, fsA, rfl, hoA, A, s, rfl, wd0.la, s.xs.length, rfl, by omega, _, _, rfl, rfl, ?_⟩
    refine ⟨(t.xs.length : Int), congrArg V.int (by rw [lk]; omega), RgOk.of_le (by decide) (by omega) (by decide) (by omega), fun pp npp => ?_⟩
    rw [range_ppl]
    have sp1 : Same G (upd G pp (.lst (ppl (List.range t.xs.length)))) := same_upd npp
    have ep1 : (upd G pp (.lst (ppl (List.range t.xs.length)))) pp = some (.lst (ppl (List.range t.xs.length))) := upd_same
    have w1 := wd0.same sp1
    dsimp only [gName]
    show tSeq _ _ _ [some (.ref a), some (.ref r.a), some (.int (0 + (i0 : Int))), some (.ref A.o), some (.ref B.o), some (.ref g), some (.int wd), y7, y8, y9, y10, some (.ref pp), none] (upd G pp (.lst (ppl (List.range t.xs.length))))
    generalize upd G pp (.lst (ppl (List.range t.xs.length))) = H16 at sp1 ep1 w1
    refine ⟨.ref pp, rfl, pp, rfl, ⟨_, SqL.of ep1⟩, fun D nD => ?_⟩
    have hps : t.ps.length = s.ps.length := by rw [beh.ps]
    refine lc_list (K := K) (a := pp) (xs := ppl (List.range t.xs.length)) (fun i H3 => Same H16 H3 ∧ H3 D = some (.lst []))
      ⟨same_upd nD, upd_same⟩ (fun i H3 _ ⟨m3, _⟩ => SqL.of (m3 _ _ ep1)) (fun i x H3 hx ⟨m3, eD⟩ => ?_) (fun H3 ⟨m3, eD⟩ => ?_)
    · have il : i < (List.range t.xs.length).length := by rw [← ppl_len]; exact (List.getElem?_eq_some_iff.mp hx).1
      rw [ppl_get il] at hx
      obtain rfl := (Option.some.inj hx).symm
      rw [List.length_range] at il
      simp only [List.getElem_range]
      have w3 := w1.same m3
      obtain ⟨dxA, fsA, hoA, hfA⟩ := w3.la.ob
      refine ⟨rfl, .ref A.o, rfl, A.o, dxA, fsA, rfl, hoA, hfA.went, .int (i : Int), rfl, A, s, i, by omega, rfl, w3.la, fun H4 s4 => ?_⟩
      have w4 := w3.same s4
      obtain ⟨dxB, fsB, hoB, hfB⟩ := w4.lb.ob
      refine ⟨.ref B.o, rfl, B.o, dxB, fsB, rfl, hoB, hfB.went, .int (i : Int), rfl, B, t, i, by omega, rfl, w4.lb, fun H5 s5 => ⟨rfl, _, rfl, ?_⟩⟩
      have ev : s.ps[i]'(by omega) = t.ps[i]'(by omega) := by simp only [beh.ps]
      rw [ev]
      refine ite2 (fun y => absurd y (by simp)) (fun _ => ⟨(m3.trans s4).trans s5, s5 _ _ (s4 _ _ eD)⟩)
    · refine ⟨Nat.zero_le _, fun E0' nE => ⟨D, E0', [], rfl, rfl, (same_upd nE) _ _ eD, upd_same, _, rfl, iteF ?_⟩⟩
      have w5 := (w1.same m3).same (same_upd (o := .lst []) nE)
      generalize upd H3 E0' (.lst []) = H6 at w5
      obtain ⟨dxA, fsA, hoA, hfA⟩ := w5.la.ob
      obtain ⟨dxB, fsB, hoB, hfB⟩ := w5.lb.ob
      refine ⟨.ref A.o, rfl, A.o, dxA, fsA, rfl, hoA, A, s, rfl, w5.la, s.xs.length, rfl, by omega, .ref g, rfl, g, _, rfl, .inl (SqL.of w5.gl), _, _, rfl, rfl, .ref B.o, rfl, B.o, dxB, fsB, rfl, hoB, B, t, rfl, w5.lb, t.xs.length, rfl, by omega, rfl, _, rfl, ?_⟩
      rw [lk]
      have ee : ((s.xs.length : Int) + (k : Int)) = (t.xs.length : Int) := by omega
      have hq : (!decide (V.int ((s.xs.length : Int) + (k : Int)) = V.int (t.xs.length : Int))) = false := by rw [ee]; simp
      refine ite2 (fun y => absurd (hq.symm.trans y) Bool.false_ne_true) (fun _ => ?_)
      exact ⟨_, _, _, _, _, _, _, _, _, _, rfl, w5.bag.mono (by omega)⟩
end
end CL
set_option Elab.async false
set_option linter.all false
set_option maxRecDepth 100000
set_option maxHeartbeats 4000000
namespace CL
open PySem PySem.Spec PyProof.Rows L2 GE
/-! ### a def that is called where no repr is under way -/
structure FnG (P : Program) (w : World) (K : PySem.W.Frag) (mg : Str → Option Value) (base : Heap) (k : Nat) (f : Addr) (fd : FuncData) (ps : List Str) (sp : Sp) : Prop where
  run : ∀ (A : Around) (outer : List Env) (s : Shared) (H : Hp) (args : Args) (us : List Value) (vs : List V) (Q : VK) (E : XK), A.guards = some [] → Room k A → Env0 P w K mg base A outer s H → BindsTo s fd args (ps.zip us) → Vals vs us → sp vs H Q E →
    codeAny (model P w) A (.call (.ref f) args) (CR CX0 outer P w H s Q E) s
end CL
set_option Elab.async false
set_option linter.all false
set_option maxRecDepth 100000
set_option maxHeartbeats 4000000
namespace CL
open PySem PySem.Spec PyProof.Rows L2 GE
/-! ### the end: what is tracked when the law is called, and that the run leaves the heap as it was but for the tables -/
def H0 (ts : List Addr) (K : PySem.W.Frag) (a : Addr) (vs : List Value) (ns : List Int) : Hp := fun b =>
  if b ∈ ts then some (.tbl #[]) else if b = a ∧ (K.lookup a).isNone = true then some (.frz { cls := .type "list", data := .seq vs.toArray } (.lst (ns.map V.int))) else none
section
variable {ts : List Addr} {K : PySem.W.Frag} {a : Addr} {vs : List Value} {ns : List Int} {h : Heap}
theorem H0.tab {b : Addr} (m : b ∈ ts) : H0 ts K a vs ns b = some (.tbl #[]) := if_pos m
theorem H0.cases {b : Addr} {u : HO} (e : H0 ts K a vs ns b = some u) : (b ∈ ts ∧ u = .tbl #[]) ∨ (b = a ∧ K.lookup a = none ∧ u = .frz { cls := .type "list", data := .seq vs.toArray } (.lst (ns.map V.int))) := by
  unfold H0 at e
  split at e
  · rename_i m
    exact .inl ⟨m, (Option.some.inj e).symm⟩
  · split at e
    · rename_i z
      exact .inr ⟨z.1, Option.isNone_iff_eq_none.mp z.2, (Option.some.inj e).symm⟩
    · cases e
/-- an object that is no list and no empty table is not tracked -/
theorem H0.other (hT : ∀ b ∈ ts, h.get? b = some { cls := .none, data := .fields #[] }) (ha : h.get? a = some { cls := .type "list", data := .seq vs.toArray }) {b : Addr} {o : Obj} (e : h.get? b = some o) (h1 : o.data ≠ .seq vs.toArray) (h2 : o.data ≠ .fields #[]) :
    H0 ts K a vs ns b = none := by
  cases q : H0 ts K a vs ns b with
  | none => rfl
  | some u =>
    rcases H0.cases q with ⟨m, _⟩ | ⟨rfl, _, _⟩
    · rw [hT b m] at e
      cases e
      exact absurd rfl h2
    · rw [ha] at e
      cases e
      exact absurd rfl h1
end
theorem end_own {P : Program} {w : World} {K : PySem.W.Frag} {mg mb : Str → Option Value} {q : Program} {loose : List Str} {mean : ExcName → Option Value} {k : Nat} {fa a : Addr} {fd : FuncData} {x : Str} {sp : Sp} {s₁ : Shared} {vs : List Value} {ns : List Int} (ts : List Addr)
    (KX : K.In s₁.heap) (T : Top q loose mean mg mb s₁.heap) (hi0 : importsNone q = true) (hg : s₁.gens = #[])
    (hT : ∀ b ∈ ts, s₁.heap.get? b = some { cls := .none, data := .fields #[] }) (hC : ∀ b ∈ ts, ∃ c, PySem.W.codeHdIn K c b = true) (nT : ∀ b ∈ ts, K.lookup b = none)
    (ha : s₁.heap.get? a = some { cls := .type "list", data := .seq vs.toArray }) (hi : IntsAre vs ns) (hl : ns.length ≤ sizeLine) (hr : Room k callerA)
    (F : ∀ base : Heap, K.In base → base.Ns mainGlobals mg → (∃ o, base.get? sysModules = some o) → (∀ b ∈ ts, base.BuiltinsAt mg b ∧ mainGlobals ≠ b) → FnG P w K mg base k fa fd [x] sp)
    (hbind : ∀ (s : Shared) (u : Value), BindsTo s fd ⟨[u], []⟩ [(x, u)])
    (hsp : ∀ H : Hp, (∀ b ∈ ts, H b = some (.tbl #[])) → SqL K H a (ns.map V.int) → sp [.ref a] H (fun v _ => v = .bl true) fun _ _ _ => False) :
    codeAny (model P w) callerA (.call (.ref fa) ⟨[.ref a], []⟩) (fun r s' => r = .ok (.ret (.bool true)) ∧ OldK s₁.heap s'.heap ∧ s'.os = s₁.os ∧ AllBare s'.gens) s₁ := by
  have rv := vals_ints hi
  have aT : a ∉ ts := fun m => by
    have z := hT a m
    rw [ha] at z
    cases z
  generalize hH : H0 ts K a vs ns = H
  have tabs : ∀ b ∈ ts, H b = some (.tbl #[]) := fun b m => by rw [← hH]; exact H0.tab m
  have cs : ∀ {b : Addr} {u : HO}, H b = some u → (b ∈ ts ∧ u = .tbl #[]) ∨ (b = a ∧ K.lookup a = none ∧ u = .frz { cls := .type "list", data := .seq vs.toArray } (.lst (ns.map V.int))) := fun e => by
    rw [← hH] at e
    exact H0.cases e
  have oth : ∀ {b : Addr} {o : Obj}, s₁.heap.get? b = some o → o.data ≠ .seq vs.toArray → o.data ≠ .fields #[] → H b = none := fun e h1 h2 => by
    rw [← hH]
    exact H0.other hT ha e h1 h2
  have inB : ∀ {b : Addr} {o : Obj}, s₁.heap.get? b = some o → H b = none → (hidT s₁.heap H).get? b = some o := fun e n => hidT_get e n
  have nsB : ∀ {b : Addr} {m : Str → Option Value}, s₁.heap.Ns b m → (hidT s₁.heap H).Ns b m := fun ⟨o, es, ep, e, d, r⟩ => ⟨o, es, ep, inB e (oth e (by rw [d]; exact nofun) (by rw [d]; exact nofun)), d, r⟩
  have hok : HOk P w H s₁.heap := fun b u e => by
    rcases cs e with ⟨m, rfl⟩ | ⟨rfl, _, rfl⟩
    · exact hT b m
    · exact ⟨ha, by rw [List.length_map]; exact hl, vs, _, rv, ha⟩
  have hS : SqL K H a (ns.map V.int) := by
    cases hk : K.lookup a with
    | some o =>
      have e := KX a o hk
      rw [ha] at e
      cases e
      exact .inr ⟨_, vs.toArray, _, hk, rfl, rfl, rfl, by rw [List.size_toArray, hi.length]; exact hl, by simpa using rv⟩
    | none =>
      have e : H a = some (.frz { cls := .type "list", data := .seq vs.toArray } (.lst (ns.map V.int))) := by
        rw [← hH]
        unfold H0
        rw [if_neg aT, if_pos ⟨rfl, by rw [hk]; rfl⟩]
      exact .inl (.inr ⟨_, e⟩)
  have KB : K.In (hidT s₁.heap H) := fun b o e => inB (KX b o e) (by
    cases z : H b with
    | none => rfl
    | some u =>
      rcases cs z with ⟨m, _⟩ | ⟨rfl, n, _⟩
      · rw [nT b m] at e; cases e
      · rw [n] at e; cases e)
  have hM : L2.Mod K mg (hidT s₁.heap H) := ⟨KB, nsB T.g, ⟨mb, nsB T.b, T.builtins⟩, let ⟨mc, h1, h2⟩ := T.nolimit; ⟨mc, nsB h1, h2⟩⟩
  have sysB : ∃ o, (hidT s₁.heap H).get? sysModules = some o := by
    obtain ⟨mm, ⟨o, es, ep, e, d, _⟩, _⟩ := (T.seer hi0).mods
    exact ⟨o, inB e (oth e (by rw [d]; exact nofun) (by rw [d]; exact nofun))⟩
  have gB : ∀ b ∈ ts, mainGlobals ≠ b := fun b m z => by
    obtain ⟨o, es, ep, e, d, _⟩ := T.g
    rw [z, hT b m] at e
    cases e
    cases d
  have bB : ∀ b ∈ ts, (hidT s₁.heap H).BuiltinsAt mg b := fun b m => by
    obtain ⟨bm, ob, b1, b2, b3, b4, b5, b6⟩ := T.bmain
    refine ⟨bm, ob, b1, b2, fun z => ?_, fun z => ?_, inB b3 (oth b3 (by rw [b6]; exact nofun) (by rw [b6]; exact nofun)), b4, b5, b6⟩
    · obtain ⟨o, es, ep, e, d, _⟩ := T.g
      rw [z, e] at b3
      cases b3
      rw [d] at b6
      cases b6
    · rw [z, hT b m] at b3
      cases b3
      cases b6
  have e0 : Env0 P w K mg (hidT s₁.heap H) callerA [] s₁ H := ⟨rfl, hM, fun b o e => of_hidT e, Nat.le_of_eq (hidT_size _ _), trivial, fun b hb => absurd (show b ∈ ([] : List Addr) from hb) (by simp), hok, .of_eq hg⟩
  have G := F _ KB (nsB T.g) sysB fun b m => ⟨bB b m, gB b m⟩
  refine codeAny_mono (G.run callerA [] s₁ H ⟨[.ref a], []⟩ [.ref a] [.ref a] _ _ rfl hr e0 (hbind s₁ (.ref a)) (.cons rfl .nil) (hsp H tabs hS)) fun r s' z => ?_
  cases r with
  | error e => exact False.elim z
  | ok fl =>
    cases fl with
    | next => exact False.elim z
    | brk => exact False.elim z
    | cont => exact False.elim z
    | ret u =>
      obtain ⟨v, H', os, bare, un, hok', r', e'⟩ := z
      obtain rfl : v = .bl true := e'
      obtain rfl : u = Value.bool true := r'
      have stays : ∀ b o, b ∉ ts → s₁.heap.get? b = some o → s'.heap.get? b = some o := fun b o nb e => by
        cases z : H b with
        | none => exact un.keep b o e z (fun y => absurd (show b ∈ ([] : List Addr) from y) (by simp)) (by simp)
        | some u =>
          rcases cs z with ⟨m, _⟩ | ⟨rfl, _, rfl⟩
          · exact absurd m nb
          · rw [ha] at e
            cases e
            exact (hok' _ _ (un.frzs _ _ _ z)).1
      have grow : ∀ b ∈ ts, ∃ more : Array Value, s'.heap.get? b = some { cls := .none, data := .fields more } := fun b m => by
        obtain ⟨more, e⟩ := un.tbls b #[] (tabs b m)
        exact ⟨_, hok' b _ e⟩
      refine ⟨rfl, ⟨fun b o e => ?_, fun b o e => ?_⟩, os, bare⟩
      · by_cases m : b ∈ ts
        · obtain ⟨c, hc⟩ := hC b m
          obtain ⟨more, hm⟩ := grow b m
          rw [hT b m] at e
          cases e
          exact .inr (.inl ⟨((PySem.W.codeHd_of_K KX hc).tab (hT b m)).isCodeTable, rfl, #[], more, rfl, by rw [Array.empty_append]; exact hm⟩)
        · exact .inl (stays b o m e)
      · by_cases m : b ∈ ts
        · obtain ⟨more, hm⟩ := grow b m
          exact ⟨_, hm⟩
        · exact ⟨o, stays b o m e⟩
end CL
set_option Elab.async false
set_option linter.all false
set_option maxRecDepth 100000
set_option maxHeartbeats 4000000
namespace CL
open PySem PySem.Spec PyProof.Rows L2 GE
theorem fnE {P : Program} {w : World} {K : PySem.W.Frag} {mg : Str → Option Value} {base : Heap} {k : Nat} {f : Addr} {fd : FuncData} {ps : List Str} {sp : Bg → Sp} (F : ∀ r, FnOk P w K mg base CX0 k f fd ps (sp r)) : FnOk P w K mg base CX0 k f fd ps (spE sp) :=
  ⟨fun vs H Q E ⟨r, h⟩ => (F r).len vs H Q E h, fun A outer s H args us vs Q E hr e0 hb rv ⟨r, h⟩ => (F r).run A outer s H args us vs Q E hr e0 hb rv h⟩
/-- the table of a def of the program is empty when the law is called -/
theorem tab_of {q : Program} {loose : List Str} {mean : ExcName → Option Value} {mg mb : Str → Option Value} {h : Heap} {K : PySem.W.Frag} {n : Str} {f c P : Addr} {o : Obj} {fd : FuncData} (T : Top q loose mean mg mb h) (KX : K.In h) (hr : ((recsOf q).any fun e => e.name == n) = true)
    (hm : mg n = some (.ref f)) (k1 : K.lookup f = some o) (k2 : o.data = .func fd) (k3 : fd.code = .ref c) (hh : PySem.W.codeHdIn K c P = true) : h.get? P = some { cls := .none, data := .fields #[] } := by
  obtain ⟨d, hd, e⟩ := List.any_eq_true.mp hr
  have e' : d.name = n := beq_iff_eq.mp e
  obtain ⟨a', o', fd', c', P', t1, t2, t3, t4, t5, t6⟩ := T.tab d hd
  rw [e', hm] at t1
  cases t1
  rw [KX _ _ k1] at t2
  cases t2
  rw [k2] at t3
  cases t3
  rw [k3] at t4
  cases t4
  obtain ⟨⟨oc, vc, g1, _, g3, g4⟩, g5⟩ := t6
  obtain ⟨oh, uh, _, _, _, _, _, _, _, i1, _, i2, i3, _⟩ := PySem.W.codeHd_of_K KX hh
  rw [g1] at i1
  cases i1
  rw [g3] at i2
  cases i2
  rw [g4] at i3
  cases i3
  exact g5
/-- what the head must know of the law's def -/
def AtLaw (l : PySem.W.OpenLaw) (w : World) (K : PySem.W.Frag) (mg : Str → Option Value) (fa : Addr) (h : Heap) : Prop :=
  ∃ (fd : FuncData), (∀ b ∈ ([] : List Addr), h.get? b = some { cls := .none, data := .fields #[] }) ∧ (∀ b ∈ ([] : List Addr), ∃ c, PySem.W.codeHdIn K c b = true) ∧ (∀ b ∈ ([] : List Addr), K.lookup b = none) ∧ (∀ (s : Shared) (u : Value), BindsTo s fd ⟨[u], []⟩ [("script", u)]) ∧
    ∀ base : Heap, K.In base → base.Ns mainGlobals mg → (∃ o, base.get? sysModules = some o) → (∀ b ∈ ([] : List Addr), base.BuiltinsAt mg b ∧ mainGlobals ≠ b) → FnG l.prog w K mg base 6 fa fd ["script"] (spLaw K )
theorem walk {l : PySem.W.OpenLaw} {q : Program} {loose : List Str} {XP : (Str → Option Value) → Heap → Prop} {YP : World → Heap → Prop} {d : DefRec} {K : Params → PySem.W.Frag} (hn : l.most = some 63) (hdf : d.params.defaults = []) (hi0 : importsNone q = true)
    (hY : ∀ (w : World) (h : Heap), YP w h → (K w.params).In h)
    (F : ∀ (w : World) (mg mb : Str → Option Value) (mean : ExcName → Option Value) (lo : List Str) (fa : Addr) (h : Heap), (K w.params).In h → Top q lo mean mg mb h → mg d.name = some (.ref fa) → AtLaw l w (K w.params) mg fa h) :
    PySem.W.WalkO q loose XP YP l.row.toRowW d [] (fun f vs => PySem.call f vs) := by
  refine Att.attach_callB hn hdf fun w s₀ s₁ mg mb fa o pm cd doc a vs ns G Y ho hd hcd hmg hobj hints hlen _ hg => ?_
  obtain ⟨fd, h1, h2, h3, h4, h5⟩ := F w mg mb _ _ fa s₁.heap (hY w _ Y) G.T hmg
  exact end_own [] (hY w _ Y) G.T hi0 hg h1 h2 h3 hobj hints (Nat.le_trans hlen (by decide)) ⟨rfl, by decide, by decide⟩ h5 h4 fun H t hS => ⟨a, ns, rfl, hS, hlen, fun _ => rfl⟩
theorem all_mk {l : PySem.W.OpenLaw} {w : World} {K : PySem.W.Frag} {q : Program} {lo : List Str} {mean : ExcName → Option Value} {h : Heap} {mg mb : Str → Option Value} {fa fMI fMC fMS fMQ fML fMW fMN fW fP fLP fBG fSR fDR fPA fZ   cLN : Addr} (X : K.In h) (G : Top q lo mean mg mb h) (hfa : mg "law" = some (.ref fa))
    {odMI anMI : Option Addr} {slMI : Array (Option Value)} {ocMI kVMI dcMI pmMI cdMI ctMI : Value}
    {odMC anMC : Option Addr} {slMC : Array (Option Value)} {ocMC kVMC dcMC pmMC cdMC ctMC : Value}
    {odMS anMS : Option Addr} {slMS : Array (Option Value)} {ocMS kVMS dcMS pmMS cdMS ctMS : Value}
    {odMQ anMQ : Option Addr} {slMQ : Array (Option Value)} {ocMQ kVMQ dcMQ pmMQ cdMQ ctMQ : Value}
    {odML anML : Option Addr} {slML : Array (Option Value)} {ocML kVML dcML pmML cdML ctML : Value}
    {odMW anMW : Option Addr} {slMW : Array (Option Value)} {ocMW kVMW dcMW pmMW cdMW ctMW : Value}
    {odMN anMN : Option Addr} {slMN : Array (Option Value)} {ocMN kVMN dcMN pmMN cdMN ctMN : Value}
    {odW anW : Option Addr} {slW : Array (Option Value)} {ocW kVW dcW pmW cdW ctW : Value}
    {odP anP : Option Addr} {slP : Array (Option Value)} {ocP kVP dcP pmP cdP ctP : Value}
    {odLP anLP : Option Addr} {slLP : Array (Option Value)} {ocLP kVLP dcLP pmLP cdLP ctLP : Value}
    {odBG anBG : Option Addr} {slBG : Array (Option Value)} {ocBG kVBG dcBG pmBG cdBG ctBG : Value}
    {odSR anSR : Option Addr} {slSR : Array (Option Value)} {ocSR kVSR dcSR pmSR cdSR ctSR : Value}
    {odDR anDR : Option Addr} {slDR : Array (Option Value)} {ocDR kVDR dcDR pmDR cdDR ctDR : Value}
    {odPA anPA : Option Addr} {slPA : Array (Option Value)} {ocPA kVPA dcPA pmPA cdPA ctPA : Value}
    {odZ anZ : Option Addr} {slZ : Array (Option Value)} {ocZ kVZ dcZ pmZ cdZ ctZ : Value} {tgM : Tok}
    (aMI : PySem.W.findIn K (.ref cLN) "__init__" = some (some (.ref fMI))) (lMI : K.lookup fMI = some ⟨ocMI, odMI, .func (PySem.W.fnOf "__init__" "Line.__init__" (defArgs sInit) (defBody sInit) (defScope sInit) .none kVMI dcMI pmMI anMI cdMI ctMI), slMI⟩) (MIc : PySem.W.codeIn K cdMI "Line.__init__" = true) (kMI : PySem.W.keepIn K (.ref fMI) = true) (iMI : PySem.W.isFn K (.ref fMI) = true)
    (aMC : PySem.W.findIn K (.ref cLN) "come" = some (some (.ref fMC))) (lMC : K.lookup fMC = some ⟨ocMC, odMC, .func (PySem.W.fnOf "come" "Line.come" (defArgs sComeM) (defBody sComeM) (defScope sComeM) .none kVMC dcMC pmMC anMC cdMC ctMC), slMC⟩) (MCc : PySem.W.codeIn K cdMC "Line.come" = true) (kMC : PySem.W.keepIn K (.ref fMC) = true) (iMC : PySem.W.isFn K (.ref fMC) = true)
    (aMS : PySem.W.findIn K (.ref cLN) "serve" = some (some (.ref fMS))) (lMS : K.lookup fMS = some ⟨ocMS, odMS, .func (PySem.W.fnOf "serve" "Line.serve" (defArgs sServeM) (defBody sServeM) (defScope sServeM) .none kVMS dcMS pmMS anMS cdMS ctMS), slMS⟩) (MSc : PySem.W.codeIn K cdMS "Line.serve" = true) (kMS : PySem.W.keepIn K (.ref fMS) = true) (iMS : PySem.W.isFn K (.ref fMS) = true)
    (aMQ : PySem.W.findIn K (.ref cLN) "queue" = some (some (.ref fMQ))) (lMQ : K.lookup fMQ = some ⟨ocMQ, odMQ, .func (PySem.W.fnOf "queue" "Line.queue" (defArgs sQueM) (defBody sQueM) (defScope sQueM) .none kVMQ dcMQ pmMQ anMQ cdMQ ctMQ), slMQ⟩) (MQc : PySem.W.codeIn K cdMQ "Line.queue" = true) (kMQ : PySem.W.keepIn K (.ref fMQ) = true) (iMQ : PySem.W.isFn K (.ref fMQ) = true)
    (aML : PySem.W.findIn K (.ref cLN) "left" = some (some (.ref fML))) (lML : K.lookup fML = some ⟨ocML, odML, .func (PySem.W.fnOf "left" "Line.left" (defArgs sLeftM) (defBody sLeftM) (defScope sLeftM) .none kVML dcML pmML anML cdML ctML), slML⟩) (MLc : PySem.W.codeIn K cdML "Line.left" = true) (kML : PySem.W.keepIn K (.ref fML) = true) (iML : PySem.W.isFn K (.ref fML) = true)
    (aMW : PySem.W.findIn K (.ref cLN) "went_past" = some (some (.ref fMW))) (lMW : K.lookup fMW = some ⟨ocMW, odMW, .func (PySem.W.fnOf "went_past" "Line.went_past" (defArgs sWentM) (defBody sWentM) (defScope sWentM) .none kVMW dcMW pmMW anMW cdMW ctMW), slMW⟩) (MWc : PySem.W.codeIn K cdMW "Line.went_past" = true) (kMW : PySem.W.keepIn K (.ref fMW) = true) (iMW : PySem.W.isFn K (.ref fMW) = true)
    (aMN : PySem.W.findIn K (.ref cLN) "__len__" = some (some (.ref fMN))) (lMN : K.lookup fMN = some ⟨ocMN, odMN, .func (PySem.W.fnOf "__len__" "Line.__len__" (defArgs sLenM) (defBody sLenM) (defScope sLenM) .none kVMN dcMN pmMN anMN cdMN ctMN), slMN⟩) (MNc : PySem.W.codeIn K cdMN "Line.__len__" = true) (kMN : PySem.W.keepIn K (.ref fMN) = true) (iMN : PySem.W.isFn K (.ref fMN) = true)
    (aW : PySem.W.nsIn K mainGlobals "is_whole" = some (some (.ref fW))) (lW : K.lookup fW = some ⟨ocW, odW, .func (PySem.W.fnOf "is_whole" "is_whole" (defArgs sWhole) (defBody sWhole) (defScope sWhole) .none kVW dcW pmW anW cdW ctW), slW⟩) (Wc : PySem.W.codeIn K cdW "is_whole" = true) (kW : PySem.W.keepIn K (.ref fW) = true)
    (aP : PySem.W.nsIn K mainGlobals "is_patience" = some (some (.ref fP))) (lP : K.lookup fP = some ⟨ocP, odP, .func (PySem.W.fnOf "is_patience" "is_patience" (defArgs sPat) (defBody sPat) (defScope sPat) .none kVP dcP pmP anP cdP ctP), slP⟩) (Pc : PySem.W.codeIn K cdP "is_patience" = true) (kP : PySem.W.keepIn K (.ref fP) = true)
    (aLP : PySem.W.nsIn K mainGlobals "let_past" = some (some (.ref fLP))) (lLP : K.lookup fLP = some ⟨ocLP, odLP, .func (PySem.W.fnOf "let_past" "let_past" (defArgs sLet) (defBody sLet) (defScope sLet) .none kVLP dcLP pmLP anLP cdLP ctLP), slLP⟩) (LPc : PySem.W.codeIn K cdLP "let_past" = true) (kLP : PySem.W.keepIn K (.ref fLP) = true)
    (aBG : PySem.W.nsIn K mainGlobals "_law_bag" = some (some (.ref fBG))) (lBG : K.lookup fBG = some ⟨ocBG, odBG, .func (PySem.W.fnOf "_law_bag" "_law_bag" (defArgs sBag) (defBody sBag) (defScope sBag) .none kVBG dcBG pmBG anBG cdBG ctBG), slBG⟩) (BGc : PySem.W.codeIn K cdBG "_law_bag" = true) (kBG : PySem.W.keepIn K (.ref fBG) = true)
    (aSR : PySem.W.nsIn K mainGlobals "_law_stir" = some (some (.ref fSR))) (lSR : K.lookup fSR = some ⟨ocSR, odSR, .func (PySem.W.fnOf "_law_stir" "_law_stir" (defArgs sStir) (defBody sStir) (defScope sStir) .none kVSR dcSR pmSR anSR cdSR ctSR), slSR⟩) (SRc : PySem.W.codeIn K cdSR "_law_stir" = true) (kSR : PySem.W.keepIn K (.ref fSR) = true)
    (aDR : PySem.W.nsIn K mainGlobals "_law_draw" = some (some (.ref fDR))) (lDR : K.lookup fDR = some ⟨ocDR, odDR, .func (PySem.W.fnOf "_law_draw" "_law_draw" (defArgs sDraw) (defBody sDraw) (defScope sDraw) .none kVDR dcDR pmDR anDR cdDR ctDR), slDR⟩) (DRc : PySem.W.codeIn K cdDR "_law_draw" = true) (kDR : PySem.W.keepIn K (.ref fDR) = true)
    (aPA : PySem.W.nsIn K mainGlobals "_law_patience" = some (some (.ref fPA))) (lPA : K.lookup fPA = some ⟨ocPA, odPA, .func (PySem.W.fnOf "_law_patience" "_law_patience" (defArgs sPatL) (defBody sPatL) (defScope sPatL) .none kVPA dcPA pmPA anPA cdPA ctPA), slPA⟩) (PAc : PySem.W.codeIn K cdPA "_law_patience" = true) (kPA : PySem.W.keepIn K (.ref fPA) = true)
    (aZ : PySem.W.nsIn K mainGlobals "law" = some (some (.ref fZ))) (lZ : K.lookup fZ = some ⟨ocZ, odZ, .func (PySem.W.fnOf "law" "law" (defArgs sLaw) (defBody sLaw) (defScope sLaw) .none kVZ dcZ pmZ anZ cdZ ctZ), slZ⟩) (Zc : PySem.W.codeIn K cdZ "law" = true) (kZ : PySem.W.keepIn K (.ref fZ) = true)
    (z_isinstance : PySem.W.nsIn K mainGlobals "isinstance" = some none) (z_len : PySem.W.nsIn K mainGlobals "len" = some none) (z_int : PySem.W.nsIn K mainGlobals "int" = some none) (z_bool : PySem.W.nsIn K mainGlobals "bool" = some none) (z_list : PySem.W.nsIn K mainGlobals "list" = some none) (z_range : PySem.W.nsIn K mainGlobals "range" = some none) (z_min : PySem.W.nsIn K mainGlobals "min" = some none)
    
    (aCLS : PySem.W.nsIn K mainGlobals "Line" = some (some (.ref cLN))) (pgC : PySem.W.plainGet K cLN Str.empty = true) (hdC : PySem.W.hasDictIn K cLN = true) (poC : PySem.W.plainOver K cLN = true) (saC : PySem.W.findIn K (.ref cLN) "__setattr__" = some (some (.builtin "object.__setattr__"))) (mkC : PySem.W.makesIn K cLN = true) (kcC : PySem.W.keepIn K (.ref cLN) = true)
    (nF0 : PySem.W.findIn K (.ref cLN) "people" = some none) (nF1 : PySem.W.findIn K (.ref cLN) "rest" = some none) (nF2 : PySem.W.findIn K (.ref cLN) "past" = some none) (nF3 : PySem.W.findIn K (.ref cLN) "served" = some none) (nF4 : PySem.W.findIn K (.ref cLN) "deeds" = some none)
    
    (gM : PySem.W.nsIn K mainGlobals "GREATEST" = some (some (.int 1000000000000000000000000000000 tgM))) : AtLaw l w K mg fa h := by
  have e := hfa.symm.trans (PySem.W.mg_of X G.g aZ)
  cases e
  have FMI := fun_mk (st := sInit) lMI MIc kMI
  have FMC := fun_mk (st := sComeM) lMC MCc kMC
  have FMS := fun_mk (st := sServeM) lMS MSc kMS
  have FMQ := fun_mk (st := sQueM) lMQ MQc kMQ
  have FML := fun_mk (st := sLeftM) lML MLc kML
  have FMW := fun_mk (st := sWentM) lMW MWc kMW
  have FMN := fun_mk (st := sLenM) lMN MNc kMN
  have FW := fun_mk (st := sWhole) lW Wc kW
  have FP := fun_mk (st := sPat) lP Pc kP
  have FLP := fun_mk (st := sLet) lLP LPc kLP
  have FBG := fun_mk (st := sBag) lBG BGc kBG
  have FSR := fun_mk (st := sStir) lSR SRc kSR
  have FDR := fun_mk (st := sDraw) lDR DRc kDR
  have FPA := fun_mk (st := sPatL) lPA PAc kPA
  have FZ := fun_mk (st := sLaw) lZ Zc kZ
  have bMI := FMI.binds (ps := ["self"]) fun _ _ _ _ _ _ us hl => match us, hl with | [_], _ => rfl
  have bMC := FMC.binds (ps := ["self", "patience"]) fun _ _ _ _ _ _ us hl => match us, hl with | [_, _], _ => rfl
  have bMS := FMS.binds (ps := ["self"]) fun _ _ _ _ _ _ us hl => match us, hl with | [_], _ => rfl
  have bMQ := FMQ.binds (ps := ["self"]) fun _ _ _ _ _ _ us hl => match us, hl with | [_], _ => rfl
  have bML := FML.binds (ps := ["self"]) fun _ _ _ _ _ _ us hl => match us, hl with | [_], _ => rfl
  have bMW := FMW.binds (ps := ["self", "person"]) fun _ _ _ _ _ _ us hl => match us, hl with | [_, _], _ => rfl
  have bMN := FMN.binds (ps := ["self"]) fun _ _ _ _ _ _ us hl => match us, hl with | [_], _ => rfl
  have bW := FW.binds (ps := ["thing"]) fun _ _ _ _ _ _ us hl => match us, hl with | [_], _ => rfl
  have bP := FP.binds (ps := ["thing"]) fun _ _ _ _ _ _ us hl => match us, hl with | [_], _ => rfl
  have bLP := FLP.binds (ps := ["left"]) fun _ _ _ _ _ _ us hl => match us, hl with | [_], _ => rfl
  have bBG := FBG.binds (ps := ["script"]) fun _ _ _ _ _ _ us hl => match us, hl with | [_], _ => rfl
  have bSR := FSR.binds (ps := ["number", "place"]) fun _ _ _ _ _ _ us hl => match us, hl with | [_, _], _ => rfl
  have bDR := FDR.binds (ps := ["bag", "many"]) fun _ _ _ _ _ _ us hl => match us, hl with | [_, _], _ => rfl
  have bPA := FPA.binds (ps := ["bag", "most"]) fun _ _ _ _ _ _ us hl => match us, hl with | [_, _], _ => rfl
  have bZ := FZ.binds (ps := ["script"]) fun _ _ _ _ _ _ us hl => match us, hl with | [_], _ => rfl
  have m := fun {n : Str} (e : PySem.W.nsIn K mainGlobals n = some none) => PySem.W.mg_none_of X G.g e
  have g := fun {n : Str} {v : Value} (e : PySem.W.nsIn K mainGlobals n = some (some v)) => PySem.W.mg_of X G.g e
  have T : Nm mg := ⟨m z_isinstance, m z_len, m z_int, m z_bool, m z_list, m z_range, m z_min, ⟨_, g gM⟩⟩
  have TL : LnT K mg cLN := ⟨⟨pgC, hdC, poC, saC⟩, nF0, nF1, nF2, nF3, nF4, g aCLS⟩
  refine ⟨PySem.W.fnOf "law" "law" (defArgs sLaw) (defBody sLaw) (defScope sLaw) .none kVZ dcZ pmZ anZ cdZ ctZ, fun b hb => ?_, fun b hb => ?_, fun b hb => ?_, fun s v => .of_eq rfl, fun base _ _ hsys hB => ?_⟩
  · exact absurd hb (by simp)
  · exact absurd hb (by simp)
  · exact absurd hb (by simp)
  · have XB : K.In base := ‹K.In base›
    have KW : Cal l.prog w K mg base 1 "is_whole" ["thing"] (spOne isWhole) := ⟨fW, _, g aW, kW, bW, ok_whole FW T⟩
    have KP : Cal l.prog w K mg base 2 "is_patience" ["thing"] (spOne isPatience) := ⟨fP, _, g aP, kP, bP, ok_pat FP T KW⟩
    have KLP : Cal l.prog w K mg base 1 "let_past" ["left"] (spLet) := ⟨fLP, _, g aLP, kLP, bLP, ok_let FLP T⟩
    have KBG : Cal l.prog w K mg base 1 "_law_bag" ["script"] (spBag K) := ⟨fBG, _, g aBG, kBG, bBG, ok_bag FBG T.list⟩
    have KSR : Cal l.prog w K mg base 1 "_law_stir" ["number", "place"] (spStir) := ⟨fSR, _, g aSR, kSR, bSR, ok_stir FSR⟩
    have KDR : ∀ r, Cal l.prog w K mg base 2 "_law_draw" ["bag", "many"] (spDraw r) := fun r => ⟨fDR, _, g aDR, kDR, bDR, ok_draw FDR T.len KSR⟩
    have KDE : Cal l.prog w K mg base 2 "_law_draw" ["bag", "many"] (spE spDraw) := ⟨fDR, _, g aDR, kDR, bDR, fnE fun r => ok_draw FDR T.len KSR⟩
    have KPE : Cal l.prog w K mg base 3 "_law_patience" ["bag", "most"] (spE spPatL) := ⟨fPA, _, g aPA, kPA, bPA, fnE fun r => ok_patL FPA (KDR r)⟩
    exact ⟨fun A outer s H args us vs Q E _ hr e0 hb r h => (ok_law FZ T TL ⟨mkC, aMI, iMI, kcC⟩ (ok_init FMI TL) bMI ⟨aMC, iMC, kMC⟩ (ok_comeM FMC T TL KP KLP) bMC ⟨aMS, iMS, kMS⟩ (ok_serveM FMS TL) bMS ⟨aMQ, iMQ, kMQ⟩ (ok_queM FMQ T TL) bMQ ⟨aML, iML, kML⟩ (ok_leftM FML T TL) bML ⟨aMW, iMW, kMW⟩ (ok_wentM FMW T TL KW) bMW aMN iMN (ok_lenM FMN T TL) bMN (KBG.mono (by decide)) (KDE.mono (by decide)) (KPE.mono (by decide))).run A outer s H args us vs Q E hr e0 hb r h⟩
end CL
open PySem PySem.W PyProof.Rows
set_option maxRecDepth 100000 in
set_option maxHeartbeats 0 in
theorem PySem.Challenge.cw_comersline_k43_whole_safe_ones_served_holds : PySem.Challenge.rw_comersline_k43_whole_safe_ones_served.Holds := by
  w_on; o_law; k_head; (case hw => w_witness2)
  k_fill
  refine CL.walk (l := PySem.Challenge.rw_comersline_k43_whole_safe_ones_served) rfl rfl (by decide +kernel) (fun w h Y => PySem.W.kIn_of Y) ?F
  case F =>
    intro w mg mb mean lo fa h KX G hmg
    refine' CL.all_mk KX G hmg ?aMI ?lMI ?MIc ?kMI ?iMI ?aMC ?lMC ?MCc ?kMC ?iMC ?aMS ?lMS ?MSc ?kMS ?iMS ?aMQ ?lMQ ?MQc ?kMQ ?iMQ ?aML ?lML ?MLc ?kML ?iML ?aMW ?lMW ?MWc ?kMW ?iMW ?aMN ?lMN ?MNc ?kMN ?iMN ?aW ?lW ?Wc ?kW ?aP ?lP ?Pc ?kP ?aLP ?lLP ?LPc ?kLP ?aBG ?lBG ?BGc ?kBG ?aSR ?lSR ?SRc ?kSR ?aDR ?lDR ?DRc ?kDR ?aPA ?lPA ?PAc ?kPA ?aZ ?lZ ?Zc ?kZ ?z_isinstance ?z_len ?z_int ?z_bool ?z_list ?z_range ?z_min ?aCLS ?pgC ?hdC ?poC ?saC ?mkC ?kcC ?nF0 ?nF1 ?nF2 ?nF3 ?nF4 ?gM
    (case aCLS => k_is)
    (case aMI => k_is)
    (case lMI => k_is)
    (case MIc => k_is)
    (case kMI => k_is)
    (case iMI => k_is)
    (case aMC => k_is)
    (case lMC => k_is)
    (case MCc => k_is)
    (case kMC => k_is)
    (case iMC => k_is)
    (case aMS => k_is)
    (case lMS => k_is)
    (case MSc => k_is)
    (case kMS => k_is)
    (case iMS => k_is)
    (case aMQ => k_is)
    (case lMQ => k_is)
    (case MQc => k_is)
    (case kMQ => k_is)
    (case iMQ => k_is)
    (case aML => k_is)
    (case lML => k_is)
    (case MLc => k_is)
    (case kML => k_is)
    (case iML => k_is)
    (case aMW => k_is)
    (case lMW => k_is)
    (case MWc => k_is)
    (case kMW => k_is)
    (case iMW => k_is)
    (case aMN => k_is)
    (case lMN => k_is)
    (case MNc => k_is)
    (case kMN => k_is)
    (case iMN => k_is)
    (case aW => k_is)
    (case lW => k_is)
    (case Wc => k_is)
    (case kW => k_is)
    (case aP => k_is)
    (case lP => k_is)
    (case Pc => k_is)
    (case kP => k_is)
    (case aLP => k_is)
    (case lLP => k_is)
    (case LPc => k_is)
    (case kLP => k_is)
    (case aBG => k_is)
    (case lBG => k_is)
    (case BGc => k_is)
    (case kBG => k_is)
    (case aSR => k_is)
    (case lSR => k_is)
    (case SRc => k_is)
    (case kSR => k_is)
    (case aDR => k_is)
    (case lDR => k_is)
    (case DRc => k_is)
    (case kDR => k_is)
    (case aPA => k_is)
    (case lPA => k_is)
    (case PAc => k_is)
    (case kPA => k_is)
    (case aZ => k_is)
    (case lZ => k_is)
    (case Zc => k_is)
    (case kZ => k_is)
    (case z_isinstance => k_is)
    (case z_len => k_is)
    (case z_int => k_is)
    (case z_bool => k_is)
    (case z_list => k_is)
    (case z_range => k_is)
    (case z_min => k_is)
    (case pgC => k_is)
    (case hdC => k_is)
    (case poC => k_is)
    (case saC => k_is)
    (case mkC => k_is)
    (case kcC => k_is)
    (case nF0 => k_is)
    (case nF1 => k_is)
    (case nF2 => k_is)
    (case nF3 => k_is)
    (case nF4 => k_is)
    (case gM => k_is)
