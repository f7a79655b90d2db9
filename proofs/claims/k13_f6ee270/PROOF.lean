import PyProof.Rows.All
import Wide.All
import OpenK.AllK
import Wide.FinOn
import HandS.ForMost
import HandS.Walk
import HandS.Zip
import KE.GoesEnum
import HandS.IsInst
import HandS.Property
import HandS.TupAny
import HandS.TupMul
import HandS.Style
import HandS.Codes
import HandS.Base
import HandS.Call
import HandS.Exc
import HandS.ExcCtx
import HandS.ExcInit
import HandS.HotCalls
import HandS.Comp
import HandS.WordsExc
import HandS.SetBool
import HandS.TupSets
import HandS.DictComp
import HandS.Lambda
import KE.KDictKeyed
import HandS.TupLen
import HandS.Conv
import KE.KDictSum
import HandS.SetFor
import HandS.Strs
import KE.KEqDict
import HandS.Records
import KE.DataMinMax
import HandS.DictSubView
import HandS.DictTup
import HandS.SortKw
import HandS.SortInts
import HandS.Star
import HandS.Rev
import KE.DataCmp
import HandS.Deep
import PyProof.SumAny
import KE.KDictWalk
import KE.KLam
import HandS.Words
import HandS.ForExc
import HandS.OwnEq
import HandS.ExcField
import HandS.ExcIs
import HandS.CallSlots
import KE.KExcIs
import HandS.RaiseMore
import HandS.FStr
import PySem.Challenge.RW_wroteback_k13_questions_refused
set_option Elab.async false
set_option linter.all false
set_option maxRecDepth 100000
set_option maxHeartbeats 2000000
namespace Wb
open PySem PySem.Spec PyProof.Rows L2
/-- one argument: what enumerate makes of a thing whose iterator begins as B says -/
theorem meets_enum1 {v : Value} {o : Obj} {G : Heap → Prop} (B : Begins v o G) :
    Meets (Builtin.«enumerate.__new__» ⟨[.type "enumerate", v], []⟩) (fun _ R s => G s.heap ∧
      R (.ok (.ret (.ref (s.heap.push o).objs.size)))
        { s with heap := (s.heap.push o).push { cls := .type "enumerate", data := .fields #[.none, .bool false, .ref s.heap.objs.size, rawInt 0, .none, .none] } }) :=
  .of_wp fun prog w A R s g => by
    obtain ⟨hp, gg, dd, tk, os⟩ := s
    obtain ⟨g1, g⟩ := g
    have hs := sub_enumerate
    have it1 : ∀ {A' : Around} {E Q : Value → Shared → Prop}, Q (.ref hp.objs.size) ⟨hp.push o, gg, dd, tk, os⟩ →
        wpAny (model prog w) A' (pyIter v) Q E ⟨hp, gg, dd, tk, os⟩ := fun z => B.iter prog w _ _ ⟨hp, gg, dd, tk, os⟩ _ g1 z
    wp_walk using it1
    refine wpAny_stack_any fun u => wpAny_pure ?_
    split
    · rename_i c _ _ _ _ _
      cases (c == Value.type "enumerate") <;> (wp_walk using it1) <;> exact ⟨_, rfl, g⟩
    · (wp_walk using it1)
      exact ⟨_, rfl, g⟩
theorem call_enum1 {prog : Program} {w : World} {A : Around} {E Q : Value → Shared → Prop} {s : Shared} {v : Value} {o : Obj} {G : Heap → Prop} (B : Begins v o G) (g : G s.heap)
    (k : ∀ h', IsEnum h' (s.heap.objs.size + 1) s.heap.objs.size 0 .none → h'.get? s.heap.objs.size = some o →
      (∀ b u, s.heap.get? b = some u → h'.get? b = some u) → Q (.ref (s.heap.objs.size + 1)) { s with heap := h' }) :
    wpAny (model prog w) A (call (.type "enumerate") [v]) Q E s := by
  refine callType_new F.called_enumerate (by decide) (F.typeCall_enumerate_1 _) (F.newCall_enumerate_1 _) (fun ob => F.args_object_init_2 ob _) F.entry_enumerate_new (meets_enum1 B) ⟨g, ?_⟩
  have z : (s.heap.push o).objs.size = s.heap.objs.size + 1 := Heap.size_push ..
  have e : IsEnum ((s.heap.push o).push { cls := .type "enumerate", data := .fields #[.none, .bool false, .ref s.heap.objs.size, rawInt 0, .none, .none] }) (s.heap.objs.size + 1) s.heap.objs.size 0 .none := by
    have q := Heap.get?_push_size (s.heap.push o) (o := { cls := .type "enumerate", data := .fields #[.none, .bool false, .ref s.heap.objs.size, rawInt 0, .none, .none] }) rfl
    rw [z] at q
    exact q
  show _ ∧ _
  rw [z]
  exact ⟨⟨_, e, rfl⟩, k _ e (Heap.get?_push_of_some _ (Heap.get?_push_size _ B.free)) fun b u x => Heap.get?_push_of_some _ (Heap.get?_push_of_some _ x)⟩
/-- the tuple at a, each item in a new pair with its number -/
def ItT (K : PySem.W.Frag) (a : Addr) : It :=
  ⟨fun i H => ∃ (xs : List V) (x : V), SqT K H a xs ∧ xs[i]? = some x,
   fun i H v H' => ∃ T x, v = .ref T ∧ H T = none ∧ H' = upd H T (.tup [.int (i : Nat), x]) ∧ ∀ ys, SqT K H a ys → ys[i]? = some x,
   fun i H => ∃ xs : List V, SqT K H a xs ∧ xs.length ≤ i⟩
theorem turn_enumT {P : Program} {w : World} {K : PySem.W.Frag} {elts : List Expr} {kk : Nat} {tp : Pos} (a e it : Addr) (ne : a ≠ it) (nae : a ≠ e) :
    Turn P w K (.Tuple elts kk tp) (ItT K a) [e, it] e (fun i g => (∃ old, IsEnum g e it ((i : Nat) : Int) old) ∧ g.IsTupleIter it a i ∧ e ≠ it) where
  mem := by simp
  obj := by
    intro i g st b hb
    obtain ⟨⟨old, he⟩, ⟨o, ho, _, hd⟩, _⟩ := st
    rcases (by simpa using hb : b = e ∨ b = it) with rfl | rfl
    · exact ⟨_, he, fun v q => nomatch q⟩
    · exact ⟨o, ho, fun v q => by rw [hd] at q; cases q⟩
  keep := by
    intro i g g' st k
    obtain ⟨⟨old, he⟩, hi, hne⟩ := st
    exact ⟨⟨old, k e (by simp) _ he⟩, hi.at fun o q => k it (by simp) o q, hne⟩
  item := by
    intro X hP hw hK hc i pins s σ H E I hf st hg
    subst hP hw hK
    obtain ⟨⟨old, he⟩, hit, hne⟩ := st
    obtain ⟨xs, x, hq, hx⟩ := hg
    obtain ⟨its, rv, p, _⟩ := I.tuple hq
    obtain ⟨u, hu, ru⟩ := rv.get hx
    have elt : e < s.heap.objs.size := Heap.lt_size he
    have ilt : it < s.heap.objs.size := by
      obtain ⟨_, q, _⟩ := hit
      exact Heap.lt_size q
    have hu' : its.toArray[i]? = some u := by simpa using hu
    have hlt : i < its.toArray.size := by
      rcases Nat.lt_or_ge i its.toArray.size with q | q
      · exact q
      · rw [Array.getElem?_eq_none q] at hu'
        cases hu'
    -- what the tuple's own iterator draws; e is none of its objects but it may be that a is e: no
    have D := Draws.tuple (prog := X.prog) (w := X.w) (A := X.A.in1) (I.ok.hd hc) it a ne its.toArray
    have hea : e ∉ [it, a] := by
      intro q
      rcases (by simpa using q : e = it ∨ e = a) with z | z
      · exact hne z
      · exact nae z.symm
    refine wpAny_pyNext_enum_itemC D he ⟨hit, p⟩ hlt hne hea fun y h' tk hy ho hst hT hsz hk => ?_
    have ey : y = u := Option.some.inj (hy.symm.trans hu')
    subst ey
    refine ⟨_, rfl, wpAny_letOwnedTupleGo_enum (s := { s with heap := h', toks := tk + 1 }) ho fun h'' he' sb => ?_⟩
    have hT2 : h''.get? s.heap.objs.size = some { cls := .type "tuple", data := .seq #[.int i tk, y] } := (sb.2 _ (Nat.ne_of_gt elt)).trans hT
    have new : ObjOk X.prog X.w (upd H s.heap.objs.size (.tup [.int (i : Nat), x])) h'' s.heap.objs.size (.tup [.int (i : Nat), x]) :=
      ⟨(by show 2 ≤ sizeLine; decide), [.int i tk, y], .cons ⟨_, rfl⟩ (.cons ru .nil), ⟨_, hT2, rfl, _, rfl⟩⟩
    have I1 : Inv X pins σ (upd H s.heap.objs.size (.tup [.int (i : Nat), x])) { s with heap := h'', toks := tk + 1 } :=
      I.turnedNew (ch := [e, it]) (fun b ob hb q => (sb.2 b fun z => hb (by simp [z])).trans (hk b ob (fun z => hb (by simp [z])) (fun z => hb (by simp [z])) q)) hf (Nat.le_refl _) new
    refine ⟨.ref s.heap.objs.size, _, I1, rfl, ⟨_, x, rfl, I.hok.fresh (Nat.le_refl _), rfl, fun ys hy => by rw [I.tuple_inj hy hq]; exact hx⟩, ⟨⟨y, ?_⟩, ?_, hne⟩, fun b hb => ?_⟩
    · rw [show ((i + 1 : Nat) : Int) = (i : Int) + 1 by omega]
      exact he'
    · exact hst.1.at fun o q => (sb.2 it (Ne.symm hne)).trans q
    · have lt : b < s.heap.objs.size := by
        rcases (by simpa using hb : b = e ∨ b = it) with z | z
        · rw [z]; exact elt
        · rw [z]; exact ilt
      rw [upd_ne (Nat.ne_of_lt lt)]
      exact (hf b hb).1
  done := by
    intro X hP hw hK hc i pins s σ H E I hf st hg
    subst hP hw hK
    obtain ⟨⟨old, he⟩, hit, hne⟩ := st
    obtain ⟨xs, hq, hx⟩ := hg
    obtain ⟨its, rv, p, _⟩ := I.tuple hq
    have hl := rv.length
    -- the iterator stands at i, at or beyond the end
    have D : Draws X.prog X.w X.A.in1 it [it, a] 0 (fun _ _ => True) (fun j g => g.IsTupleIter it a i ∧ g.IsTuple a its.toArray) :=
      { live := fun _ _ q => by obtain ⟨⟨o, ho, _⟩, _⟩ := q; exact ⟨o, ho⟩
        frame := fun _ g g' q hk => ⟨q.1.at fun o z => hk it (by simp) o z, q.2.at fun o z => hk a (by simp) o z⟩
        item := fun j _ _ _ hj _ _ => absurd hj (Nat.not_lt_zero _)
        done := fun s' Q' E' q hE => wpAny_nextOf_tuple_end (I.ok.hd hc) q.1 q.2 (by simp; omega) hE }
    obtain ⟨f0, f1, f2, f3, f4, f5⟩ := hf it (by simp)
    exact wpAny_pyNext_enum_endD D he ⟨hit, p⟩ fun h' eb => ⟨rfl, I.turned (t' := s.toks) (fun b o hb q => eb b o hb q) f0 f1 f3 f4 f5⟩
  self := by
    intro A i s Q E st q
    obtain ⟨⟨_, he⟩, _⟩ := st
    exact wpAny_pyIter_enum he q
def iEnumT (K : PySem.W.Frag) (ta : TA) : TI := fun σ H R => ta σ H fun vs H1 => ∃ a xs, vs = [.ref a] ∧ SqT K H1 a xs ∧ R (ItT K a) H1
theorem pi_enumT {X : Cx} {e : Expr} {ta : TA} {p pos tp : Pos} {elts : List Expr} {kk : Nat} (hg : Gl X "enumerate") (hm : X.mg "enumerate" = none) (ha : PA X [e] ta)
    (hs : starEach [e] X.env = [(false, eval e X.env)] := by rfl) : PI X (.Tuple elts kk tp) (.Call (.Name "enumerate" p) [e] [] pos) (iEnumT X.K ta) := by
  refine ⟨fun pins s σ H R I h => ?_⟩
  refine Call_ (ld_blt I hg hm boot_enumerate (PyProof.Rows.callWith_type1 (thn (ha.run pos pins s σ H _ I h) fun us s1 ⟨vs, H1, I1, r1, q1⟩ => ?_) hs rfl))
  obtain ⟨a, xs, rfl, hq, q⟩ := q1
  obtain _ | ⟨r, rr⟩ := r1
  cases rr
  cases r
  obtain ⟨its, rv, pt, _⟩ := I1.tuple hq
  have alt : a < s1.heap.objs.size := by
    obtain ⟨o, ho, _⟩ := id pt
    exact Heap.lt_size ho
  refine call_enum1 (begins_tuple a its.toArray) pt fun h' he hit hk => wpAny_pyIter_enum he ?_
  have I2 : Inv X pins σ H1 { s1 with heap := h' } := I1.kept (t' := s1.toks) hk
  refine ⟨s1.heap.objs.size + 1, [s1.heap.objs.size + 1, s1.heap.objs.size], _, _, H1, rfl, I2,
    turn_enumT a (s1.heap.objs.size + 1) s1.heap.objs.size (Nat.ne_of_lt alt) (Nat.ne_of_lt (Nat.lt_succ_of_lt alt)), ⟨⟨.none, he⟩, ⟨_, hit, rfl, rfl⟩, Nat.succ_ne_self _⟩, fun b hb => ?_, q⟩
  have le : s1.heap.objs.size ≤ b := by
    rcases (by simpa using hb : b = s1.heap.objs.size + 1 ∨ b = s1.heap.objs.size) with z | z
    · rw [z]; exact Nat.le_add_right _ _
    · rw [z]; exact Nat.le_refl _
  exact I1.fpOk le (I1.hok.fresh le)
theorem walk_enumT {K : PySem.W.Frag} {a : Addr} {xs : List V} : Walk (ItT K a) xs.length (fun H => SqT K H a xs) (YPair (fun i => some (.int (i : Nat))) (fun i => xs[i]?)) where
  goes := fun i H hi g => ⟨xs, xs[i], g, by simp [hi]⟩
  stops := fun H g => ⟨xs, g, Nat.le_refl _⟩
  yields := by
    intro i H x H' hi g y
    obtain ⟨T, z, hv, hT, hH, q⟩ := y
    exact ⟨T, _, z, hv, hT, hH, rfl, q xs g⟩
end Wb
namespace Wb
open PySem PySem.Spec PyProof.Rows L2
/-- the list at a and the tuple at b, item by item in new pairs -/
def ItM (K : PySem.W.Frag) (a b : Addr) : It :=
  ⟨fun i H => ∃ (xs ys : List V) (x y : V), SqL K H a xs ∧ SqT K H b ys ∧ xs[i]? = some x ∧ ys[i]? = some y,
   fun i H v H' => ∃ T x y, v = .ref T ∧ H T = none ∧ H' = upd H T (.tup [x, y]) ∧ (∀ l, SqL K H a l → l[i]? = some x) ∧ ∀ l, SqT K H b l → l[i]? = some y,
   fun i H => ∃ xs ys : List V, SqL K H a xs ∧ SqT K H b ys ∧ i ≤ xs.length ∧ i ≤ ys.length ∧ (i = xs.length ∨ i = ys.length)⟩
theorem zsep (n a b : Nat) (ha : a < n) (hb : b < n) : ZipSep2 (n + 4) (n + 2) (n + 3) n (n + 1) [n, a] [n + 1, b] := by
  have nm : ∀ x y z : Nat, x ≠ y → x ≠ z → x ∉ [y, z] := fun x y z h1 h2 q => by
    rcases (by simpa using q : x = y ∨ x = z) with e | e
    · exact h1 e
    · exact h2 e
  have e1 : ∀ k : Nat, n + k ≠ a := fun k => by omega
  have e2 : ∀ k : Nat, n + k ≠ b := fun k => by omega
  have d : ∀ j k : Nat, j ≠ k → n + j ≠ n + k := fun j k h => by omega
  exact ⟨d 2 4 (by decide), d 3 4 (by decide), d 2 3 (by decide), d 2 0 (by decide), List.mem_cons_self .., nm _ _ _ (d 4 0 (by decide)) (e1 4), nm _ _ _ (d 3 0 (by decide)) (e1 3),
    d 2 1 (by decide), List.mem_cons_self .., nm _ _ _ (d 4 1 (by decide)) (e2 4), nm _ _ _ (d 3 1 (by decide)) (e2 3), nm _ _ _ (d 0 1 (by decide)) (e2 0), nm _ _ _ (d 1 0 (by decide)) (e1 1)⟩
theorem turn_zipM {P : Program} {w : World} {K : PySem.W.Frag} {elts : List Expr} {kk : Nat} {tp : Pos} {a b z TI TO i1 i2 : Addr} (S : ZipSep2 z TI TO i1 i2 [i1, a] [i2, b]) :
    Turn P w K (.Tuple elts kk tp) (ItM K a b) [z, TI, TO, i1, i2] z
      (fun i g => IsZip g z TI TO .none ∧ IsTupOf2 g TI (.ref i1) (.ref i2) ∧ (∃ x y, IsTupOf2 g TO x y) ∧ g.IsListIter i1 a i ∧ g.IsTupleIter i2 b i) where
  mem := by simp
  obj := by
    intro i g st c hc
    obtain ⟨hz, hTI, ⟨x, y, hTO⟩, ⟨o1, e1, _, d1⟩, ⟨o2, e2, _, d2⟩⟩ := st
    rcases (by simpa using hc : c = z ∨ c = TI ∨ c = TO ∨ c = i1 ∨ c = i2) with rfl | rfl | rfl | rfl | rfl
    · exact ⟨_, hz, fun v q => nomatch q⟩
    · exact ⟨_, hTI, fun v q => nomatch q⟩
    · exact ⟨_, hTO, fun v q => nomatch q⟩
    · exact ⟨o1, e1, fun v q => by rw [d1] at q; cases q⟩
    · exact ⟨o2, e2, fun v q => by rw [d2] at q; cases q⟩
  keep := by
    intro i g g' st k
    obtain ⟨hz, hTI, ⟨x, y, hTO⟩, h1, h2⟩ := st
    exact ⟨k z (by simp) _ hz, k TI (by simp) _ hTI, ⟨x, y, k TO (by simp) _ hTO⟩, h1.at fun o q => k i1 (by simp) o q, h2.at fun o q => k i2 (by simp) o q⟩
  item := by
    intro X hP hw hK hc i pins s σ H E I hf st hg
    subst hP hw hK
    obtain ⟨hz, hTI, ⟨x0, y0, hTO⟩, h1, h2⟩ := st
    obtain ⟨xs, ys, x, y, qx, qy, hx, hy⟩ := hg
    obtain ⟨its, rv, p, _⟩ := I.list qx
    obtain ⟨its2, rv2, p2, _⟩ := I.tuple qy
    obtain ⟨u, hu, ru⟩ := rv.get hx
    obtain ⟨u2, hu2, ru2⟩ := rv2.get hy
    have zl : z < s.heap.objs.size := Heap.lt_size hz
    have l1 : i < its.toArray.size := by
      obtain ⟨q, _⟩ := List.getElem?_eq_some_iff.mp hu
      simpa using q
    have l2 : i < its2.toArray.size := by
      obtain ⟨q, _⟩ := List.getElem?_eq_some_iff.mp hu2
      simpa using q
    have hh := I.ok.hd hc
    have D1 := Draws.list (prog := X.prog) (w := X.w) (A := X.A.in1) hh i1 a (fun e => by have q := S.sep1_2; have q2 := S.mem1; exact absurd (e ▸ p.isList) (fun z1 => by
      obtain ⟨o, ho, hcl, n, hd⟩ := z1
      obtain ⟨o1, e1, c1, d1⟩ := h1
      rw [e1] at ho
      cases ho
      rw [d1] at hd
      cases hd)) its.toArray
    have D2 := Draws.tuple (prog := X.prog) (w := X.w) (A := X.A.in1) hh i2 b (fun e => absurd (e ▸ p2) (fun z1 => by
      obtain ⟨o, ho, hcl, n, hd⟩ := z1
      obtain ⟨o1, e1, c1, d1⟩ := h2
      rw [e1] at ho
      cases ho
      rw [d1] at hd
      cases hd)) its2.toArray
    refine wpAny_pyNext_zipD2_item S D1 D2 hz hTI hTO ⟨h1, p.isList⟩ ⟨h2, p2⟩ l1 l2 fun v1 v2 h' tk y1 y2 z' TO' s1' s2' hT hsz hk => ?_
    have e1 : v1 = u := Option.some.inj (y1.symm.trans (by simpa using hu))
    have e2 : v2 = u2 := Option.some.inj (y2.symm.trans (by simpa using hu2))
    subst e1 e2
    refine ⟨_, rfl, wpAny_letOwnedTupleGo_zip (s := { s with heap := h', toks := tk }) z' fun h'' z'' sb => ?_⟩
    have hT2 : h''.get? s.heap.objs.size = some { cls := .type "tuple", data := .seq #[v1, v2] } := (sb.2 _ (Nat.ne_of_gt zl)).trans hT
    have new : ObjOk X.prog X.w (upd H s.heap.objs.size (.tup [x, y])) h'' s.heap.objs.size (.tup [x, y]) :=
      ⟨(by show 2 ≤ sizeLine; decide), [v1, v2], .cons ru (.cons ru2 .nil), ⟨_, hT2, rfl, _, rfl⟩⟩
    have I1 : Inv X pins σ (upd H s.heap.objs.size (.tup [x, y])) { s with heap := h'', toks := tk } :=
      I.turnedNew (t' := tk) (ch := [z, TI, TO, i1, i2])
        (fun c o hb q => (sb.2 c (fun e => hb (by simp [e]))).trans (hk c o (fun e => hb (by simp [e])) (fun e => hb (by simp [e])) (fun e => hb (by simp [e])) (fun e => hb (by simp [e])) q)) hf (Nat.le_refl _) new
    refine ⟨.ref s.heap.objs.size, _, I1, rfl, ⟨_, x, y, rfl, I.hok.fresh (Nat.le_refl _), rfl, fun l hl => by rw [I.list_inj hl qx]; exact hx, fun l hl => by rw [I.tuple_inj hl qy]; exact hy⟩, ⟨z'', ?_, ⟨v1, v2, ?_⟩, ?_, ?_⟩, fun c hcm => ?_⟩
    · exact (sb.2 _ S.TIz).trans (hk _ _ S.TIz S.TITO S.TIi1 S.TIi2 hTI)
    · exact (sb.2 _ S.TOz).trans TO'
    · exact s1'.1.at fun o q => (sb.2 _ S.zi1.symm).trans q
    · exact s2'.1.at fun o q => (sb.2 _ S.zi2.symm).trans q
    · have lt : c < s.heap.objs.size := by
        rcases (by simpa using hcm : c = z ∨ c = TI ∨ c = TO ∨ c = i1 ∨ c = i2) with q | q | q | q | q
        · rw [q]; exact zl
        · rw [q]; exact Heap.lt_size hTI
        · rw [q]; exact Heap.lt_size hTO
        · rw [q]; obtain ⟨_, e1, _⟩ := h1; exact Heap.lt_size e1
        · rw [q]; obtain ⟨_, e2, _⟩ := h2; exact Heap.lt_size e2
      rw [upd_ne (Nat.ne_of_lt lt)]
      exact (hf c hcm).1
  done := by
    intro X hP hw hK hc i pins s σ H E I hf st hg
    subst hP hw hK
    obtain ⟨hz, hTI, ⟨x0, y0, hTO⟩, h1, h2⟩ := st
    obtain ⟨xs, ys, qx, qy, hle1, hle2, hend⟩ := hg
    obtain ⟨its, rv, p, _⟩ := I.list qx
    obtain ⟨its2, rv2, p2, _⟩ := I.tuple qy
    have l1 := rv.length
    have l2 := rv2.length
    have hh := I.ok.hd hc
    have D1 := Draws.list (prog := X.prog) (w := X.w) (A := X.A.in1) hh i1 a (fun e => absurd (e ▸ p.isList) (fun z1 => by
      obtain ⟨o, ho, hcl, n, hd⟩ := z1
      obtain ⟨o1, e1, c1, d1⟩ := h1
      rw [e1] at ho
      cases ho
      rw [d1] at hd
      cases hd)) its.toArray
    have D2 := Draws.tuple (prog := X.prog) (w := X.w) (A := X.A.in1) hh i2 b (fun e => absurd (e ▸ p2) (fun z1 => by
      obtain ⟨o, ho, hcl, n, hd⟩ := z1
      obtain ⟨o1, e1, c1, d1⟩ := h2
      rw [e1] at ho
      cases ho
      rw [d1] at hd
      cases hd)) its2.toArray
    exact wpAny_pyNext_zipD2_end S D1 D2 hz hTI hTO ⟨h1, p.isList⟩ ⟨h2, p2⟩ (by simp; omega) (by simp; omega) (by simp; omega)
      fun h' tk hk => ⟨rfl, I.turnedL (t' := tk) (ch := [z, TI, TO, i1, i2]) (fun c o hb q => hk c o (fun e => hb (by simp [e])) (fun e => hb (by simp [e])) (fun e => hb (by simp [e])) (fun e => hb (by simp [e])) q) hf⟩
  self := fun A i s Q E st q => wpAny_pyIter_zip st.1 q
def iZipM (K : PySem.W.Frag) (ta : TA) : TI := fun σ H R => ta σ H fun vs H1 => ∃ a b xs ys, vs = [.ref a, .ref b] ∧ SqL K H1 a xs ∧ SqT K H1 b ys ∧ R (ItM K a b) H1
theorem pi_zipM {X : Cx} {e e2 : Expr} {ta : TA} {p pos tp : Pos} {elts : List Expr} {kk : Nat} (hg : Gl X "zip") (hm : X.mg "zip" = none) (ha : PA X [e, e2] ta)
    (hs : starEach [e, e2] X.env = (false, eval e X.env) :: starEach [e2] X.env := by rfl) (hpl : (backTo pos (starEach [e2] X.env)).any (·.1) = false := by rfl) :
    PI X (.Tuple elts kk tp) (.Call (.Name "zip" p) [e, e2] [] pos) (iZipM X.K ta) := by
  refine ⟨fun pins s σ H R I h => ?_⟩
  refine Call_ (ld_blt I hg hm PyProof.Rows.boot_zip (PyProof.Rows.callWith_type1 (thn (ha.run pos pins s σ H _ I h) fun us s1 ⟨vs, H1, I1, r1, q1⟩ => ?_) hs hpl))
  obtain ⟨a, b, xs, ys, rfl, qx, qy, q⟩ := q1
  obtain _ | ⟨r, rr⟩ := r1
  obtain _ | ⟨r', rr⟩ := rr
  cases rr
  cases r
  cases r'
  obtain ⟨its, rv, p1, _⟩ := I1.list qx
  obtain ⟨its2, rv2, p2, _⟩ := I1.tuple qy
  have la : a < s1.heap.objs.size := by
    obtain ⟨o, ho, _⟩ := p1.isList
    exact Heap.lt_size ho
  have lb : b < s1.heap.objs.size := by
    obtain ⟨o, ho, _⟩ := id p2
    exact Heap.lt_size ho
  refine zip_begins2 (begins_list a its.toArray) (begins_tuple b its2.toArray) p1.isList p2 fun h' hz hTI hTO g1 g2 hsz hk => wpAny_pyIter_zip hz ?_
  have I2 : Inv X pins σ H1 { s1 with heap := h' } := I1.kept (t' := s1.toks) hk
  refine ⟨s1.heap.objs.size + 4, [s1.heap.objs.size + 4, s1.heap.objs.size + 2, s1.heap.objs.size + 3, s1.heap.objs.size, s1.heap.objs.size + 1], _, _, H1, rfl, I2,
    turn_zipM (zsep s1.heap.objs.size a b la lb), ⟨hz, hTI, ⟨_, _, hTO⟩, ⟨_, g1, rfl, rfl⟩, ⟨_, g2, rfl, rfl⟩⟩, fun c hcm => ?_, q⟩
  have le : s1.heap.objs.size ≤ c := by
    rcases (by simpa using hcm : c = s1.heap.objs.size + 4 ∨ c = s1.heap.objs.size + 2 ∨ c = s1.heap.objs.size + 3 ∨ c = s1.heap.objs.size ∨ c = s1.heap.objs.size + 1) with z | z | z | z | z
    · rw [z]; exact Nat.le_add_right _ _
    · rw [z]; exact Nat.le_add_right _ _
    · rw [z]; exact Nat.le_add_right _ _
    · rw [z]; exact Nat.le_refl _
    · rw [z]; exact Nat.le_add_right _ _
  exact I1.fpOk le (I1.hok.fresh le)
theorem walk_zipM {K : PySem.W.Frag} {a b : Addr} {xs ys : List V} {n : Nat} (hn : n = min xs.length ys.length) :
    Walk (ItM K a b) n (fun H => SqL K H a xs ∧ SqT K H b ys) (YPair (fun i => xs[i]?) (fun i => ys[i]?)) where
  goes := fun i H hi g => ⟨xs, ys, xs[i]'(by omega), ys[i]'(by omega), g.1, g.2, List.getElem?_eq_getElem _, List.getElem?_eq_getElem _⟩
  stops := fun H g => ⟨xs, ys, g.1, g.2, by omega, by omega, by omega⟩
  yields := by
    intro i H x H' hi g y
    obtain ⟨T, z, z', hv, hT, hH, q, q'⟩ := y
    exact ⟨T, z, z', hv, hT, hH, q xs g.1, q' ys g.2⟩
end Wb
namespace Wb
open PySem L2
theorem same_new {H : Hp} {p : Addr} (h : H p = none) (o : HO) : Same H (upd H p o) := fun b u q => by
  rw [upd_ne (ne_of_none q h)]
  exact q
/-- all but the two objects of the source stands as it was -/
def Old (h l : Addr) (H H' : Hp) : Prop := ∀ b o, H b = some o → b ≠ h → b ≠ l → H' b = some o
theorem Old.refl {h l : Addr} (H : Hp) : Old h l H H := fun _ _ q _ _ => q
theorem Old.trans {h l : Addr} {H H1 H2 : Hp} (a : Old h l H H1) (b : Old h l H1 H2) : Old h l H H2 := fun c o q x y => b c o (a c o q x y) x y
theorem Old.of {h l : Addr} {H H' : Hp} (s : Same H H') : Old h l H H' := fun b o q _ _ => s b o q
theorem Old.new {h l : Addr} {H H' : Hp} (s : Old h l H H') {p : Addr} (hp : H' p = none) (o : HO) : Old h l H (upd H' p o) := s.trans (Old.of (same_new hp o))
/-- the heap without the source -/
def cut (h l : Addr) (H : Hp) : Hp := fun b => if b = h ∨ b = l then none else H b
theorem cut_some {h l b : Addr} {H : Hp} {o : HO} (q : cut h l H b = some o) : H b = some o ∧ b ≠ h ∧ b ≠ l := by
  unfold cut at q
  split at q
  · cases q
  · rename_i n
    exact ⟨q, fun e => n (.inl e), fun e => n (.inr e)⟩
theorem cut_of {h l b : Addr} {H : Hp} {o : HO} (q : H b = some o) (n : b ≠ h) (m : b ≠ l) : cut h l H b = some o := by
  unfold cut
  rw [if_neg (fun z => z.elim n m)]
  exact q
theorem Old.cut {h l : Addr} {H H' : Hp} (s : Old h l H H') : Same (cut h l H) (cut h l H') := fun b o q => by
  obtain ⟨e, n, m⟩ := cut_some q
  exact cut_of (s b o e n m) n m
/-- the source of draws: a number, a list of numbers, a number -/
structure Src (h l : Addr) (H : Hp) : Prop where
  ne : h ≠ l
  ex : ∃ (st k : Int) (cs : List Int), H h = some (.lst [.int st, .ref l, .int k]) ∧ H l = some (.lst (cs.map V.int)) ∧ cs.length ≤ 63
theorem Src.same {h l : Addr} {H H' : Hp} (s : Src h l H) (e : Same H H') : Src h l H' := by
  obtain ⟨ne, st, k, cs, a, b, c⟩ := s
  exact ⟨ne, st, k, cs, e _ _ a, e _ _ b, c⟩
/-- a new object leaves the source -/
theorem Src.new {h l p : Addr} {H : Hp} (s : Src h l H) (e : H p = none) (o : HO) : Src h l (upd H p o) := s.same (same_new e o)
/-- a store elsewhere leaves the source -/
theorem Src.upd {h l p : Addr} {H : Hp} (s : Src h l H) (n : p ≠ h) (m : p ≠ l) (o : HO) : Src h l (L2.upd H p o) := by
  obtain ⟨ne, st, k, cs, a, b, c⟩ := s
  exact ⟨ne, st, k, cs, by rw [upd_ne n.symm]; exact a, by rw [upd_ne m.symm]; exact b, c⟩
def kindOf : PyData → String
  | .none => "NoneType"
  | .bool _ => "bool"
  | .int _ => "int"
  | .str _ => "str"
  | .list _ => "list"
  | .tuple _ => "tuple"
  | .dict _ => "dict"
theorem tyx_lst {K : PySem.W.Frag} {H : Hp} {a : Addr} {xs : List V} (h : SqL K H a xs) : TyX K H (.ref a) (.type "list") := by
  rcases h with (h | ⟨o, h⟩) | ⟨o, its, n, h, c, _⟩
  · exact .base (.lst h)
  · exact .base (.frz h)
  · exact .kList h c
theorem tyx_tup {K : PySem.W.Frag} {H : Hp} {a : Addr} {xs : List V} (h : SqT K H a xs) : TyX K H (.ref a) (.type "tuple") := by
  rcases h with (h | ⟨o, h⟩) | ⟨o, its, n, h, c, _⟩
  · exact .base (.tup h)
  · exact .fTuple h
  · exact .kTuple h c
theorem dp_ty {K : PySem.W.Frag} {H : Hp} {v : V} {d : PyData} (h : Dp K H v d) : TyX K H v (.type (kindOf d)) := by
  cases h with
  | non => exact .base .non
  | bl b => exact .base (.bl b)
  | int i => exact .base (.int i)
  | str x => exact .base (.str x)
  | lst s _ => exact tyx_lst s
  | tup s _ => exact tyx_tup s
/-- the answer of isinstance for plain data -/
def isA (d : PyData) (T : String) : Bool := (kitB (kindOf d) T).getD false
theorem kind_mem (d : PyData) : kindOf d ∈ ["NoneType", "bool", "int", "str", "list", "tuple", "dict"] := by cases d <;> simp [kindOf]
theorem kit_some : ∀ k ∈ ["NoneType", "bool", "int", "str", "list", "tuple", "dict"], ∀ T ∈ ["int", "bool", "str", "tuple", "list"], kitB k T = some (decide (k = T) || (decide (k = "bool") && decide (T = "int"))) := by decide +kernel
theorem isA_val (d : PyData) {T : String} (hT : T = "int" ∨ T = "bool" ∨ T = "str" ∨ T = "tuple" ∨ T = "list") : kitB (kindOf d) T = some (decide (kindOf d = T) || (decide (kindOf d = "bool") && decide (T = "int"))) :=
  kit_some _ (kind_mem d) T (by rcases hT with rfl | rfl | rfl | rfl | rfl <;> decide)
theorem isA_eq {K : PySem.W.Frag} {d : PyData} {T : String} (hT : T = "int" ∨ T = "bool" ∨ T = "str" ∨ T = "tuple" ∨ T = "list") : PySem.W.kitOne K (.type (kindOf d)) (.type T) = some (isA d T) := by
  have e : kitB (kindOf d) T = some (isA d T) := by
    unfold isA
    rw [isA_val d hT]
    rfl
  exact kit_ty e
/-- isinstance(x, T) of plain data, as it is read -/
theorem rd_isi {K : PySem.W.Frag} {H : Hp} {v : V} {d : PyData} {T : String} {Q : VK} (hd : Dp K H v d) (hT : T = "int" ∨ T = "bool" ∨ T = "str" ∨ T = "tuple" ∨ T = "list") (q : Q (.bl (isA d T)) H) : rIsi K [v, .ty T] H Q :=
  ⟨v, .ty T, .type (kindOf d), .type T, isA d T, rfl, .ty T, (dp_ty hd), isA_eq hT, q⟩
/-- the things of a list or tuple -/
def items : PyData → List PyData
  | .list ds => ds
  | .tuple ds => ds
  | _ => []
end Wb
namespace Wb
open PySem L2
def rLenS (K : PySem.W.Frag) : List V → Hp → VK → Prop := fun xs H Q => ∃ p ys, xs = [.ref p] ∧ (SqL K H p ys ∨ SqT K H p ys) ∧ Q (.int ys.length) H
theorem call_lenS {X : Cx} : CallR X (.builtin "len") (rLenS X.K) := call_len_seq
def rListOf (K : PySem.W.Frag) : List V → Hp → VK → Prop := fun xs H Q => ∃ p ys, xs = [.ref p] ∧ (SqL K H p ys ∨ SqT K H p ys) ∧ ∀ l, H l = none → Q (.ref l) (upd H l (.lst ys))
theorem call_listS {X : Cx} : CallR X (.type "list") (rListOf X.K) := call_list_of
def rTupOf (K : PySem.W.Frag) : List V → Hp → VK → Prop := fun xs H Q => ∃ p ys, xs = [.ref p] ∧ ((SqL K H p ys ∧ ∀ l, H l = none → Q (.ref l) (upd H l (.tup ys))) ∨ (SqT K H p ys ∧ Q (.ref p) H))
theorem call_tupS {X : Cx} : CallR X (.type "tuple") (rTupOf X.K) := call_tuple_of
end Wb
namespace Wb
open PySem L2
def tups (H : Hp) : Hp := fun b => match H b with
  | some (.tup xs) => some (.tup xs)
  | _ => none
theorem tups_some {H : Hp} {b : Addr} {o : HO} (q : tups H b = some o) : H b = some o ∧ ∃ xs, o = .tup xs := by
  unfold tups at q
  split at q
  · rename_i xs e
    cases q
    exact ⟨e, xs, rfl⟩
  · cases q
theorem tups_of {H : Hp} {b : Addr} {xs : List V} (q : H b = some (.tup xs)) : tups H b = some (.tup xs) := by
  unfold tups
  rw [q]
/-- the tuples stand as they were -/
def TS (H H' : Hp) : Prop := Same (tups H) (tups H')
theorem TS.refl (H : Hp) : TS H H := Same.refl _
theorem TS.trans {H H1 H2 : Hp} (a : TS H H1) (b : TS H1 H2) : TS H H2 := Same.trans a b
theorem TS.same {H H' : Hp} (s : Same H H') : TS H H' := fun b o q => by
  obtain ⟨e, xs, rfl⟩ := tups_some q
  exact tups_of (s _ _ e)
theorem TS.new {H H' : Hp} (s : TS H H') {p : Addr} (hp : H' p = none) (o : HO) : TS H (upd H' p o) := s.trans (TS.same (same_new hp o))
theorem TS.lst {H H' : Hp} (s : TS H H') {p : Addr} {xs : List V} (hp : H' p = some (.lst xs)) (o : HO) : TS H (upd H' p o) := s.trans fun b u q => by
  obtain ⟨e, ys, rfl⟩ := tups_some q
  exact tups_of (by rw [upd_ne (ne_of e hp (by intro z; cases z))]; exact e)
theorem Old.ts {h l : Addr} {H H' : Hp} (S : Src h l H) (o : Old h l H H') : TS H H' := fun b u q => by
  obtain ⟨e, ys, rfl⟩ := tups_some q
  obtain ⟨_, st, k, cs, a, c, _⟩ := S
  exact tups_of (o _ _ e (ne_of e a (by intro z; cases z)) (ne_of e c (by intro z; cases z)))
end Wb
namespace Wb
open PySem L2
theorem Old.free {h l p : Addr} {H H' : Hp} (o : Old h l H H') (e : H' p = none) (nh : p ≠ h) (nl : p ≠ l) : H p = none := by
  cases q : H p with
  | none => rfl
  | some u =>
    rw [o _ _ q nh nl] at e
    cases e
/-- a store to an object that was not there -/
theorem Old.put {h l p : Addr} {H H' : Hp} (o : Old h l H H') (e : H p = none) (u : HO) : Old h l H (upd H' p u) := fun b v hb bh bl => by
  rw [upd_ne (fun z => by subst z; rw [e] at hb; cases hb)]
  exact o _ _ hb bh bl
theorem Same.put {p : Addr} {H H' : Hp} (s : Same H H') (e : H p = none) (u : HO) : Same H (upd H' p u) := fun b v hb => by
  rw [upd_ne (fun z => by subst z; rw [e] at hb; cases hb)]
  exact s _ _ hb
end Wb
namespace Wb
open PySem L2
abbrev Tab := List (List (Nat × Nat))
structure Good (t : Tab) (n : Nat) : Prop where
  len1 : 1 ≤ t.length
  len6 : t.length ≤ 6
  n2 : 2 ≤ n
  n3 : n ≤ 3
  rows : ∀ r ∈ t, r.length = n
  steps : ∀ r ∈ t, ∀ s ∈ r, s.1 < t.length ∧ s.2 ≤ 3
/-- the step of a letter at a stand -/
def stp (t : Tab) (s a : Nat) : Nat × Nat := (t.getD s []).getD a (0, 0)
theorem Good.row {t : Tab} {n s : Nat} (g : Good t n) (hs : s < t.length) : t.getD s [] ∈ t ∧ (t.getD s []).length = n := by
  have e : t.getD s [] = t[s] := by simp [List.getD, List.getElem?_eq_getElem hs]
  rw [e]
  exact ⟨List.getElem_mem hs, g.rows _ (List.getElem_mem hs)⟩
theorem Good.stp {t : Tab} {n s a : Nat} (g : Good t n) (hs : s < t.length) (ha : a < n) : (stp t s a).1 < t.length ∧ (stp t s a).2 ≤ 3 := by
  obtain ⟨m, l⟩ := g.row hs
  have la : a < (t.getD s []).length := by omega
  have e : Wb.stp t s a = (t.getD s [])[a] := by unfold Wb.stp; rw [List.getD, List.getElem?_eq_getElem la]; rfl
  rw [e]
  exact g.steps _ m _ (List.getElem_mem la)
def runW (t : Tab) (s : Nat) : List Nat → List Nat
  | [] => []
  | a :: r => (stp t s a).2 :: runW t (stp t s a).1 r
end Wb
namespace Wb
end Wb
namespace Wb
open PySem L2
/-- a writer at p over the table at v -/
def WrAt (C : Addr) (H : Hp) (p : Addr) (v : V) : Prop := ∃ dx, H p = some (.ins C dx [("_table", v)])
theorem WrAt.same {C : Addr} {H H' : Hp} {p : Addr} {v : V} (h : WrAt C H p v) (s : Same H H') : WrAt C H' p v := by
  obtain ⟨dx, h⟩ := h
  exact ⟨dx, s _ _ h⟩
end Wb
namespace Wb
end Wb
namespace Wb
open PySem L2
end Wb
namespace Wb
open PySem L2
end Wb
namespace Wb
open PySem PySem.Spec PyProof.Rows L2
abbrev Clause := Value × Nat × (Addr → Value → Option Addr → L2.TS)
/-- the wishes of the clauses -/
def wAsM (K : PySem.W.Frag) (Wout : WX) (D : Ends) (l : List Clause) : WX := l.foldr (fun c W => wAs K c.1 c.2.1 c.2.2 W D) Wout
inductive Clauses (X : Cx) : List ExceptHandler → List Clause → Prop
  | nil : Clauses X [] []
  | cons {x n : Str} {c : Value} {i : Nat} {ts : Addr → Value → Option Addr → L2.TS} {b₀ : Stmt} {suite : List Stmt} {np pos' : Pos} {hds : List ExceptHandler} {l : List Clause} (hc : Names X x c) (hi : X.N[i]? = some n) (hln : X.env.kindOf n = some .local)
      (hsu : ∀ (a : Addr) (oe : Obj) (cls : Value) (d : Option Addr) (pn : List (Addr × Obj)), Zc cls d oe → (∃ vs, oe.data = .fields vs) → PSs (X.suite a ((a, oe) :: pn)) (b₀ :: suite) (ts a cls d)) (r : Clauses X hds l) :
      Clauses X (.ExceptHandler (some (.Name x np)) (some n) (b₀ :: suite) pos' :: hds) ((c, i, ts) :: l)
/-- what is known of a raised thing that the try has in hand -/
structure Held (X : Cx) (pins : List (Addr × Obj)) (B : Heap) (a : Addr) (cls : Value) (d : Option Addr) (sI s' : Shared) (σ : L2.St) (H : Hp) : Prop where
  I : Inv X pins σ H sI
  nb : ∀ b o, sI.heap.get? b = some o → b ∉ frs X.stack → B.get? b = some o
  na : H a = none
  os : s'.os = sI.os
  bare : AllBare s'.gens
section
variable {X : Cx} {pins : List (Addr × Obj)} {B : Heap} {a : Addr} {cls : Value} {d : Option Addr} {sI s' : Shared} {σ : L2.St} {H : Hp} {Wout : WX} {D : Ends}
/-- while it flies: it is an object beside all that the state knows -/
theorem Held.flying (K : Held X pins B a cls d sI s' σ H) (hs : X.stack = X.env :: X.outer) (hf : X.env.frame = some X.env.locals) {h : Heap} (fl : HandSPX.FlyingZ B (X.env :: X.outer) a (Zc cls d) h) (up : sI.heap.UpToSlots h) :
    ∃ oe, h.get? a = some oe ∧ Zc cls d oe ∧ (∃ vs, oe.data = .fields vs) ∧ (∀ M : Model, PySem.W.Looks M h (typeOf (.ref a)) cls) ∧ Inv X pins σ H { s' with heap := h } ∧ Inv (X.suite a ((a, oe) :: (X.pn ++ pins))) [] σ H { s' with heap := h } := by
  have J : Inv X pins σ H { s' with heap := h } := K.I.landed K.nb fl.1 up K.os K.bare
  obtain ⟨oe, vs, he, hz, hd⟩ := fl.there
  have apart : a ∉ frs (X.env :: X.outer) := fun hm => by
    obtain ⟨_, o, e, no⟩ := fl.2.2.1.mem hm
    rw [he] at e
    cases e
    exact no _ hd
  have one : ∀ {e : Env} {b : Addr}, e ∈ X.env :: X.outer → e.frame = some b → a ≠ b := fun {e b} he q z => apart (List.mem_filterMap.mpr ⟨e, he, by rw [q, z]⟩)
  refine ⟨oe, he, hz, ⟨vs, hd⟩, fun M A Q E s k q => wpAny_typeOf_ref (k _ _ he) (by rw [hz.1]; exact q), J, J.suite he hd K.na (one List.mem_cons_self hf) fun hm => ?_⟩
  obtain ⟨e, h1, h2⟩ := List.mem_filterMap.mp hm
  exact one (List.mem_cons_of_mem _ h1) h2 rfl
/-- no clause takes it: it goes on -/
theorem Held.onward (K : Held X pins B a cls d sI s' σ H) (hs : X.stack = X.env :: X.outer) (hf : X.env.frame = some X.env.locals) (tk : Takes X Wout) {h : Heap} (fl : HandSPX.FlyingZ B (X.env :: X.outer) a (Zc cls d) h) (up : sI.heap.UpToSlots h) (w : Wout cls d σ H) :
    wpAny (model X.prog X.w) X.A (handleBy (.ref a) X.env []) (SP X pins D) X.xe { s' with heap := h } := by
  refine wpAny_handleBy_nil ?_
  have thrown : wpAny (model X.prog X.w) X.A (setFlight (.ref a) X.env.frame) (fun _ s4 => wpAny (model X.prog X.w) X.A (throw (.ref a) : Sem Flow) (SP X pins D) X.xe s4) X.xe { s' with heap := h } := by
    rw [hf]
    exact HandSPX.setFlight_upZ fl fun h4 held up4 => wpAny_throw (tk _ _ ⟨a, B, sI, pins, σ, H, cls, d, rfl, K.I, K.nb, up.trans up4, .inr (.inr (by rw [hs]; exact held)), K.na, K.os, K.bare, w⟩)
  obtain ⟨_, _, _, oe, vs, T, oT, ts, he, _, hd, h1, _⟩ := id fl
  unfold PySem.passOn
  refine wpAny_bind (wpAny_field he hd h1 ?_)
  rw [if_neg (show ¬ ((Value.ref T == Value.none) = true) by simp)]
  first
    | exact wpAny_bind (wpAny_pure (wpAny_bind thrown))
    | exact wpAny_bind thrown
/-- the clauses, one after the other -/
theorem Held.clauses (K : Held X pins B a cls d sI s' σ H) (hs : X.stack = X.env :: X.outer) (hf : X.env.frame = some X.env.locals) (hN : X.N.Nodup) (tk : Takes X Wout) {h : Heap} (fl : HandSPX.FlyingZ B (X.env :: X.outer) a (Zc cls d) h) (up : sI.heap.UpToSlots h)
    {hds : List ExceptHandler} {l : List Clause} (hk : Clauses X hds l) : wAsM X.K Wout D l cls d σ H → wpAny (model X.prog X.w) X.A (handleBy (.ref a) X.env hds) (SP X pins D) X.xe { s' with heap := h } := by
  induction hk with
  | nil => exact fun w => K.onward hs hf tk fl up w
  | @cons x n c i ts b₀ suite np pos' hds2 l2 hc hi hln hsu r ih =>
    rintro ⟨b, hb, yes, no⟩
    obtain ⟨oe, he, hz, hd, looks, J, S⟩ := K.flying hs hf fl up
    have named : ∀ {Q : Value → Shared → Prop} {E : Value → Shared → Prop}, Q c { s' with heap := h } → wpAny (model X.prog X.w) (X.A.mark (some (.ref a))) (eval (.Name x np) X.env) Q E { s' with heap := h } := fun {Q E} q => by
      obtain ⟨g, dbg, hm | ⟨hm, hv, nn⟩⟩ := hc
      · exact ld_glob (X := X.suite a ((a, oe) :: (X.pn ++ pins))) S g hm q dbg
      · exact ld_blt (X := X.suite a ((a, oe) :: (X.pn ++ pins))) S g hm hv q nn dbg
    refine wpAny_handleBy_cons (codeAny_handlers_test (named ((PySem.W.exm_one (M := model X.prog X.w) J.kIn (looks _) hb).here ?_))) (by intro q; cases q)
    cases b with
    | false => exact ih (no rfl)
    | true =>
      refine codeAny_handlers_suite_as (HandSPX.lands_againZ fl fun h4 fl4 up4 => ?_)
      obtain ⟨oe4, _, hz4, hd4, _, J4, S4⟩ := K.flying hs hf fl4 (up.trans up4)
      refine store_ok (X := X.suite a ((a, oe4) :: (X.pn ++ pins))) (v := .ref a) S4 hN hi (.inl hln) rfl (fun s5 S5 => ?_) (.inr hln)
      refine wpAny_mono ((hsu a oe4 cls d (X.pn ++ pins) hz4 hd4).run [] s5 _ H _ S5 (yes rfl a K.na)) (fun f s6 hsp => ?_) (fun _ _ z => False.elim z)
      have close : ∀ {σ6 : L2.St} {H6 : Hp} {Q : Shared → Prop}, Inv (X.suite a ((a, oe4) :: (X.pn ++ pins))) [] σ6 H6 s6 → (∀ s7, Inv X pins (σ6.set i none) H6 s7 → Q s7) →
          wpAny (model X.prog X.w) X.A (do bindName X.env n .none; unbindBehindTheSuite X.env n pos') (fun _ s7 => Q s7) X.xe s6 := fun {σ6 H6 Q} S6 hq => gone_ok (S6.unsuite K.I.ok) hN hi hln hq
      cases f with
      | ret u =>
        obtain ⟨v6, σ6, H6, S6, r6, q6⟩ := hsp
        exact close S6 fun s7 J7 => ⟨_, _, _, J7, r6, q6⟩
      | next =>
        obtain ⟨σ6, H6, S6, q6⟩ := hsp
        exact close S6 fun s7 J7 => ⟨_, _, J7, q6⟩
      | brk =>
        obtain ⟨σ6, H6, S6, q6⟩ := hsp
        exact close S6 fun s7 J7 => ⟨_, _, J7, q6⟩
      | cont =>
        obtain ⟨σ6, H6, S6, q6⟩ := hsp
        exact close S6 fun s7 J7 => ⟨_, _, J7, q6⟩
end
end Wb
namespace WbN
open PySem PySem.Spec PyProof.Rows L2 Wb
section
variable {P : Program} {w : World} {K : PySem.W.Frag} {mg : Str → Option Value} {base : Heap}
theorem okN {x qual : Str} {st : Stmt} {f : Addr} {fd : FuncData} {N ps : List Str} {k : Nat} {sp : Sp} (F : Fun K x qual st f fd) (S : FnScope N ps (defScope st)) (len : ∀ vs H Q E, sp vs H Q E → vs.length = ps.length)
    (body : ∀ (cdv : Value) (A : Around) (outer : List Env) (s : Shared) (H : Hp) (vs : List V) (Q : VK) (E : XK), Room k (A.deeper (envOfC qual (defScope st) s.heap.objs.size f cdv)) → sp vs H Q E → ∃ t,
      PSs (cxOf (L2N.CX P w) P w K mg base N qual (defScope st) f cdv A outer s H E) (defBody st) t ∧ t { nx := fun _ H' => Q .non H', rt := Q } (start N vs) H) : FnOk P w K mg base (L2N.CX P w) (k + 1) f fd ps sp := by
  obtain ⟨_, _, _, _, _, _, cdv, _, _, rfl, lk, hcd⟩ := F.ex
  exact fn_of lk hcd S len fun A outer s H vs Q E hr h => body cdv A outer s H vs Q E hr h
theorem none0 {X : Cx} : L2N.Takes X (fun _ _ _ _ => False) := fun _ _ ⟨_, _, _, _, _, _, _, _, _, _, _, _, _, _, _, _, z⟩ => z.elim
end
section
variable {X : Cx}
/-- X(e) of a class without own making -/
theorem mk1 {C : Addr} {bmB : List Value} {B newId initId : String} {x : Str} {e : Expr} {ta : TE} {p pos : Pos} (F : ExcBaseFacts B newId initId bmB) (q : PySem.W.excIn X.K C bmB newId = true) (gC : X.mg x = some (.ref C))
    (kC : PySem.W.keepIn X.K (.ref C) = true) (r : Raises X (.ref C)) (hg : Gl X x) (he : PE X e ta) (hs : starEach [e] X.env = (false, eval e X.env) :: starEach [] X.env := by rfl)
    (hdb : (x == ("__debug__" : Str)) = false := by decide) : L2N.PMk X (.Call (.Name x p) [e] [] pos) (fun σ H Q => ta σ H fun _ H1 => Q (.ref C) none H1) := by
  intro pins s σ H Q I h
  refine wpAny_Call_Name_kw (ld_glob I hg gC (PySem.W.callWith_K (h₀ := X.base) I.ok.mod.kin kC ?_ hs (by rfl)) hdb)
  rw [hs]
  refine Calls.spliced_cons (rest := backTo pos (starEach [] X.env)) (thn (he.run pins s σ H _ I h) fun u s1 ⟨v, H1, I1, r1, q1⟩ => Calls.spliced_nil ⟨I1.kIn, ?_⟩)
  obtain ⟨bm, N, nm, qn, bs, hdct, sn, sub, ab, col, dd, k0, k1, k2, k3, k5, mN, hC, hN, hni, T⟩ := exc_obj I1.kIn q
  exact wpAny_call_exc_subT F T hC hN hni (fun h' e hm => L2N.mk_of I1 hm r q1 (I1.hok.gone hm.new)) (by show 1 ≤ sizeLine; rw [sizeLine_eq]; omega)
/-- X(e, ..) of a class with its own making: what it leaves -/
theorem made_end {pins : List (Addr × Obj)} {σ : L2.St} {H1 H2 : Hp} {Q : XK} {hp hp2 h2 : Heap} {g1 g2 : Array GenState} {d1 d2 : Drawn} {t1 t2 : Nat} {os1 os2 : OsState} {a C d : Addr} {fs : List (Str × V)} (T : Raises X (.ref C))
    (I1 : Inv X pins σ H1 ⟨hp, g1, d1, t1, os1⟩) (ha : hp.objs.size ≤ a) (k : ∀ b o, hp.get? b = some o → hp2.get? b = some o) (un : Un (frs X.stack) [] (upd H1 a (exo a C none)) H2 hp2 h2) (hok : HOk X.prog X.w H2 h2) (ho : os2 = os1) (hb : AllBare g2)
    (ea : H2 a = some (exo a C (some d))) (ed : H2 d = some (exd d fs)) (hd1 : H1 d = none) (q : Q (.ref C) (some d) (upd (del H2 a) d (.xd fs))) : L2N.MkP X pins σ Q (.ref a) ⟨h2, g2, d2, t2, os2⟩ := by
  obtain ⟨t0, G, J, kG, ge, hoe, na⟩ := mk_end0 (d2 := d2) (t2 := t2) I1 ha k un hok ho hb ea ed hd1
  exact ⟨a, _, _, ⟨G, g2, d2, t2, os2⟩, _, .ref C, some d, rfl, J, kG, ge, hoe, ⟨rfl, rfl, fun vs e => by cases e; rfl⟩, rfl, rfl, na, rfl, hb, T, q⟩
theorem mkO {CX : CXT} {x : Str} {C fI : Addr} {k : Nat} {fd : FuncData} {ps : List Str} {sp : Sp} {e : Expr} {es : List Expr} {ta : TA} {p pos : Pos} (T : OexC X.K C) (iC : PySem.W.findIn X.K (.ref C) "__init__" = some (some (.ref fI)))
    (tI : PySem.W.typeIn X.K (.ref fI) = some (.type "function")) (F1 : FnOk X.prog X.w X.K X.mg X.base CX k fI fd ps sp) (hr : Room (k + 1) X.A) (hb : Binds X.K fd ps []) (hx : Passes CX X (fun _ _ _ => False)) (hg : Gl X x) (hm : X.mg x = some (.ref C))
    (ha : PA X (e :: es) ta) (hdb : (x == ("__debug__" : Str)) = false := by decide) (he : starEach (e :: es) X.env = (false, eval e X.env) :: starEach es X.env := by rfl) (hpl : (backTo pos (starEach es X.env)).any (·.1) = false := by rfl) :
    L2N.PMk X (.Call (.Name x p) (e :: es) [] pos) (tMkO C sp [] ta) := by
  intro pins s0 σ H Q I h
  obtain ⟨nm, q, N, bs, bm, sn, sub, ab, col, dd, k0, k1, k2, k3, k5, hC, hbm⟩ := T.cls
  refine wpAny_Call_Name_kw (ld_glob I hg hm (PySem.W.callWith_K (h₀ := X.base) I.ok.mod.kin T.kC (thn (ha.run pos pins s0 σ H _ I h) fun us s1 hv => ?_) he hpl) hdb)
  obtain ⟨vs, H1, I1, r1, hz, q1⟩ := hv
  refine ⟨I1.kIn, ?_⟩
  obtain ⟨hp, gs, dr, tk, os⟩ := s1
  have more : hp.objs.size ≤ hp.objs.size + 1 := Nat.le_succ _
  have free : H1 (hp.objs.size + 1) = none := I1.hok.fresh more
  have w1 := q1 (hp.objs.size + 1) free
  have kept : ∀ b o, hp.get? b = some o → ((hp.push (PySem.W.kdv_tup us)).push (PySem.HandSPX.excO C hp.objs.size)).get? b = some o := fun b o z => Heap.get?_push_of_some _ (Heap.get?_push_of_some _ z)
  have there : ((hp.push (PySem.W.kdv_tup us)).push (PySem.HandSPX.excO C hp.objs.size)).get? (hp.objs.size + 1) = some (PySem.HandSPX.excO C hp.objs.size) := by heap_get
  have J : Inv X pins σ (upd H1 (hp.objs.size + 1) (exo (hp.objs.size + 1) C none)) ⟨(hp.push (PySem.W.kdv_tup us)).push (PySem.HandSPX.excO C hp.objs.size), gs, dr, tk, os⟩ := I1.laid (t' := tk) kept more (exo_ok there)
  have rr : Vals (V.ref (hp.objs.size + 1) :: vs) (Value.ref (hp.objs.size + 1) :: us) := .cons rfl r1
  rw [List.append_nil] at w1
  have len : (Value.ref (hp.objs.size + 1) :: us ++ []).length = ps.length := by
    rw [List.append_nil]
    exact rr.length.symm.trans (F1.len _ _ _ _ w1)
  have few : us.length ≤ sizeLine := by
    have := Paired.length r1
    rw [sizeLine_eq]
    omega
  have bound := hb _ (Value.ref (hp.objs.size + 1) :: us) J.kIn len
  rw [List.append_nil] at bound
  refine wpAny_call (PySem.HandSPX.call_own F.excBase_ValueError (fun Y => PySem.HandSPX.refsVE_contains Y bm hbm) (I1.kIn _ _ hC) (PySem.W.looks_findIn I1.kIn iC) (fun self => PySem.W.bind_fn I1.kIn self tI) few (codeAny_mono
    (F1.run _ X.stack _ _ ⟨Value.ref (hp.objs.size + 1) :: us, []⟩ (Value.ref (hp.objs.size + 1) :: us) _ _ (fun _ _ _ => False) (hr.make C us []) (J.env0.make C us []) bound rr w1) fun r s' hq => ?_))
  match r, hq with
  | .error er, hq => exact hx pins σ _ _ er s' J hq
  | .ok (.ret u), hq =>
    obtain ⟨v, H2, os2, bare2, un2, hok2, rv, ev, d, fs, ea, ed, hd1, q2⟩ := hq
    subst ev
    obtain ⟨h2, g2, d2, t2, os'⟩ := s'
    exact ⟨rv, made_end (raises_own T.exC T.tyC) I1 more kept un2 hok2 os2 bare2 ea ed hd1 q2⟩
end
/-- the clauses -/
inductive ClausesN (X : Cx) : List ExceptHandler → List Clause → Prop
  | nil : ClausesN X [] []
  | cons {x n : Str} {c : Value} {i : Nat} {ts : Addr → Value → Option Addr → L2.TS} {b₀ : Stmt} {suite : List Stmt} {np pos' : Pos} {hds : List ExceptHandler} {l : List Clause} (hc : Names X x c) (hi : X.N[i]? = some n) (hln : X.env.kindOf n = some .local)
      (hsu : ∀ (a : Addr) (oe : Obj) (cls : Value) (d : Option Addr) (pn : List (Addr × Obj)), L2N.Zn cls d oe → (∃ vs, oe.data = .fields vs) → PSs (X.suite a ((a, oe) :: pn)) (b₀ :: suite) (ts a cls d)) (r : ClausesN X hds l) :
      ClausesN X (.ExceptHandler (some (.Name x np)) (some n) (b₀ :: suite) pos' :: hds) ((c, i, ts) :: l)
section
variable {X : Cx} {pins : List (Addr × Obj)} {B : Heap} {a : Addr} {cls : Value} {d : Option Addr} {sI s' : Shared} {σ : L2.St} {H : Hp} {Wout : WX} {D : Ends}
theorem flyingN (K : Held X pins B a cls d sI s' σ H) (hs : X.stack = X.env :: X.outer) (hf : X.env.frame = some X.env.locals) {h : Heap} (fl : HandSPX.FlyingZ B (X.env :: X.outer) a (L2N.Zn cls d) h) (up : sI.heap.UpToSlots h) :
    ∃ oe, h.get? a = some oe ∧ L2N.Zn cls d oe ∧ (∃ vs, oe.data = .fields vs) ∧ (∀ M : Model, PySem.W.Looks M h (typeOf (.ref a)) cls) ∧ Inv X pins σ H { s' with heap := h } ∧ Inv (X.suite a ((a, oe) :: (X.pn ++ pins))) [] σ H { s' with heap := h } := by
  have J : Inv X pins σ H { s' with heap := h } := K.I.landed K.nb fl.1 up K.os K.bare
  obtain ⟨oe, vs, he, hz, hd⟩ := fl.there
  have apart : a ∉ frs (X.env :: X.outer) := fun hm => by
    obtain ⟨_, o, e, no⟩ := fl.2.2.1.mem hm
    rw [he] at e
    cases e
    exact no _ hd
  have one : ∀ {e : Env} {b : Addr}, e ∈ X.env :: X.outer → e.frame = some b → a ≠ b := fun {e b} he q z => apart (List.mem_filterMap.mpr ⟨e, he, by rw [q, z]⟩)
  refine ⟨oe, he, hz, ⟨vs, hd⟩, fun M A Q E s k q => wpAny_typeOf_ref (k _ _ he) (by rw [hz.1]; exact q), J, J.suite he hd K.na (one List.mem_cons_self hf) fun hm => ?_⟩
  obtain ⟨e, h1, h2⟩ := List.mem_filterMap.mp hm
  exact one (List.mem_cons_of_mem _ h1) h2 rfl
theorem onwardN (K : Held X pins B a cls d sI s' σ H) (hs : X.stack = X.env :: X.outer) (hf : X.env.frame = some X.env.locals) (tk : L2N.Takes X Wout) {h : Heap} (fl : HandSPX.FlyingZ B (X.env :: X.outer) a (L2N.Zn cls d) h) (up : sI.heap.UpToSlots h) (w : Wout cls d σ H) :
    wpAny (model X.prog X.w) X.A (handleBy (.ref a) X.env []) (SP X pins D) X.xe { s' with heap := h } := by
  refine wpAny_handleBy_nil ?_
  have thrown : wpAny (model X.prog X.w) X.A (setFlight (.ref a) X.env.frame) (fun _ s4 => wpAny (model X.prog X.w) X.A (throw (.ref a) : Sem Flow) (SP X pins D) X.xe s4) X.xe { s' with heap := h } := by
    rw [hf]
    exact HandSPX.setFlight_upZ fl fun h4 held up4 => wpAny_throw (tk _ _ ⟨a, B, sI, pins, σ, H, cls, d, rfl, K.I, K.nb, up.trans up4, .inr (.inr (by rw [hs]; exact held)), K.na, K.os, K.bare, w⟩)
  obtain ⟨_, _, _, oe, vs, T, oT, ts, he, _, hd, h1, _⟩ := id fl
  unfold PySem.passOn
  refine wpAny_bind (wpAny_field he hd h1 ?_)
  rw [if_neg (show ¬ ((Value.ref T == Value.none) = true) by simp)]
  first
    | exact wpAny_bind (wpAny_pure (wpAny_bind thrown))
    | exact wpAny_bind thrown
theorem clausesN (K : Held X pins B a cls d sI s' σ H) (hs : X.stack = X.env :: X.outer) (hf : X.env.frame = some X.env.locals) (hN : X.N.Nodup) (tk : L2N.Takes X Wout) {h : Heap} (fl : HandSPX.FlyingZ B (X.env :: X.outer) a (L2N.Zn cls d) h) (up : sI.heap.UpToSlots h)
    {hds : List ExceptHandler} {l : List Clause} (hk : ClausesN X hds l) : wAsM X.K Wout D l cls d σ H → wpAny (model X.prog X.w) X.A (handleBy (.ref a) X.env hds) (SP X pins D) X.xe { s' with heap := h } := by
  induction hk with
  | nil => exact fun w => onwardN K hs hf tk fl up w
  | @cons x n c i ts b₀ suite np pos' hds2 l2 hc hi hln hsu r ih =>
    rintro ⟨b, hb, yes, no⟩
    obtain ⟨oe, he, hz, hd, looks, J, S⟩ := flyingN K hs hf fl up
    have named : ∀ {Q : Value → Shared → Prop} {E : Value → Shared → Prop}, Q c { s' with heap := h } → wpAny (model X.prog X.w) (X.A.mark (some (.ref a))) (eval (.Name x np) X.env) Q E { s' with heap := h } := fun {Q E} q => by
      obtain ⟨g, dbg, hm | ⟨hm, hv, nn⟩⟩ := hc
      · exact ld_glob (X := X.suite a ((a, oe) :: (X.pn ++ pins))) S g hm q dbg
      · exact ld_blt (X := X.suite a ((a, oe) :: (X.pn ++ pins))) S g hm hv q nn dbg
    refine wpAny_handleBy_cons (codeAny_handlers_test (named ((PySem.W.exm_one (M := model X.prog X.w) J.kIn (looks _) hb).here ?_))) (by intro q; cases q)
    cases b with
    | false => exact ih (no rfl)
    | true =>
      refine codeAny_handlers_suite_as (HandSPX.lands_againZ fl fun h4 fl4 up4 => ?_)
      obtain ⟨oe4, _, hz4, hd4, _, J4, S4⟩ := flyingN K hs hf fl4 (up.trans up4)
      refine store_ok (X := X.suite a ((a, oe4) :: (X.pn ++ pins))) (v := .ref a) S4 hN hi (.inl hln) rfl (fun s5 S5 => ?_) (.inr hln)
      refine wpAny_mono ((hsu a oe4 cls d (X.pn ++ pins) hz4 hd4).run [] s5 _ H _ S5 (yes rfl a K.na)) (fun f s6 hsp => ?_) (fun _ _ z => False.elim z)
      have close : ∀ {σ6 : L2.St} {H6 : Hp} {Q : Shared → Prop}, Inv (X.suite a ((a, oe4) :: (X.pn ++ pins))) [] σ6 H6 s6 → (∀ s7, Inv X pins (σ6.set i none) H6 s7 → Q s7) →
          wpAny (model X.prog X.w) X.A (do bindName X.env n .none; unbindBehindTheSuite X.env n pos') (fun _ s7 => Q s7) X.xe s6 := fun {σ6 H6 Q} S6 hq => gone_ok (S6.unsuite K.I.ok) hN hi hln hq
      cases f with
      | ret u =>
        obtain ⟨v6, σ6, H6, S6, r6, q6⟩ := hsp
        exact close S6 fun s7 J7 => ⟨_, _, _, J7, r6, q6⟩
      | next =>
        obtain ⟨σ6, H6, S6, q6⟩ := hsp
        exact close S6 fun s7 J7 => ⟨_, _, J7, q6⟩
      | brk =>
        obtain ⟨σ6, H6, S6, q6⟩ := hsp
        exact close S6 fun s7 J7 => ⟨_, _, J7, q6⟩
      | cont =>
        obtain ⟨σ6, H6, S6, q6⟩ := hsp
        exact close S6 fun s7 J7 => ⟨_, _, J7, q6⟩
end
theorem ps_tryN {X : Cx} {body : List Stmt} {h₀ : ExceptHandler} {hds : List ExceptHandler} {l : List Clause} {pos : Pos} {tb : WX → L2.TS} {Wout : WX} (hs : X.stack = X.env :: X.outer) (hf : X.env.frame = some X.env.locals) (hN : X.N.Nodup) (tk : L2N.Takes X Wout)
    (hb : ∀ (W : WX) (pn : List (Addr × Obj)) (xe : Value → Shared → Prop), L2N.Takes (X.tr pn xe) W → PassesOwn (model X.prog X.w) X.A X.env xe → PSs (X.tr pn xe) body (tb W))
    (hh : ClausesN X (h₀ :: hds) l) : PS X (.Try body (h₀ :: hds) [] [] pos) (fun D σ H => tb (wAsM X.K Wout D l) D σ H) := by
  refine ⟨fun pins s σ H D I h => wpAny_Try_except ?_⟩
  refine wpAny_mono ((hb (wAsM X.K Wout D l) (X.pn ++ pins) _ (fun u s' xx => ?_) PassesOwn.looking).run [] s σ H D (I.toTry _) h) (fun f s1 hsp => ?_) (fun e s1 he => he)
  · obtain ⟨a, B, sI, pins', σ', H', cls, d, rfl, J', nb, up, sky, na, os, ag, w⟩ := xx
    have K : Held X pins B a cls d sI s' σ' H' := ⟨J'.ofTry I.ok, nb, na, os, ag⟩
    refine L2N.Sky.land L2N.Zn.steady (by rw [I.ok.frames, hs]) hf (by rw [← hs]; exact sky) fun h3 fl3 up3 => ?_
    exact clausesN K hs hf hN tk fl3 (up.trans up3) hh w
  · cases f with
    | next =>
      obtain ⟨σ', H', J', q⟩ := hsp
      exact wpAny_execs_nil ⟨σ', H', J'.ofTry I.ok, q⟩
    | ret u =>
      obtain ⟨v, σ', H', J', r, q⟩ := hsp
      exact ⟨v, σ', H', J'.ofTry I.ok, r, q⟩
    | brk =>
      obtain ⟨σ', H', J', q⟩ := hsp
      exact ⟨σ', H', J'.ofTry I.ok, q⟩
    | cont =>
      obtain ⟨σ', H', J', q⟩ := hsp
      exact ⟨σ', H', J'.ofTry I.ok, q⟩
/-- within a suite: the error that is handled, its context None -/
theorem hotS {X : Cx} {a : Addr} {oe : Obj} {cls : Value} {d : Option Addr} {pn : List (Addr × Obj)} (hz : L2N.Zn cls d oe) (hd : ∃ vs, oe.data = .fields vs) : L2H.HotC (X.suite a ((a, oe) :: pn)) := by
  obtain ⟨vs, e⟩ := hd
  exact ⟨(a, oe), ⟨rfl, vs, e, hz.2.2 vs e⟩, List.mem_cons_self⟩
section
variable {X : Cx}
theorem lcH {pins : List (Addr × Obj)} {s : Shared} {σ : L2.St} {H : Hp} {Q : VK} {elt tg iter : Expr} {ifs : List Expr} {scope : Scope} {own : List (Str × Nat)} {pos pos' : Pos} {wi : TI} {g : TG} {tt : TT} {te : TE} {use : Option (Value → Sem Unit)} {Qf : Value → Shared → Prop}
    (hot : L2H.HotC X) (hN : X.N.Nodup) (I : Inv X pins σ H s) (hi : L2H.PIH X tg iter wi) (ok : BlkOk X.N X.env.scope scope own)
    (hg : ∀ (s : Shared) (H : Hp) (C : Addr) (cl : List (Str × Addr)) (fp : List Addr), PG (X.blk s H scope (compEnvC scope cl C X.env) fp) tg g)
    (ht : ∀ (s : Shared) (H : Hp) (C : Addr) (cl : List (Str × Addr)) (fp : List Addr), PTs (X.blk s H scope (compEnvC scope cl C X.env) fp) ifs tt)
    (he : ∀ (s : Shared) (H : Hp) (C : Addr) (cl : List (Str × Addr)) (fp : List Addr), PE (X.blk s H scope (compEnvC scope cl C X.env) fp) elt te) (hs : ∀ x, foldedSetIterable iter X.env x = pure x)
    (h : tLc wi g tt te (own.map (·.2)) σ H Q)
    (fin : ∀ D C s' m H', Inv X pins σ H' s' → Q (.ref D) H' → s'.heap.Ns C m → FpOk X pins H' C → compPost (model X.prog X.w) X.A X.xe use Qf (.ref D) C (.ok .next) s') :
    wpAny (model X.prog X.w) X.A (comprehension (.ListComp elt [⟨tg, iter, ifs, 0⟩] scope pos) scope X.env pos' (newList []) false (eval iter X.env) use) Qf X.xe s := by
  obtain ⟨p, hp, hpn⟩ := hot
  have seen : ∀ y ∈ scope.names, y.2 = .free → ∃ c, X.env.cells.lookup y.1 = some c := fun y hy e => I.ok.has _ (ok.free y hy e)
  refine wpAny_comprehension_free (use := use) rfl hs (closure_ok seen) ok.kind (fun y hy e => by rw [ok.uniq y hy, e]) (thn (hi.run pins s σ H _ I h) fun xv s1 hx => thn hx fun itv s2 hv => ?_)
  obtain ⟨it, fp, tn, J, H2, rfl, I2, T, st2, f2, q⟩ := hv
  refine wpAny_newObj_type (newEnv_comp ?_) (by show 0 ≤ sizeLine; decide)
  generalize hD : s2.heap.objs.size = D
  obtain ⟨W, ⟨m0, w0⟩, turn⟩ := q D (I2.hok.fresh (Nat.le_of_eq hD))
  generalize hs3 : ({ s2 with heap := s2.heap.push { cls := .type "list", data := .seq ([] : List Value).toArray } } : Shared) = s3
  have h3 : s3.heap = s2.heap.push { cls := .type "list", data := .seq ([] : List Value).toArray } := by rw [← hs3]
  have I3 : Inv X pins σ (upd H2 D (.lst [])) s3 := by
    subst hs3
    exact I2.laid (t' := s2.toks) (fun b o z => Heap.get?_push_of_some _ z) (Nat.le_of_eq hD) ⟨Nat.zero_le _, [], 0, .nil, by subst hD; exact Heap.get?_push_size _ rfl⟩
  have below : ∀ b ∈ fp, b < s2.heap.objs.size := fun b hb => by
    obtain ⟨o, z, _⟩ := T.obj _ _ st2 b hb
    exact Heap.lt_size z
  have f3 : ∀ b ∈ fp, FpOk X pins (upd H2 D (.lst [])) b ∧ b < s3.heap.objs.size := fun b hb => by
    have lt := below b hb
    refine ⟨⟨?_, (f2 b hb).2⟩, by rw [h3, Heap.size_push]; exact Nat.lt_succ_of_lt lt⟩
    rw [upd_ne (by subst hD; exact Nat.ne_of_lt lt)]
    exact (f2 b hb).1
  have st3 : tn 0 s3.heap := T.keep _ _ _ st2 fun b _ o z => by rw [h3]; exact Heap.get?_push_of_some _ z
  have B0 := block_start I3 ok hN f3
  have nfp : ∀ b ∈ fp, (upd H2 D (.lst [])) b = none := fun b hb => (f3 b hb).1.1
  have pin3 := I3.pin p (List.mem_append_left _ hpn)
  have pin4 : s3.heap.get? p.1 = some p.2 := pin3.1
  show codeAny _ _ (.compStart (.ListComp elt [⟨tg, iter, ifs, 0⟩] scope pos) 0 (.ref it) (.ref D) (compEnvC scope (cellsFrom (s3.heap.objs.size + 1) scope.names (cloFrom X.env.cells scope.names [])) s3.heap.objs.size X.env)) (compPost (model X.prog X.w) X.A X.xe use Qf (.ref D) s3.heap.objs.size) { s3 with heap := pushCells (s3.heap.push { cls := .type "dict", data := .dict #[] }) scope.names }
  have gT := hg s3 (upd H2 D (.lst [])) s3.heap.objs.size (cellsFrom (s3.heap.objs.size + 1) scope.names (cloFrom X.env.cells scope.names [])) fp
  have tT := ht s3 (upd H2 D (.lst [])) s3.heap.objs.size (cellsFrom (s3.heap.objs.size + 1) scope.names (cloFrom X.env.cells scope.names [])) fp
  have eT := he s3 (upd H2 D (.lst [])) s3.heap.objs.size (cellsFrom (s3.heap.objs.size + 1) scope.names (cloFrom X.env.cells scope.names [])) fp
  generalize hce : compEnvC scope (cellsFrom (s3.heap.objs.size + 1) scope.names (cloFrom X.env.cells scope.names [])) s3.heap.objs.size X.env = ce at B0 gT tT eT ⊢
  have cL : ce.locals = s3.heap.objs.size := by subst hce; rfl
  generalize hH3 : upd H2 D (.lst []) = H3 at I3 B0 gT tT eT w0 nfp f3 pin3
  have more4 : ∀ b o, s3.heap.get? b = some o → (pushCells (s3.heap.push { cls := .type "dict", data := .dict #[] }) scope.names).get? b = some o := fun b o z => pushCells_keeps _ _ _ _ (Heap.get?_push_of_some _ z)
  generalize hs4 : ({ s3 with heap := pushCells (s3.heap.push { cls := .type "dict", data := .dict #[] }) scope.names } : Shared) = s4 at B0 ⊢
  have keep4 : ∀ b o, s3.heap.get? b = some o → s4.heap.get? b = some o := fun b o z => by subst hs4; exact more4 b o z
  generalize hY : X.blk s3 H3 scope ce fp = Y at B0 gT tT eT
  have yA : Y.A = X.A := by subst hY; rfl
  have yL : Y.env.locals = s3.heap.objs.size := by subst hY; exact cL
  have yF : Y.fs = frs X.stack := by subst hY; rfl
  have yP : Y.pn = [] := by subst hY; rfl
  have I4 : Inv Y [p] (wipe σ (own.map (·.2))) H3 s4 := B0.pins_of fun z hz => by
    cases List.mem_singleton.mp hz
    refine ⟨keep4 _ _ pin4, pin3.2.1, ?_, ?_, pin3.2.2.2.2⟩
    · rw [yL]
      exact Nat.ne_of_lt (Heap.lt_size pin4)
    · rw [yF]
      exact fun hm => (List.mem_cons.mp (I3.stkSub p.1 hm)).elim pin3.2.2.1 pin3.2.2.2.1
  have st4 : tn 0 s4.heap := T.keep _ _ _ st3 fun b _ o z => keep4 b o z
  have hpY : L2H.Hot1 Y.A p := by rw [yA]; exact hp
  have noP : ∀ b ∈ fp, p.1 ≠ b := fun b hb => (f3 b hb).1.2.2.2.2.2 p (List.mem_append_left _ hpn)
  have stat : ∀ {σ' : L2.St} {H' : Hp} {s' : Shared}, Inv Y [p] σ' H' s' → (∀ b ∈ fp, H' b = none) → ∀ b ∈ fp, FpOk (Y.tr (Y.pn ++ [p]) (fun _ _ => False)) [] H' b := fun {σ' H' s'} I' hn b hb => by
    have eX : b ∈ Y.ex := by subst hY; exact hb
    refine ⟨hn b hb, (I'.ok.exf b eX).1, I'.ok.exfs b eX, .inl eX, fun x c z => (I'.ok.exf b eX).2 x c z, fun z hz => ?_⟩
    have hz' : z ∈ Y.pn ++ [p] := by rw [List.append_nil] at hz; exact hz
    rw [yP, List.nil_append] at hz'
    cases List.mem_singleton.mp hz'
    exact noP b hb
  have same : Y.prog = X.prog ∧ Y.w = X.w ∧ Y.K = X.K := by subst hY; exact ⟨rfl, rfl, rfl⟩
  have loop : codeAny (model X.prog X.w) X.A (.compLoop (.ListComp elt [⟨tg, iter, ifs, 0⟩] scope pos) 0 (.ref it) (.ref D) ce) (compPost (model X.prog X.w) X.A X.xe use Qf (.ref D) s3.heap.objs.size) s4 := by
    refine compLoop_any (fun n s' => ∃ i H', Inv Y [p] (wipe σ (own.map (·.2))) H' s' ∧ tn i s'.heap ∧ (∀ b ∈ fp, H' b = none) ∧ W i n H') ?_ m0 ⟨0, H3, I4, st4, nfp, w0⟩
    rintro n s5 ⟨i, H5, I5, st5, n5, w5⟩
    have hotY : L2H.HotC (Y.tr (Y.pn ++ [p]) (fun _ _ => False)) := ⟨p, hpY, List.mem_append_right _ List.mem_cons_self⟩
    rcases turn i n H5 w5 with ⟨stop, qq⟩ | ⟨go, Nx, hNx, step⟩
    · have td := T.done (Y.tr (Y.pn ++ [p]) (fun _ _ => False)) same.1 same.2.1 same.2.2 hotY i [] s5 _ H5 (fun _ _ => False) (I5.toTry _) (stat I5 n5) st5 stop
      rw [show (Y.tr (Y.pn ++ [p]) (fun _ _ => False)).A = X.A from yA] at td
      refine thnF td fun r s6 hr6 => ?_
      obtain ⟨rfl, I6'⟩ := hr6
      have I6 := I6'.ofTry I5.ok
      have os6 := I6.os
      have ba6 := I6.base
      have fr6 : H5 Y.env.locals = none := I6.free
      have lo6 := I6.loc
      have I7 : Inv X pins σ H5 s6 := by
        subst hY
        exact I3.call' (ch := fp) os6 ba6 I6.hok I6.bare fun b hb => ⟨(f3 b hb).1.2.2.2.1, (f3 b hb).1.2.1, (f3 b hb).1.2.2.2.2.1, (f3 b hb).1.2.2.2.2.2⟩
      obtain ⟨m, hn, _⟩ := lo6
      rw [yL] at hn fr6
      exact fin D s3.heap.objs.size s6 m H5 I7 qq hn (I3.fpOk (Nat.le_refl _) fr6)
    · have ti := T.item (Y.tr (Y.pn ++ [p]) (fun _ _ => False)) same.1 same.2.1 same.2.2 hotY i [] s5 _ H5 (fun _ _ => False) (I5.toTry _) (stat I5 n5) st5 go
      rw [show (Y.tr (Y.pn ++ [p]) (fun _ _ => False)).A = X.A from yA] at ti
      refine thnF ti fun r s6 hr6 => ?_
      obtain ⟨u, rfl, h6⟩ := hr6
      refine thnF h6 fun _ s7 h7 => ?_
      obtain ⟨x, H7, I7', r7, y7, st7, n7⟩ := h7
      have I7 := I7'.ofTry I5.ok
      have fok : ∀ b ∈ fp, FpOk Y [p] H7 b := fun b hb => by
        obtain ⟨f0, f1, f2, f3', f4, f5⟩ := stat I7 n7 b hb
        exact ⟨f0, f1, f2, f3', f4, fun z hz => f5 z (by rw [List.append_nil]; exact hz)⟩
      have I8 := I7.pinned fok (T.obj _ _ st7)
      have run1 := gT.run _ s7 _ H7 x u _ I8 r7 (step x H7 y7)
      rw [yA, same.1, same.2.1] at run1
      have yE : Y.env = ce ∧ Y.xe = fun _ _ => False := by subst hY; exact ⟨rfl, rfl⟩
      rw [yE.1, yE.2] at run1
      refine thnF run1 fun _ s8 h8 => ?_
      obtain ⟨σ8, H8, I9, hw8, q8⟩ := h8
      have run2 := tT.run _ s8 σ8 H8 _ I9 q8
      rw [yA, same.1, same.2.1, yE.1, yE.2] at run2
      refine thnF run2 fun b s9 h9 => ?_
      obtain ⟨H9, I10, q9⟩ := h9
      have back : ∀ {s' : Shared} {H' : Hp}, Inv Y ([p] ++ pinsAt fp s7.heap) σ8 H' s' → Nx H' → ∃ m, m < n ∧ ∃ i H', Inv Y [p] (wipe σ (own.map (·.2))) H' s' ∧ tn i s'.heap ∧ (∀ b ∈ fp, H' b = none) ∧ W i m H' := fun {s' H'} I' nx => by
        obtain ⟨m', hm, w'⟩ := hNx H' nx
        have still : ∀ b ∈ fp, ∀ o, s7.heap.get? b = some o → s'.heap.get? b = some o ∧ H' b = none := fun b hb o z =>
          let y := I'.pin (b, o) (List.mem_append_right _ (List.mem_append_right _ (mem_pinsAt hb z)))
          ⟨y.1, y.2.1⟩
        refine ⟨m', hm, i + 1, H', (I'.unpinned (pins := [p])).weak (by rw [← hw8, wipe_length]) (fun j v z => ?_), T.keep _ _ _ st7 fun b hb o z => (still b hb o z).1, fun b hb => ?_, w'⟩
        · rw [← hw8] at z
          exact (wipe_some z).1
        · obtain ⟨o, z, _⟩ := T.obj _ _ st7 b hb
          exact (still b hb o z).2
      cases b with
      | false =>
        rw [if_neg (by decide)] at q9
        rw [if_neg (by decide)]
        exact back I10 q9
      | true =>
        rw [if_pos rfl] at q9
        rw [if_pos rfl]
        have run3 := eT.run _ s9 σ8 H9 _ I10 q9
        rw [yA, same.1, same.2.1, yE.1, yE.2] at run3
        refine thnF run3 fun z s10 hz10 => ?_
        obtain ⟨yv, H10, I11, r10, acc, hD10, lt10, nx⟩ := hz10
        have ap := app_ok (X := Y) (E := fun _ _ => False) (Q := fun _ s' => ∃ m, m < n ∧ ∃ i H', Inv Y [p] (wipe σ (own.map (·.2))) H' s' ∧ tn i s'.heap ∧ (∀ b ∈ fp, H' b = none) ∧ W i m H') I11 hD10 lt10 r10 fun s11 I12 => back I12 nx
        rw [yA, same.1, same.2.1] at ap
        exact thnF ap fun _ _ w => w
  exact codeAny_compStart_list loop (T.self X.A 0 _ _ _ st4 loop)
theorem ps_setLcH {i : Nat} {y : Str} {py : Pos} {elt tg iter : Expr} {ifs : List Expr} {scope : Scope} {own : List (Str × Nat)} {pos spos : Pos} {wi : TI} {g : TG} {tt : TT} {te : TE} (hot : L2H.HotC X) (hN : X.N.Nodup) (hy : X.N[i]? = some y)
    (hyl : X.env.scope.names.lookup y = some .local) (hsw : swapsWith (.ListComp elt [⟨tg, iter, ifs, 0⟩] scope pos) (some (.Name y py)) spos.line X.env = pure true) (hi : L2H.PIH X tg iter wi) (ok : BlkOk X.N X.env.scope scope own)
    (hg : ∀ (s : Shared) (H : Hp) (C : Addr) (cl : List (Str × Addr)) (fp : List Addr), PG (X.blk s H scope (compEnvC scope cl C X.env) fp) tg g)
    (ht : ∀ (s : Shared) (H : Hp) (C : Addr) (cl : List (Str × Addr)) (fp : List Addr), PTs (X.blk s H scope (compEnvC scope cl C X.env) fp) ifs tt)
    (he : ∀ (s : Shared) (H : Hp) (C : Addr) (cl : List (Str × Addr)) (fp : List Addr), PE (X.blk s H scope (compEnvC scope cl C X.env) fp) elt te) (hs : ∀ x, foldedSetIterable iter X.env x = pure x := by intro _; rfl) :
    PS X (.Assign [.Name y py] (.ListComp elt [⟨tg, iter, ifs, 0⟩] scope pos) spos) (tAsg (tLc wi g tt te (own.map (·.2))) (gName i)) := ⟨fun pins s σ H D I h => by
  rw [exec_Assign_Name_used _ _ _ _ hsw]
  refine wpAny_bind (wpAny_standAt (wpAny_bind (wpAny_bind (thn (lcH (use := some (assign (.Name y py) X.env)) (pos' := firstIterPos [⟨tg, iter, ifs, 0⟩] pos) (Qf := fun _ s' => SP X pins D .next s') (Q := fun x H1 => gName i x σ H1 D.nx) hot hN I hi ok hg ht he hs h fun L C s' m H' I' q hn f => ?_) fun _ s' hq => wpAny_pure (wpAny_pure hq)))))
  show wpAny _ _ (assign (.Name y py) X.env (.ref L)) _ _ _
  obtain ⟨f0, f1, f2, f3, f4, f5⟩ := f
  refine wpAny_assign_Name (store_ok2 (v := V.ref L) I' hN hy (.inl hyl) rfl (fun s2 I2 hs2 => ?_) (.inr hyl))
  obtain ⟨a, sb, ha⟩ := hs2
  have apart : C ≠ a := ha.elim (fun z => by rw [z]; exact f1) fun z e => f4 y a z e.symm
  exact ⟨m, hn.sameBut sb apart, fun h3 sb3 => ⟨_, H', I2.turned (t' := s2.toks) (fun b o hb z => (sb3.2 b hb).trans z) f0 f1 f3 f4 f5, q⟩⟩⟩
end
end WbN
namespace Wb
open PySem PySem.Spec PyProof.Rows L2 PpSet
/-- room for one more -/
theorem un1 {k : Nat} {A : Around} (r : L2.Room k A) : A.units + 1 < cLine := by
  have := r.units
  omega
abbrev PairsN := List (Addr × List Int)
/-- L' is L with (x, k) put in -/
def PutIn (L : PairsN) (x : Addr) (k : List Int) (L' : PairsN) : Prop := (k ∈ L.map (·.2) → L' = L) ∧ (k ∉ L.map (·.2) → L'.Perm ((x, k) :: L))
section
variable {X : Cx}
/-- set.add of a tuple of numbers -/
theorem addT_ok {pins : List (Addr × Obj)} {σ : L2.St} {H : Hp} {s : Shared} {E : Value → Shared → Prop} {D x : Addr} {L : PairsN} {k : List Int} {Q : Value → Shared → Prop} (I : Inv X pins σ H s) (hu0 : X.A.units + 64 < cLine)
    (hD : H D = some (SetTO X.prog X.w D L)) (hL : ∀ p ∈ L, SqT X.K H p.1 (p.2.map V.int)) (hx : SqT X.K H x (k.map V.int)) (few : L.length + 1 < 64)
    (h : ∀ L' s', PutIn L x k L' → Inv X pins σ (upd H D (SetTO X.prog X.w D L')) s' → Q .none s') : wpAny (model X.prog X.w) X.A (call (.builtin "set.add") [.ref D, .ref x]) Q E s := by
  have R0 : SetT0 X.prog X.w s.heap D L := (I.hok D _ hD).1
  obtain ⟨es, ep, t, R⟩ := R0.full fun p hp => I.isT (hL p hp)
  obtain ⟨o, ho, hex, hd⟩ := R.ob
  have tyS : s.TypeIs (.ref D) "set" := ⟨o, ho, hex.1⟩
  have hX := I.isT hx
  have hu : X.A.in1.units < cLine := by
    have e : X.A.in1.units = X.A.units + 1 := rfl
    omega
  refine wpAny_call_entry F.slot_set_add tyS F.entry_set_add ?_ (F.args_set_add_2 _ _)
  unfold Builtin.«set.add» Builtin.Frozenset.oneOther
  simp only [List.isEmpty_nil, bind_assoc]
  unfold Builtin.Frozenset.addrOf setAdd
  refine wpAny_bind (wpAny_pure ?_)
  try dsimp only
  refine wpAny_bind (wpAny_pure ?_)
  try dsimp only
  refine wpAny_bind (wpAny_holding (wpAny_bind (wpAny_pyHash_tuple hu hX ?_)))
  refine add_at (s := { s with toks := s.toks + (k.length + 1) }) R hX hu few fun b h' L' es' ep' t' sb R' c1 c2 => ?_
  have ex' : ∃ u, h'.get? D = some u := by
    obtain ⟨u, hu', _⟩ := R'.ob
    exact ⟨u, hu'⟩
  show wpAny _ _ (ret Value.none) _ _ _
  refine wpAny_pure ⟨_, rfl, h L' _ ⟨c1, c2⟩ (I.write (e := D) (t' := s.toks + (k.length + 1)) (by rw [hD]; trivial) (.inl rfl) (fun c u hc hu => (sb.2 c hc).trans hu) ex' (setTO_new R'.t0))⟩
end
/-- {elt for t0 in i0 if .. for t1 in i1 if ..} -/
abbrev sc2E (elt t0 i0 t1 i1 : Expr) (c0 c1 : List Expr) (scope : Scope) (pos : Pos) : Expr := .SetComp elt [⟨t0, i0, c0, 0⟩, ⟨t1, i1, c1, 0⟩] scope pos
section
variable (elt t0 i0 t1 i1 : Expr) (c0 c1 : List Expr) (scope : Scope) (pos : Pos) (it acc : Value) (env : Env)
theorem sc2_turn0 : compTurn (sc2E elt t0 i0 t1 i1 c0 c1 scope pos) 0 it acc env = (do
    standAt i0.pos
    match ← pyNext it with
    | none => pure (.done .next)
    | some v =>
      letOwnedTupleGo t0 it v
      assign t0 env v
      let mut go := true
      for c in c0 do
        if go then go ← isTrue c env (eval c env)
      if go then
        let u ← eval i1 env
        standAt i1.pos
        let u ← foldedSetIterable i1 env u
        let _ ← runOwn (.compStart (sc2E elt t0 i0 t1 i1 c0 c1 scope pos) 1 (← holding [u] (pyIter u)) acc env) env
      again (.compLoop (sc2E elt t0 i0 t1 i1 c0 c1 scope pos) 0 it acc env)) := by rfl
theorem sc2_turn1 : compTurn (sc2E elt t0 i0 t1 i1 c0 c1 scope pos) 1 it acc env = (do
    standAt i1.pos
    match ← pyNext it with
    | none => pure (.done .next)
    | some v =>
      letOwnedTupleGo t1 it v
      assign t1 env v
      let mut go := true
      for c in c1 do
        if go then go ← isTrue c env (eval c env)
      if go then
        (do let u ← eval elt env; standAt elt.pos; let _ ← call (.builtin "set.add") [acc, u])
      again (.compLoop (sc2E elt t0 i0 t1 i1 c0 c1 scope pos) 1 it acc env)) := by rfl
end
section
variable {prog : Program} {w : World} {A : Around} {R : Result → Shared → Prop} {s : Shared} {elt t0 i0 t1 i1 : Expr} {c0 c1 : List Expr} {scope : Scope} {pos : Pos} {it acc : Value} {env : Env}
/-- what a turn does behind its tests, and where an error goes -/
abbrev Ers (prog : Program) (w : World) (A : Around) (R : Result → Shared → Prop) (env : Env) : Value → Shared → Prop := notedBy (model prog w) A env fun e s' => R (.error e) s'
/-- the tests of a clause, one by one -/
abbrev testsOf (cs : List Expr) (env : Env) : Sem Bool := forIn cs true fun c r => if r = true then do let ok ← isTrue c env (eval c env); pure (ForInStep.yield ok) else pure (ForInStep.yield r)
theorem sc2_loop0 (hs : ∀ x, foldedSetIterable i1 env x = pure x) (I : Nat → Shared → Prop)
    (turn : ∀ n s, I n s → wpAny (model prog w) A (pyNext it) (fun r s1 => match r with
      | none => R (.ok .next) s1
      | some v => wpAny (model prog w) A (letOwnedTupleGo t0 it v) (fun _ s2 => wpAny (model prog w) A (assign t0 env v) (fun _ s3 => wpAny (model prog w) A (testsOf c0 env) (fun go s4 =>
          if go = true then wpAny (model prog w) A (eval i1 env) (fun u s5 => wpAny (model prog w) A (pyIter u) (fun j s6 =>
            codeAny (model prog w) A (.compStart (sc2E elt t0 i0 t1 i1 c0 c1 scope pos) 1 j acc env) (fun r s7 => match r with
              | .ok _ => ∃ m, m < n ∧ I m s7
              | .error _ => False) s6) (Ers prog w A R env) s5) (Ers prog w A R env) s4
          else ∃ m, m < n ∧ I m s4) (Ers prog w A R env) s3) (Ers prog w A R env) s2) (Ers prog w A R env) s1) (Ers prog w A R env) s) (n : Nat) (h : I n s) :
    codeAny (model prog w) A (.compLoop (sc2E elt t0 i0 t1 i1 c0 c1 scope pos) 0 it acc env) R s := by
  refine codeAny_loop rfl I (fun m s' hm => ?_) n h
  show wpAny _ A ((compTurn (sc2E elt t0 i0 t1 i1 c0 c1 scope pos) 0 it acc env).onRaise (fun e => do noteFrame e env; theTreesLotGoes e)) _ _ s'
  refine wpAny_noted ?_
  rw [sc2_turn0]
  refine wpAny_bind (wpAny_standAt (wpAny_bind (wpAny_mono (turn m s' hm) (fun r s1 h1 => ?_) fun _ _ z => z)))
  match r, h1 with
  | none, h1 => exact wpAny_pure h1
  | some v, h1 =>
    refine wpAny_bind (wpAny_mono h1 (fun _ s2 h2 => wpAny_bind (wpAny_mono h2 (fun _ s3 h3 => wpAny_bind (wpAny_mono h3 (fun go s4 h4 => ?_) fun _ _ z => z)) fun _ _ z => z)) fun _ _ z => z)
    match go, h4 with
    | false, h4 => exact wpAny_pure ⟨rfl, h4⟩
    | true, h4 =>
      refine wpAny_bind (wpAny_mono h4 (fun u s5 h5 => wpAny_bind (wpAny_standAt (wpAny_bind (wpAny_of_eq (hs u) (wpAny_bind (wpAny_holding (wpAny_mono h5 (fun j s6 h6 => wpAny_bind (wpAny_runOwn ?_)) fun _ _ z => z))))))) fun _ _ z => z)
      rw [Around.mark_none]
      refine codeAny_mono h6 fun r s7 hr => ?_
      match r, hr with
      | .ok f, hr =>
        first
          | exact wpAny_pure ⟨rfl, hr⟩
          | exact wpAny_bind (wpAny_pure (wpAny_pure ⟨rfl, hr⟩))
      | .error e, hr => exact hr.elim
theorem sc2_loop1 (I : Nat → Shared → Prop)
    (turn : ∀ n s, I n s → wpAny (model prog w) A (pyNext it) (fun r s1 => match r with
      | none => R (.ok .next) s1
      | some v => wpAny (model prog w) A (letOwnedTupleGo t1 it v) (fun _ s2 => wpAny (model prog w) A (assign t1 env v) (fun _ s3 => wpAny (model prog w) A (testsOf c1 env) (fun go s4 =>
          if go = true then wpAny (model prog w) A (eval elt env) (fun u s5 => wpAny (model prog w) A (call (.builtin "set.add") [acc, u]) (fun _ s6 => ∃ m, m < n ∧ I m s6) (Ers prog w A R env) s5) (Ers prog w A R env) s4
          else ∃ m, m < n ∧ I m s4) (Ers prog w A R env) s3) (Ers prog w A R env) s2) (Ers prog w A R env) s1) (Ers prog w A R env) s) (n : Nat) (h : I n s) :
    codeAny (model prog w) A (.compLoop (sc2E elt t0 i0 t1 i1 c0 c1 scope pos) 1 it acc env) R s := by
  refine codeAny_loop rfl I (fun m s' hm => ?_) n h
  show wpAny _ A ((compTurn (sc2E elt t0 i0 t1 i1 c0 c1 scope pos) 1 it acc env).onRaise (fun e => do noteFrame e env; theTreesLotGoes e)) _ _ s'
  refine wpAny_noted ?_
  rw [sc2_turn1]
  refine wpAny_bind (wpAny_standAt (wpAny_bind (wpAny_mono (turn m s' hm) (fun r s1 h1 => ?_) fun _ _ z => z)))
  match r, h1 with
  | none, h1 => exact wpAny_pure h1
  | some v, h1 =>
    refine wpAny_bind (wpAny_mono h1 (fun _ s2 h2 => wpAny_bind (wpAny_mono h2 (fun _ s3 h3 => wpAny_bind (wpAny_mono h3 (fun go s4 h4 => ?_) fun _ _ z => z)) fun _ _ z => z)) fun _ _ z => z)
    match go, h4 with
    | false, h4 => exact wpAny_pure ⟨rfl, h4⟩
    | true, h4 => exact wpAny_bind (wpAny_bind (wpAny_mono h4 (fun u s5 h5 => wpAny_bind (wpAny_standAt (wpAny_bind (wpAny_mono h5 (fun _ s6 h6 => wpAny_pure (wpAny_pure ⟨rfl, h6⟩)) fun _ _ z => z)))) fun _ _ z => z))
/-- the start of the second clause -/
theorem sc2_start1 (a : codeAny (model prog w) A (.compLoop (sc2E elt t0 i0 t1 i1 c0 c1 scope pos) 1 it acc env) R s)
    (b : wpAny (model prog w) A (pyIter it) (fun j s' => codeAny (model prog w) A (.compLoop (sc2E elt t0 i0 t1 i1 c0 c1 scope pos) 1 j acc env) R s') (Ers prog w A R env) s) :
    codeAny (model prog w) A (.compStart (sc2E elt t0 i0 t1 i1 c0 c1 scope pos) 1 it acc env) R s := by
  refine codeAny_of_tree ?_
  show wpAny _ _ ((compStart (sc2E elt t0 i0 t1 i1 c0 c1 scope pos) 1 it acc env).onRaise (fun e => do noteFrame e env; standAt theWindowsPlace)) _ _ s
  refine wpAny_notedAt ?_
  unfold compStart
  show wpAny _ _ (ask >>= _) _ _ s
  refine wpAny_bind (wpAny_askSetting (wpAny_ite ?_))
  split
  · first
      | exact wpAny_bind (wpAny_pure (wpAny_pure (And.intro rfl a)))
      | exact wpAny_pure (And.intro rfl a)
  · first
      | exact wpAny_bind (wpAny_rule (wpAny_bind (wpAny_standAt (wpAny_bind (wpAny_mono b (fun j s' z => wpAny_pure (And.intro rfl z)) fun _ _ z => z)))))
      | (refine wpAny_bind (wpAny_rule ?_); show wpAny _ _ (standAt i1.pos >>= _) _ _ s; exact wpAny_bind (wpAny_standAt (wpAny_bind (wpAny_mono b (fun j s' z => wpAny_pure (And.intro rfl z)) fun _ _ z => z))))
end
section
variable {X : Cx}
/-- the turn's end: y is a tuple of numbers, and is put in -/
def putTo (P : Program) (w : World) (K : PySem.W.Frag) (D : Addr) (y : V) (H : Hp) (Nx : Hp → Prop) : Prop := ∃ (L : PairsN) (x : Addr) (k : List Int), y = .ref x ∧ H D = some (SetTO P w D L) ∧ (∀ p ∈ L, SqT K H p.1 (p.2.map V.int)) ∧ SqT K H x (k.map V.int) ∧ L.length + 1 < 64 ∧
  ∀ L', PutIn L x k L' → Nx (upd H D (SetTO P w D L'))
def tSc2 (P : Program) (w : World) (K : PySem.W.Frag) (wi : TI) (g : TG) (tt : TT) (wi1 : TI) (g1 : TG) (tt1 : TT) (te : TE) (vs vs1 : List Nat) : TE := fun σ H Q => wi σ H fun J H1 => ∀ D, H1 D = none → ∃ W : Nat → Nat → Hp → Prop, (∃ m, W 0 m (upd H1 D (SetTO P w D []))) ∧ ∀ i m H, W i m H →
  (J.stop i H ∧ Q (.ref D) H) ∨ (J.go i H ∧ ∃ Nx : Hp → Prop, (∀ H', Nx H' → ∃ m', m' < m ∧ W (i + 1) m' H') ∧ ∀ x H', J.yld i H x H' → g x (wipe σ vs) H' fun σ2 H2 => wipe σ2 vs = wipe σ vs ∧ tt σ2 H2 fun b H3 =>
    if b = true then wi1 σ2 H3 fun J1 H4 => ∃ W1 : Nat → Nat → Hp → Prop, (∃ m, W1 0 m H4) ∧ ∀ j k H, W1 j k H →
      (J1.stop j H ∧ Nx H) ∨ (J1.go j H ∧ ∃ Nx1 : Hp → Prop, (∀ H', Nx1 H' → ∃ k', k' < k ∧ W1 (j + 1) k' H') ∧ ∀ x H', J1.yld j H x H' → g1 x (wipe σ2 vs1) H' fun σ3 H5 => wipe σ3 vs1 = wipe σ2 vs1 ∧ tt1 σ3 H5 fun b H6 =>
        if b = true then te σ3 H6 fun y H7 => putTo P w K D y H7 Nx1 else Nx1 H6)
    else Nx H3)
/-- a block of the comprehension, whatever it was entered from -/
abbrev Blk (X : Cx) (scope : Scope) (J : Cx → Prop) : Prop := ∀ (s : Shared) (H : Hp) (C : Addr) (cl : List (PySem.Str × Addr)) (fp : List Addr), J (X.blk s H scope (compEnvC scope cl C X.env) fp)
theorem pe_sc2 {elt t0 i0 t1 i1 : Expr} {c0 c1 : List Expr} {scope : Scope} {own : List (PySem.Str × Nat)} {vs1 : List Nat} {pos : Pos} {wi wi1 : TI} {g g1 : TG} {tt tt1 : TT} {te : TE} (hc : X.calm = true) (hu : X.A.units + 64 < cLine) (hN : X.N.Nodup) (hi : PI X t0 i0 wi)
    (ok : BlkOk X.N X.env.scope scope own) (hv : ∀ i ∈ vs1, i ∈ own.map (·.2)) (hg : Blk X scope fun Y => PG Y t0 g) (ht : Blk X scope fun Y => PTs Y c0 tt) (hi1 : Blk X scope fun Y => PI Y t1 i1 wi1) (hg1 : Blk X scope fun Y => PG Y t1 g1) (ht1 : Blk X scope fun Y => PTs Y c1 tt1)
    (he : Blk X scope fun Y => PE Y elt te) (hs : ∀ x, foldedSetIterable i0 X.env x = pure x := by intro _; rfl) (hs1 : ∀ env x, foldedSetIterable i1 env x = pure x := by intro _ _; rfl) :
    PE X (.SetComp elt [⟨t0, i0, c0, 0⟩, ⟨t1, i1, c1, 0⟩] scope pos) (tSc2 X.prog X.w X.K wi g tt wi1 g1 tt1 te (own.map (·.2)) vs1) := by
  refine ⟨fun pins s σ H Q I h => ?_⟩
  rw [eval_SetComp]
  have free : ∀ y ∈ scope.names, y.2 = .free → ∃ c, X.env.cells.lookup y.1 = some c := fun y hy e => (ok.free y hy e).elim (fun k => I.ok.has _ (.inl k)) fun k => I.ok.has _ (.inr k)
  refine wpAny_comprehension_free (use := none) rfl hs (closure_ok free) ok.kind (fun y hy e => by rw [ok.uniq y hy, e]) (thn (hi.run pins s σ H _ I h) fun xv sa ha => thn ha fun iv sb hb => ?_)
  obtain ⟨it, fp, tn, J, Hb, e, Ib, T, stb, fpb, q⟩ := hb
  subst e
  refine newSet_ok (newEnv_comp ?_)
  obtain ⟨D, hD⟩ : ∃ D, sb.heap.objs.size = D := ⟨_, rfl⟩
  rw [hD]
  have nD : Hb D = none := Ib.hok.fresh (Nat.le_of_eq hD)
  obtain ⟨W, ⟨mm, ww⟩, turn⟩ := q D nD
  generalize hsc : ({ sb with heap := sb.heap.push { cls := .type "set", dict := none, data := .set #[] 0 (.fresh 0 0 (!X.w.params.followText "set-order")) } } : Shared) = sc
  have heq : sc.heap = sb.heap.push { cls := .type "set", dict := none, data := .set #[] 0 (.fresh 0 0 (!X.w.params.followText "set-order")) } := by rw [← hsc]
  have Ic : Inv X pins σ (upd Hb D (SetTO X.prog X.w D [])) sc := by
    rw [← hsc]
    refine Ib.laid (t' := sb.toks) (fun b o e => Heap.get?_push_of_some _ e) (Nat.le_of_eq hD) (setTO_new (SetTR.t0 (setTR_fresh ?_)))
    rw [← hD]
    exact Heap.get?_push_size _ rfl
  have lt : ∀ b ∈ fp, b < sb.heap.objs.size := fun b hb => by
    obtain ⟨o, e, _⟩ := T.obj _ _ stb b hb
    exact Heap.lt_size e
  have fpc : ∀ b ∈ fp, FpOk X pins (upd Hb D (SetTO X.prog X.w D [])) b ∧ b < sc.heap.objs.size := fun b hb =>
    ⟨⟨by rw [upd_ne (by rw [← hD]; exact Nat.ne_of_lt (lt b hb))]; exact (fpb b hb).1, (fpb b hb).2⟩, by rw [heq, Heap.size_push]; exact Nat.lt_succ_of_lt (lt b hb)⟩
  have stc : tn 0 sc.heap := T.keep _ _ _ stb fun b _ o e => by rw [heq]; exact Heap.get?_push_of_some _ e
  have Id := block_start Ic ok hN fpc
  have Zg := hg sc (upd Hb D (SetTO X.prog X.w D [])) sc.heap.objs.size (cellsFrom (sc.heap.objs.size + 1) scope.names (cloFrom X.env.cells scope.names [])) fp
  have Zt := ht sc (upd Hb D (SetTO X.prog X.w D [])) sc.heap.objs.size (cellsFrom (sc.heap.objs.size + 1) scope.names (cloFrom X.env.cells scope.names [])) fp
  have Ze := he sc (upd Hb D (SetTO X.prog X.w D [])) sc.heap.objs.size (cellsFrom (sc.heap.objs.size + 1) scope.names (cloFrom X.env.cells scope.names [])) fp
  have Zi := hi1 sc (upd Hb D (SetTO X.prog X.w D [])) sc.heap.objs.size (cellsFrom (sc.heap.objs.size + 1) scope.names (cloFrom X.env.cells scope.names [])) fp
  have Zh := hg1 sc (upd Hb D (SetTO X.prog X.w D [])) sc.heap.objs.size (cellsFrom (sc.heap.objs.size + 1) scope.names (cloFrom X.env.cells scope.names [])) fp
  have Zu := ht1 sc (upd Hb D (SetTO X.prog X.w D [])) sc.heap.objs.size (cellsFrom (sc.heap.objs.size + 1) scope.names (cloFrom X.env.cells scope.names [])) fp
  show codeAny _ _ (.compStart (sc2E elt t0 i0 t1 i1 c0 c1 scope pos) 0 (.ref it) (.ref D) (compEnvC scope (cellsFrom (sc.heap.objs.size + 1) scope.names (cloFrom X.env.cells scope.names [])) sc.heap.objs.size X.env)) _ { sc with heap := pushCells (sc.heap.push { cls := .type "dict", data := .dict #[] }) scope.names }
  have bare : ∀ b ∈ fp, (upd Hb D (SetTO X.prog X.w D [])) b = none := fun b hb => (fpc b hb).1.1
  generalize hce : compEnvC scope (cellsFrom (sc.heap.objs.size + 1) scope.names (cloFrom X.env.cells scope.names [])) sc.heap.objs.size X.env = ce at Id Zg Zt Ze Zi Zh Zu ⊢
  have loc : ce.locals = sc.heap.objs.size := by
    rw [← hce]
    rfl
  generalize hHc : upd Hb D (SetTO X.prog X.w D []) = Hc at Ic Id Zg Zt Ze Zi Zh Zu ww bare fpc
  generalize hsd : ({ sc with heap := pushCells (sc.heap.push { cls := .type "dict", data := .dict #[] }) scope.names } : Shared) = sd at Id ⊢
  have std : tn 0 sd.heap := T.keep _ _ _ stc fun b _ o e => by
    rw [← hsd]
    exact pushCells_keeps _ _ _ _ (Heap.get?_push_of_some _ e)
  have okF : ∀ {σ' : L2.St} {H' : Hp} {s' : Shared}, Inv (X.blk sc Hc scope ce fp) [] σ' H' s' → (∀ b ∈ fp, H' b = none) → ∀ b ∈ fp, FpOk (X.blk sc Hc scope ce fp) [] H' b := fun {_ _ _} I' nn b hb =>
    ⟨nn b hb, (I'.ok.exf b hb).1, I'.ok.exfs b hb, .inl hb, (fun x c e => (I'.ok.exf b hb).2 x c e), fun p hp => by cases hp⟩
  obtain ⟨vs, evs⟩ : ∃ vs, own.map (·.2) = vs := ⟨_, rfl⟩
  rw [evs] at turn hv
  -- what stands between two turns of the first clause
  let Mid : Nat → Shared → Prop := fun n s' => ∃ i H', Inv (X.blk sc Hc scope ce fp) [] (wipe σ vs) H' s' ∧ tn i s'.heap ∧ (∀ b ∈ fp, H' b = none) ∧ W i n H'
  have Id' : Inv (X.blk sc Hc scope ce fp) [] (wipe σ vs) Hc sd := by
    rw [← evs]
    exact Id
  refine codeAny_compStart_set (rest := [⟨t1, i1, c1, 0⟩]) ?_ (T.self X.A 0 _ _ _ std ?_)
  all_goals
    refine sc2_loop0 (hs1 ce) Mid ?_ mm ⟨0, Hc, Id', std, bare, ww⟩
    rintro n se ⟨i, He, Ie, ste, ne, we⟩
    rcases turn i n He we with ⟨stop, qq⟩ | ⟨go, Nx, hNx, step⟩
    · refine thnF (T.done (X.blk sc Hc scope ce fp) rfl rfl rfl hc i [] se _ He (fun _ _ => False) Ie (okF Ie ne) ste stop) fun r sf ⟨hr, If⟩ => ?_
      subst hr
      have Ig : Inv X pins σ He sf := Ic.call' (ch := fp) If.os If.base If.hok If.bare fun b hb => ⟨(fpc b hb).1.2.2.2.1, (fpc b hb).1.2.1, (fpc b hb).1.2.2.2.2.1, (fpc b hb).1.2.2.2.2.2⟩
      have nC : He sc.heap.objs.size = none := by
        rw [← loc]
        exact If.free
      obtain ⟨m, hn, _⟩ := If.loc
      have hn' : sf.heap.Ns sc.heap.objs.size m := by
        rw [← loc]
        exact hn
      refine ⟨m, hn', fun h'' sb'' => ?_⟩
      obtain ⟨f0, f1, f2, f3, f4, f5⟩ := Ic.fpOk (Nat.le_refl _) nC
      exact ⟨.ref D, He, Ig.turned (t' := sf.toks) (fun b o hb e => (sb''.2 b hb).trans e) f0 f1 f3 f4 f5, rfl, qq⟩
    · refine thnF (T.item (X.blk sc Hc scope ce fp) rfl rfl rfl hc i [] se _ He (fun _ _ => False) Ie (okF Ie ne) ste go) fun r sf ⟨u, hr, hf⟩ => ?_
      subst hr
      refine thnF hf fun _ sg ⟨x, Hg, Ig, rg, yg, stg, ng⟩ => ?_
      refine thnF (Zg.run _ sg _ Hg x u _ (Ig.pinned (okF Ig ng) (T.obj _ _ stg)) rg (step x Hg yg)) fun _ sh ⟨σh, Hh, Ih, wh, qh⟩ => ?_
      refine thnF (Zt.run _ sh σh Hh _ Ih qh) fun b sk ⟨Hk, Ik, qk⟩ => ?_
      have lenh : (wipe σ vs).length = σh.length := by rw [← wh, wipe_length]
      have end0 : ∀ {σ' : L2.St} {s' : Shared} {H' : Hp}, Inv (X.blk sc Hc scope ce fp) ([] ++ pinsAt fp sg.heap) σ' H' s' → (wipe σ vs).length = σ'.length → (∀ (j : Nat) v, (wipe σ vs)[j]? = some (some v) → σ'[j]? = some (some v)) → Nx H' → ∃ m, m < n ∧ Mid m s' := fun {σ' s' H'} I' l1 l2 nx => by
        obtain ⟨m', hm, w'⟩ := hNx H' nx
        have pinned : ∀ b ∈ fp, ∀ o, sg.heap.get? b = some o → s'.heap.get? b = some o ∧ H' b = none := fun b hb o e => by
          have z := I'.pin (b, o) (List.mem_append_right _ (List.mem_append_right _ (mem_pinsAt hb e)))
          exact ⟨z.1, z.2.1⟩
        refine ⟨m', hm, i + 1, H', (I'.unpinned (pins := [])).weak l1 l2, T.keep _ _ _ stg fun b hb o e => (pinned b hb o e).1, fun b hb => ?_, w'⟩
        obtain ⟨o, e, _⟩ := T.obj _ _ stg b hb
        exact (pinned b hb o e).2
      have kh : ∀ (j : Nat) v, (wipe σ vs)[j]? = some (some v) → σh[j]? = some (some v) := fun j v e => (wipe_some (by rw [wh]; exact e)).1
      have kh1 : ∀ (j : Nat) v, (wipe σ vs)[j]? = some (some v) → (wipe σh vs1)[j]? = some (some v) := fun j v e => by
        obtain ⟨e1, e2⟩ := wipe_some (show (wipe σh vs)[j]? = some (some v) by rw [wh]; exact e)
        rw [wipe_out fun z => e2 (hv j z)]
        exact e1
      match b, qk with
      | false, qk => exact end0 Ik lenh kh qk
      | true, qk =>
        refine thnF (Zi.run _ sk σh Hk _ Ik qk) fun xv sl hl => thnF hl fun iv sm hm => ?_
        obtain ⟨jt, fq, tq, J1, Hm, ej, Im, T1, stm, fqm, W1, ⟨m1, w1⟩, turn1⟩ := hm
        subst ej
        have okQ : ∀ {H' : Hp}, (∀ b ∈ fq, H' b = none) → ∀ b ∈ fq, FpOk (X.blk sc Hc scope ce fp) ([] ++ pinsAt fp sg.heap) H' b := fun nn b hb => ⟨nn b hb, (fqm b hb).2⟩
        let Mid1 : Nat → Shared → Prop := fun k s' => ∃ j H', Inv (X.blk sc Hc scope ce fp) ([] ++ pinsAt fp sg.heap) (wipe σh vs1) H' s' ∧ tq j s'.heap ∧ (∀ b ∈ fq, H' b = none) ∧ W1 j k H'
        have inner : codeAny (model X.prog X.w) X.A (.compLoop (sc2E elt t0 i0 t1 i1 c0 c1 scope pos) 1 (.ref jt) (.ref D) ce) (fun r s7 => match r with
              | .ok _ => ∃ m, m < n ∧ Mid m s7
              | .error _ => False) sm := by
          refine sc2_loop1 Mid1 ?_ m1 ⟨0, Hm, Im.weak (wipe_length _ _) (fun j v e => (wipe_some e).1), stm, fun b hb => (fqm b hb).1, w1⟩
          rintro k sn ⟨j, Hn, In, stn, nn, wn⟩
          rcases turn1 j k Hn wn with ⟨stop1, nx1⟩ | ⟨go1, Nx1, hNx1, step1⟩
          · refine thnF (T1.done (X.blk sc Hc scope ce fp) rfl rfl rfl hc j _ sn (wipe σh vs1) Hn (fun _ _ => False) In (okQ nn) stn stop1) fun r so ⟨hr, Io⟩ => ?_
            subst hr
            exact end0 Io (lenh.trans (wipe_length σh vs1).symm) kh1 nx1
          · refine thnF (T1.item (X.blk sc Hc scope ce fp) rfl rfl rfl hc j _ sn (wipe σh vs1) Hn (fun _ _ => False) In (okQ nn) stn go1) fun r so ⟨u1, hr, ho⟩ => ?_
            subst hr
            refine thnF ho fun _ sp ⟨x1, Hp1, Ip, rp, yp, stp', np⟩ => ?_
            refine thnF (Zh.run _ sp (wipe σh vs1) Hp1 x1 u1 _ (Ip.pinned (okQ np) (T1.obj _ _ stp')) rp (step1 x1 Hp1 yp)) fun _ sq ⟨σq, Hq, Iq, wq, qq⟩ => ?_
            refine thnF (Zu.run _ sq σq Hq _ Iq qq) fun b1 sr ⟨Hr, Ir, qr⟩ => ?_
            have end1 : ∀ {s' : Shared} {H' : Hp}, Inv (X.blk sc Hc scope ce fp) (([] ++ pinsAt fp sg.heap) ++ pinsAt fq sp.heap) σq H' s' → Nx1 H' → ∃ m, m < k ∧ Mid1 m s' := fun {s' H'} I' nx => by
              obtain ⟨m', hm, w'⟩ := hNx1 H' nx
              have pinned : ∀ b ∈ fq, ∀ o, sp.heap.get? b = some o → s'.heap.get? b = some o ∧ H' b = none := fun b hb o e => by
                have z := I'.pin (b, o) (List.mem_append_right _ (List.mem_append_right _ (mem_pinsAt hb e)))
                exact ⟨z.1, z.2.1⟩
              refine ⟨m', hm, j + 1, H', I'.unpinned.weak (by rw [← wq, wipe_length]) (fun j v e => (wipe_some (by rw [wq]; exact e)).1), T1.keep _ _ _ stp' fun b hb o e => (pinned b hb o e).1, fun b hb => ?_, w'⟩
              obtain ⟨o, e, _⟩ := T1.obj _ _ stp' b hb
              exact (pinned b hb o e).2
            match b1, qr with
            | false, qr => exact end1 Ir qr
            | true, qr =>
              refine thnF (Ze.run _ sr σq Hr _ Ir qr) fun z ss ⟨yv, Hs, Is, rs, L, xx, kk, ey, hDs, hLs, hxs, fewL, nx⟩ => ?_
              subst ey
              cases rs
              exact addT_ok (X := X.blk sc Hc scope ce fp) Is hu hDs hLs hxs fewL fun L' st pin I' => end1 I' (nx L' pin)
        exact sc2_start1 inner (T1.self X.A 0 _ _ _ stm inner)
end
section
variable {X : Cx} {K : PySem.W.Frag} {tg l : Expr} {tl : TE}
/-- within a block the frame is told -/
theorem pi_tupK (hK : X.K = K) (hl : PE X l tl) : PI X tg l (iTup K tl) := by
  subst hK
  exact pi_tup hl
theorem pi_listK (hK : X.K = K) (hl : PE X l tl) : PI X tg l (iList K tl) := by
  subst hK
  exact pi_list hl
end
end Wb
namespace Wb
open PySem PySem.Spec PyProof.Rows L2 PpSet
mutual
inductive KyH (K : PySem.W.Frag) (H : Hp) : NestedKey → V → Prop
  | non : KyH K H .none .non
  | bl (b : Bool) : KyH K H (.num (if b = true then 1 else 0)) (.bl b)
  | int (i : Int) : KyH K H (.num i) (.int i)
  | str (x : Str) : KyH K H (.text x) (.str x)
  | tup {a : Addr} {xs : List V} {ks : List NestedKey} : SqT K H a xs → KysH K H ks xs → KyH K H (.tup ks) (.ref a)
inductive KysH (K : PySem.W.Frag) (H : Hp) : List NestedKey → List V → Prop
  | nil : KysH K H [] []
  | cons {k : NestedKey} {ks : List NestedKey} {x : V} {xs : List V} : KyH K H k x → KysH K H ks xs → KysH K H (k :: ks) (x :: xs)
end
section
variable {X : Cx} {pins : List (Addr × Obj)} {σ : L2.St} {H : Hp} {s : Shared}
mutual
theorem KyH.is (I : Inv X pins σ H s) : ∀ {k : NestedKey} {v : V} {u : Value}, KyH X.K H k v → RelV v u → NestedIs s.heap k u
  | _, _, _, .non, r => by cases r; exact .none
  | _, _, _, .bl b, r => by cases r; exact .bool rfl
  | _, _, _, .int i, r => by obtain ⟨t, rfl⟩ := r; exact .int i t
  | _, _, _, .str x, r => by obtain ⟨t, rfl⟩ := r; exact .text x t
  | _, _, _, .tup q ks, r => by
    cases r
    obtain ⟨its, rs, ⟨o, h1, h2, n, h3⟩, _⟩ := I.tuple q
    exact .tup h1 h2 h3 (by simpa using KysH.are I ks rs)
theorem KysH.are (I : Inv X pins σ H s) : ∀ {ks : List NestedKey} {xs : List V} {us : List Value}, KysH X.K H ks xs → Vals xs us → NestedAll s.heap ks us
  | _, _, _, .nil, r => by cases r; exact .nil
  | _, _, _, .cons a b, r => by
    cases r with
    | cons r rs => exact .cons (KyH.is I a r) (KysH.are I b rs)
end
end
mutual
theorem KyH.kept {K : PySem.W.Frag} {H H' : Hp} (f : ∀ a xs, SqT K H a xs → SqT K H' a xs) : ∀ {k : NestedKey} {v : V}, KyH K H k v → KyH K H' k v
  | _, _, .non => .non
  | _, _, .bl b => .bl b
  | _, _, .int i => .int i
  | _, _, .str x => .str x
  | _, _, .tup q ks => .tup (f _ _ q) (KysH.kept f ks)
theorem KysH.kept {K : PySem.W.Frag} {H H' : Hp} (f : ∀ a xs, SqT K H a xs → SqT K H' a xs) : ∀ {ks : List NestedKey} {xs : List V}, KysH K H ks xs → KysH K H' ks xs
  | _, _, .nil => .nil
  | _, _, .cons a b => .cons (KyH.kept f a) (KysH.kept f b)
end
abbrev XE := NestedKey × Addr × V
def KX : List XE → List (NestedKey × Addr × Value) → Prop := Paired fun p q => p.1 = q.1 ∧ p.2.1 = q.2.1 ∧ RelV p.2.2 q.2.2
def entX (w : World) (x : NestedKey × Addr × Value) : DictEntry := ⟨x.1.hash w, .ref x.2.1, x.2.2⟩
/-- a dict whose keys are nested tuples -/
def DXO (w : World) (a : Addr) (es : List XE) : HO := .ext fun h => es.length ≤ sizeLine ∧ (a == sysModules) = false ∧ ∃ xs, KX es xs ∧ (xs.map (·.1)).Nodup ∧
  ∃ o as ep, h.get? a = some o ∧ o.ExactDict ∧ o.data = .dict as ep ∧ as.toList = xs.map (entX w)
def valX (es : List XE) (k : NestedKey) : Option V := (es.find? fun e => decide (e.1 = k)).map (·.2.2)
def putX (es : List XE) (k : NestedKey) (b : Addr) (v : V) : List XE :=
  if (valX es k).isSome = true then es.map fun e => if e.1 = k then (e.1, e.2.1, v) else e else es ++ [(k, b, v)]
theorem KX.len {es : List XE} {xs : List (NestedKey × Addr × Value)} (r : KX es xs) : es.length = xs.length := Paired.length r
theorem KX.val : ∀ {es : List XE} {xs : List (NestedKey × Addr × Value)} (r : KX es xs) (k : NestedKey), RelO (valX es k) ((atKey xs k).map (·.2))
  | _, _, .nil, k => True.intro
  | e :: es, x :: xs, .cons r t, k => by
    obtain ⟨r1, r2, r3⟩ := r
    have q := KX.val t k
    unfold valX atKey at q ⊢
    rw [List.find?_cons, List.find?_cons, ← r1]
    by_cases h : e.1 = k
    · simp only [h, decide_true]
      exact r3
    · simp only [h, decide_false]
      exact q
theorem KX.map (k : NestedKey) {v : V} {u : Value} (rv : RelV v u) : ∀ {es : List XE} {xs : List (NestedKey × Addr × Value)}, KX es xs → KX (es.map fun e => if e.1 = k then (e.1, e.2.1, v) else e) (xs.map (putAt k u))
  | _, _, .nil => .nil
  | e :: es, x :: xs, .cons r t => by
    obtain ⟨r1, r2, r3⟩ := r
    refine .cons ?_ (KX.map k rv t)
    unfold putAt
    rw [← r1]
    dsimp only
    by_cases h : e.1 = k
    · rw [if_pos h, if_pos h]
      exact ⟨rfl, r2, rv⟩
    · rw [if_neg h, if_neg h]
      exact ⟨r1, r2, r3⟩
theorem KX.app : ∀ {es fs : List XE} {xs ys : List (NestedKey × Addr × Value)}, KX es xs → KX fs ys → KX (es ++ fs) (xs ++ ys)
  | _, _, _, _, .nil, s => s
  | _, _, _, _, .cons r t, s => .cons r (KX.app t s)
theorem relO_some {o : Option V} {u : Option Value} (r : RelO o u) : o.isSome = u.isSome := by
  cases o <;> cases u <;> first | rfl | cases r
theorem KX.put {es : List XE} {xs : List (NestedKey × Addr × Value)} (r : KX es xs) (k : NestedKey) (b : Addr) {v : V} {u : Value} (rv : RelV v u) : KX (putX es k b v) (storedH xs k b u) := by
  have q := relO_some (r.val k)
  rw [Option.isSome_map] at q
  unfold putX storedH
  rw [← q]
  split
  · exact r.map k rv
  · exact r.app (.cons ⟨rfl, rfl, rv⟩ .nil)
theorem KX.keys : ∀ {es : List XE} {xs : List (NestedKey × Addr × Value)}, KX es xs → ∀ x ∈ xs, ∃ e ∈ es, e.1 = x.1 ∧ e.2.1 = x.2.1
  | _, _, .nil, x, m => nomatch m
  | _, _, .cons r t, x, m => by
    rcases List.mem_cons.mp m with rfl | m
    · exact ⟨_, List.mem_cons_self, r.1, r.2.1⟩
    · obtain ⟨e, h1, h2⟩ := KX.keys t x m
      exact ⟨e, List.mem_cons_of_mem _ h1, h2⟩
/-- a code object is no dict -/
theorem dx_code (w : World) (a : Addr) (es : List XE) (c : Addr) (q : Str) : DXO w a es ≠ LamX.CodeO c q := fun e => by
  have e2 := HO.ext.inj e
  let ob : Obj := { cls := .none, data := .fields #[.none, .str q 0] }
  let h : Heap := { objs := Array.replicate (c + 1) ob }
  have g : ∀ b o, h.get? b = some o → o = ob := fun b o q => by
    unfold Heap.get? at q
    split at q
    · cases q
    · rename_i o' h2 h3
      have q2 : (Array.replicate (c + 1) ob)[b]? = some o := by
        rw [q] at h3
        exact q
      rw [Array.getElem?_replicate] at q2
      split at q2 <;> cases q2
      rfl
  have g0 : h.get? c = some ob := by
    have z : (Array.replicate (c + 1) ob)[c]? = some ob := by rw [Array.getElem?_replicate, if_pos (Nat.lt_succ_self c)]
    unfold Heap.get?
    show (match (Array.replicate (c + 1) ob)[c]? with | some ⟨_, _, .freed, _⟩ => none | o => o) = _
    rw [z]
  have z := congrFun e2 h
  have p : ∃ (oc : Obj) (vs : Array Value) (t : Tok), h.get? c = some oc ∧ oc.data = .fields vs ∧ vs[1]? = some (.str q t) := ⟨ob, _, 0, g0, rfl, rfl⟩
  rw [← z] at p
  obtain ⟨_, _, xs, _, _, o, as, ep, h1, _, h3, _⟩ := p
  rw [g _ _ h1] at h3
  cases h3
end Wb
namespace Wd
open PySem L2 Wb
inductive D where
  | non | bl (b : Bool) | int (i : Int) | str (x : Str) | tup (ds : List D) | lst (ds : List D) | dic (t : Bool) (ks vs : List D) | dix (ks vs : List D) | ctt (ds : List D) | obj (c : Nat) (ns : List Str) (vs : List D)
  deriving Inhabited
def keyD : L2.Key → D
  | .inl i => .int i
  | .inr x => .str x
def keyT (k : List L2.Key) : D := .tup (k.map keyD)
def D.flat : D → Bool
  | .non => true
  | .bl _ => true
  | .int _ => true
  | .str _ => true
  | _ => false
mutual
def D.py : D → PyData
  | .non => .none
  | .bl b => .bool b
  | .int i => .int i
  | .str x => .str x
  | .tup ds => .tuple (D.pys ds)
  | .lst ds => .list (D.pys ds)
  | .dic _ _ _ => .none
  | .dix _ _ => .none
  | .ctt _ => .none
  | .obj _ _ _ => .none
def D.pys : List D → List PyData
  | [] => []
  | d :: ds => d.py :: D.pys ds
end
mutual
def D.plain : D → Bool
  | .tup ds => D.plains ds
  | .lst ds => D.plains ds
  | .dic _ _ _ => false
  | .dix _ _ => false
  | .ctt _ => false
  | .obj _ _ _ => false
  | _ => true
def D.plains : List D → Bool
  | [] => true
  | d :: ds => d.plain && D.plains ds
end
mutual
/-- data as a key of a dict: True is 1 -/
def D.nest : D → Option NestedKey
  | .non => some .none
  | .bl b => some (.num (if b = true then 1 else 0))
  | .int i => some (.num i)
  | .str x => some (.text x)
  | .tup ds => (D.nests ds).map .tup
  | .ctt ds => (D.nests ds).map .tup
  | _ => none
def D.nests : List D → Option (List NestedKey)
  | [] => some []
  | d :: ds => (D.nest d).bind fun k => (D.nests ds).bind fun r => some (k :: r)
end
/-- the keys of a dict, as data -/
def KeysX (ks : List D) (es : List XE) : Prop := D.nests ks = some (es.map (·.1)) ∧ ∀ e ∈ es, e.1.depth ≤ 8
/-- where the classes stand; the function that a def was handed, and its code -/
structure Cl where
  cl : Nat → Addr
  fn : Addr := 0
  cd : Addr := 0
  g0 : Hp := fun _ => none
  tb : List (Addr × Str) := []
  wo : Option World := none
  kf : Option PySem.W.Frag := none
/-- the tables of the defs that make lambdas are seen -/
def Mk (C : Cl) (G : Hp) : Prop := ∀ p ∈ C.tb, G p.1 = some (.tbl #[.str p.2 0])
instance : CoeFun Cl (fun _ => Nat → Addr) := ⟨Cl.cl⟩
/-- a written tuple of the module -/
def KT (K : PySem.W.Frag) (a : Addr) (xs : List V) : Prop :=
  ∃ (o : Obj) (its : Array Value) (n : Nat), K.lookup a = some o ∧ o.cls = .type "tuple" ∧ o.data = .seq its n ∧ its.size ≤ sizeLine ∧ Vals xs its.toList
mutual
inductive Rp (C : Cl) (G : Hp) : V → D → Prop
  | non : Rp C G .non .non
  | bl (b : Bool) : Rp C G (.bl b) (.bl b)
  | int (i : Int) : Rp C G (.int i) (.int i)
  | str (x : Str) : Rp C G (.str x) (.str x)
  | tup {a : Addr} {xs : List V} {ds : List D} : G a = some (.tup xs) → Rps C G xs ds → Rp C G (.ref a) (.tup ds)
  | lst {a : Addr} {xs : List V} {ds : List D} : G a = some (.lst xs) → Rps C G xs ds → Rp C G (.ref a) (.lst ds)
  | dK {a : Addr} {kvs : List (L2.Key × V)} {ds : List D} : G a = some (.dK kvs) → Rps C G (kvs.map (·.2)) ds → Rp C G (.ref a) (.dic false (kvs.map fun p => keyD p.1) ds)
  | dT {a : Addr} {kvs : List (List L2.Key × V)} {ds : List D} : G a = some (.dT kvs) → Rps C G (kvs.map (·.2)) ds → Rp C G (.ref a) (.dic true (kvs.map fun p => keyT p.1) ds)
  | dX {a : Addr} {w : World} {es : List XE} {ks ds : List D} : C.wo = some w → G a = some (DXO w a es) → KeysX ks es → Rps C G (es.map fun e => V.ref e.2.1) ks → Rps C G (es.map (·.2.2)) ds → Rp C G (.ref a) (.dix ks ds)
  | ctt {a : Addr} {K : PySem.W.Frag} {xs : List V} {ds : List D} : C.kf = some K → KT K a xs → Rps C G xs ds → Rp C G (.ref a) (.ctt ds)
  | obj {a c2 dx : Addr} {c : Nat} {fs : List (Str × V)} {ds : List D} : G a = some (.ins (C c) dx fs) → Rps C G (fs.map (·.2)) ds → Rp C G (.ref a) (.obj c (fs.map (·.1)) ds)
inductive Rps (C : Cl) (G : Hp) : List V → List D → Prop
  | nil : Rps C G [] []
  | cons {v : V} {vs : List V} {d : D} {ds : List D} : Rp C G v d → Rps C G vs ds → Rps C G (v :: vs) (d :: ds)
end
/-- the module that written tuples are of -/
class CK (C : Cl) (K : PySem.W.Frag) : Prop where
  h : ∀ K', C.kf = some K' → K' = K
section
variable {C : Cl} {G G' H H' : Hp} {K : PySem.W.Frag}
mutual
theorem Rp.mono (s : Same G G') : ∀ {v : V} {d : D}, Rp C G v d → Rp C G' v d
  | _, _, .non => .non
  | _, _, .bl b => .bl b
  | _, _, .int i => .int i
  | _, _, .str x => .str x
  | _, _, .tup e r => .tup (s _ _ e) (Rps.mono s r)
  | _, _, .lst e r => .lst (s _ _ e) (Rps.mono s r)
  | _, _, .dK e r => .dK (s _ _ e) (Rps.mono s r)
  | _, _, .dT e r => .dT (s _ _ e) (Rps.mono s r)
  | _, _, .dX hw e hk r1 r2 => .dX hw (s _ _ e) hk (Rps.mono s r1) (Rps.mono s r2)
  | _, _, .ctt hk e r => .ctt hk e (Rps.mono s r)
  | _, _, .obj (c2 := c2) e r => .obj (c2 := c2) (s _ _ e) (Rps.mono s r)
theorem Rps.mono (s : Same G G') : ∀ {vs : List V} {ds : List D}, Rps C G vs ds → Rps C G' vs ds
  | _, _, .nil => .nil
  | _, _, .cons a b => .cons (Rp.mono s a) (Rps.mono s b)
end
theorem Rp.flat {v : V} {d : D} (h : Rp C G v d) (f : d.flat = true) : Rp C G' v d := by
  cases h with
  | non => exact .non
  | bl b => exact .bl b
  | int i => exact .int i
  | str x => exact .str x
  | _ => cases f
theorem Rps.len : ∀ {vs : List V} {ds : List D}, Rps C G vs ds → vs.length = ds.length
  | _, _, .nil => rfl
  | _, _, .cons _ b => by rw [List.length_cons, List.length_cons, Rps.len b]
theorem Rps.app : ∀ {vs us : List V} {ds es : List D}, Rps C G vs ds → Rps C G us es → Rps C G (vs ++ us) (ds ++ es)
  | _, _, _, _, .nil, g => g
  | _, _, _, _, .cons a b, g => .cons a (Rps.app b g)
theorem Rps.snoc {vs : List V} {ds : List D} {v : V} {d : D} (h : Rps C G vs ds) (g : Rp C G v d) : Rps C G (vs ++ [v]) (ds ++ [d]) := h.app (.cons g .nil)
theorem Rps.get : ∀ {vs : List V} {ds : List D} {i : Nat} {d : D}, Rps C G vs ds → ds[i]? = some d → ∃ v, vs[i]? = some v ∧ Rp C G v d
  | _, _, _, _, .nil, e => by simp at e
  | _, _, 0, _, .cons a _, e => by
    simp at e
    subst e
    exact ⟨_, rfl, a⟩
  | _, _, i + 1, _, .cons _ b, e => by
    obtain ⟨v, h1, h2⟩ := Rps.get (i := i) b (by simpa using e)
    exact ⟨v, by simpa using h1, h2⟩
theorem Rps.getV : ∀ {vs : List V} {ds : List D} {i : Nat} {v : V}, Rps C G vs ds → vs[i]? = some v → ∃ d, ds[i]? = some d ∧ Rp C G v d
  | _, _, _, _, .nil, e => by simp at e
  | _, _, 0, _, .cons a _, e => by
    simp at e
    subst e
    exact ⟨_, rfl, a⟩
  | _, _, i + 1, _, .cons _ b, e => by
    obtain ⟨v, h1, h2⟩ := Rps.getV (i := i) b (by simpa using e)
    exact ⟨v, by simpa using h1, h2⟩
theorem Rps.take : ∀ {vs : List V} {ds : List D} (n : Nat), Rps C G vs ds → Rps C G (vs.take n) (ds.take n)
  | _, _, 0, _ => .nil
  | _, _, _ + 1, .nil => .nil
  | _, _, n + 1, .cons a b => .cons a (Rps.take n b)
theorem Rps.drop : ∀ {vs : List V} {ds : List D} (n : Nat), Rps C G vs ds → Rps C G (vs.drop n) (ds.drop n)
  | _, _, 0, h => h
  | _, _, _ + 1, .nil => .nil
  | _, _, n + 1, .cons _ b => Rps.drop n b
theorem Rps.set : ∀ {vs : List V} {ds : List D} {v : V} {d : D} (i : Nat), Rps C G vs ds → Rp C G v d → Rps C G (vs.set i v) (ds.set i d)
  | _, _, _, _, _, .nil, _ => .nil
  | _, _, _, _, 0, .cons _ b, g => .cons g b
  | _, _, _, _, i + 1, .cons a b, g => .cons a (Rps.set i b g)
/-- numbers -/
theorem rps_ints : ∀ {ns : List Int}, Rps C G (ns.map V.int) (ns.map D.int)
  | [] => .nil
  | n :: _ => .cons (.int n) rps_ints
theorem Rps.ints : ∀ {ns : List Int} {vs : List V}, Rps C G vs (ns.map D.int) → vs = ns.map V.int
  | [], _, h => by cases h; rfl
  | n :: ns, _, h => by
    cases h with
    | cons a b =>
      cases a
      rw [Rps.ints b, List.map_cons]
def DictO : HO → Prop
  | .dK _ => True
  | .dT _ => True
  | .ext φ => ∃ w a es, HO.ext φ = DXO w a es
  | _ => False
def tupO : HO → Bool
  | .tup _ => true
  | .tbl _ => true
  | _ => false
def tblO : HO → Bool
  | .tbl _ => true
  | _ => false
def extO : HO → Bool
  | .ext _ => true
  | _ => false
theorem tbl_tup {o : HO} (h : tupO o = false) : tblO o = false := by
  cases o <;> first | rfl | cases h
/-- a table of code objects is seen by a mark that tells their name alone -/
def MarkOk (H : Hp) (b : Addr) (o : HO) : Prop := ∃ q : Str, o = .tbl #[.str q 0] ∧ LamX.TabS H b q
theorem MarkOk.keep {b : Addr} {o : HO} (m : MarkOk H b o) (tb : ∀ b q, LamX.TabS H b q → LamX.TabS H' b q) : MarkOk H' b o := by
  obtain ⟨q, e, t⟩ := m
  exact ⟨q, e, tb b q t⟩
/-- another thing is changed -/
theorem tab_put' {p b : Addr} {q : Str} {u o : HO} (t : LamX.TabS H b q) (hb : b ≠ p) (hp : H p = some u) (nu : ∀ c q, u ≠ LamX.CodeO c q) : LamX.TabS (upd H p o) b q := by
  obtain ⟨ps, h1, h2, h3⟩ := t
  refine ⟨ps, by rw [upd_ne hb]; exact h1, h2, fun pos cv hc => ?_⟩
  obtain ⟨c, e1, e2⟩ := h3 pos cv hc
  exact ⟨c, e1, by rw [upd_ne (fun z => by rw [z, hp] at e2; exact nu _ _ (Option.some.inj e2))]; exact e2⟩
theorem ncode {u : HO} (nu : extO u = false) : ∀ c q, u ≠ LamX.CodeO c q := fun c q z => by
  rw [z] at nu
  cases nu
theorem tab_put {p b : Addr} {q : Str} {u o : HO} (t : LamX.TabS H b q) (hb : b ≠ p) (hp : H p = some u) (nu : extO u = false) : LamX.TabS (upd H p o) b q := tab_put' t hb hp (ncode nu)
theorem tab_put2 {p b : Addr} {q : Str} {o : HO} (t : LamX.TabS H b q) (hb : b ≠ p) (hp : H p = none ∨ ∃ u, H p = some u ∧ extO u = false) : LamX.TabS (upd H p o) b q := by
  rcases hp with hp | ⟨u, hp, nu⟩
  · exact t.ext (same_new hp o)
  · exact tab_put t hb hp nu
/-- what is seen of the heap: dicts may be locked -/
structure Sub (G H : Hp) : Prop where
  at_ : ∀ b o, G b = some o → (n : tblO o = false := by rfl) → H b = some o ∨ (DictO o ∧ ∃ ob, H b = some (.frz ob o))
  tb : ∀ b o, G b = some o → tblO o = true → MarkOk H b o
theorem Sub.tup {a : Addr} {xs : List V} (s : Sub G H) (h : G a = some (.tup xs)) : H a = some (.tup xs) := (s.at_ _ _ h).elim id fun z => nomatch z.1
theorem Sub.lst {a : Addr} {xs : List V} (s : Sub G H) (h : G a = some (.lst xs)) : H a = some (.lst xs) := (s.at_ _ _ h).elim id fun z => nomatch z.1
theorem Sub.ins {a C dx : Addr} {xs : List (Str × V)} (s : Sub G H) (h : G a = some (.ins C dx xs)) : H a = some (.ins C dx xs) := (s.at_ _ _ h).elim id fun z => nomatch z.1
theorem Sub.rd {a : Addr} {o : HO} (s : Sub G H) (h : G a = some o) (n : tblO o = false := by rfl) : Rd H a o := (s.at_ _ _ h n).elim .inl fun z => .inr z.2
theorem Sub.same (s : Sub G H) (e : ∀ b o, H b = some o → tblO o = false → H' b = some o) (tb : ∀ b q, LamX.TabS H b q → LamX.TabS H' b q) : Sub G H' :=
  ⟨fun b o h n => (s.at_ b o h n).elim (fun z => .inl (e _ _ z n)) fun z => .inr ⟨z.1, z.2.elim fun ob w => ⟨ob, e _ _ w rfl⟩⟩, fun b o h n => (s.tb b o h n).keep tb⟩
theorem Sub.kept (s : Sub G H) (e : Same H H') : Sub G H' := s.same (fun _ _ h _ => e _ _ h) fun _ _ t => t.ext e
theorem Sub.none {a : Addr} (s : Sub G H) (h : H a = none) : G a = none := by
  cases e : G a with
  | none => rfl
  | some o =>
    cases n : tblO o with
    | false => rcases s.at_ _ _ e n with z | ⟨_, _, z⟩ <;> rw [h] at z <;> cases z
    | true =>
      obtain ⟨_, _, _, z, _⟩ := s.tb _ _ e n
      rw [h] at z
      cases z
theorem Sub.new {p : Addr} (s : Sub G H) (h : H p = Option.none) (o : HO) (n : tblO o = false := by rfl) : Sub (upd G p o) (upd H p o) := ⟨fun b u e m => by
  by_cases q : b = p
  · subst q
    rw [upd_same] at e ⊢
    exact .inl e
  · rw [upd_ne q] at e ⊢
    exact s.at_ _ _ e m, fun b u e m => by
  by_cases q : b = p
  · subst q
    rw [upd_same] at e
    cases e
    rw [n] at m
    cases m
  · rw [upd_ne q] at e
    exact (s.tb _ _ e m).keep fun _ _ t => t.ext (same_new h o)⟩
theorem Sub.put {p : Addr} (s : Sub G H) (h : G p = Option.none) (o : HO) (n : ∀ b q, b ≠ p → LamX.TabS H b q → LamX.TabS (upd H p o) b q) : Sub G (upd H p o) := ⟨fun b u e m => by
  rw [upd_ne (fun z => by rw [z, h] at e; cases e)]
  exact s.at_ _ _ e m, fun b u e m => by
  obtain ⟨q, eq, t⟩ := s.tb _ _ e m
  exact ⟨q, eq, n b q (fun z => by rw [z, h] at e; cases e) t⟩⟩
theorem same_newG {p : Addr} (h : G p = none) (o : HO) : Same G (upd G p o) := fun b u e => by
  rw [upd_ne (fun z => by rw [z, h] at e; cases e)]
  exact e
/-- from one heap with what is seen of it to a later one: things are made, nothing is changed, no thing that was hidden comes into sight (but tuples) -/
structure Ext (H G H' G' : Hp) : Prop where
  same : ∀ b o, H b = some o → (n : tblO o = false := by rfl) → H' b = some o
  tbl : ∀ b ps, H b = some (.tbl ps) → ∃ ps', H' b = some (.tbl ps')
  grow : Same G G'
  sub : Sub G' H'
  hid : ∀ b o, H b = some o → tupO o = false → G b = none → G' b = none
  ex : ∀ b o, G' b = some o → G b = some o ∨ (H' b = some o ∧ tblO o = false)
theorem Ext.refl (s : Sub G H) : Ext H G H G := ⟨fun _ _ h _ => h, fun _ ps h => ⟨ps, h⟩, Same.refl _, s, fun _ _ _ _ z => z, fun _ _ z => .inl z⟩
theorem Ext.kept (s : Same H H') (g : Same G G') (sb : Sub G' H') (hd : ∀ b o, H b = some o → tupO o = false → G b = none → G' b = none) (ex : ∀ b o, G' b = some o → G b = some o ∨ (H' b = some o ∧ tblO o = false)) : Ext H G H' G' :=
  ⟨fun _ _ h _ => s _ _ h, fun _ ps h => ⟨ps, s _ _ h⟩, g, sb, hd, ex⟩
theorem Ext.trans {H1 G1 H2 G2 : Hp} (a : Ext H G H1 G1) (b : Ext H1 G1 H2 G2) : Ext H G H2 G2 :=
  ⟨fun c o h n => b.same _ _ (a.same c o h n) n, fun c ps h => (a.tbl c ps h).elim fun ps' h' => b.tbl c ps' h', a.grow.trans b.grow, b.sub, fun c o h t g => b.hid c o (a.same _ _ h (tbl_tup t)) t (a.hid c o h t g), fun c o z => (b.ex c o z).elim (fun z => (a.ex c o z).elim .inl fun z => .inr ⟨b.same _ _ z.1 z.2, z.2⟩) .inr⟩
theorem Ext.new {H1 G1 : Hp} {p : Addr} (a : Ext H G H1 G1) (h : H1 p = none) (o : HO) (n : tblO o = false := by rfl) : Ext H G (upd H1 p o) (upd G1 p o) :=
  a.trans (.kept (same_new h o) (same_newG (a.sub.none h) o) (a.sub.new h o n) (fun b u e _ g => by rw [upd_ne (ne_of_none e h)]; exact g) fun b u e => by
    by_cases q : b = p
    · subst q
      rw [upd_same] at e ⊢
      cases e
      exact .inr ⟨rfl, n⟩
    · rw [upd_ne q] at e
      exact .inl e)
/-- a new thing that is not seen -/
theorem Ext.newH {H1 G1 : Hp} {p : Addr} (a : Ext H G H1 G1) (h : H1 p = none) (o : HO) : Ext H G (upd H1 p o) G1 :=
  a.trans (.kept (same_new h o) (Same.refl _) (a.sub.kept (same_new h o)) (fun b u e _ g => g) fun _ _ z => .inl z)
/-- a change of a new thing that is not seen -/
theorem Ext.put' {H1 G1 : Hp} {p : Addr} {u : HO} (a : Ext H G H1 G1) (h : H p = none) (g : G1 p = none) (hp : H1 p = some u) (o : HO) (nu : ∀ c q, u ≠ LamX.CodeO c q) : Ext H G (upd H1 p o) G1 :=
  ⟨fun b u e n => by rw [upd_ne (ne_of_none e h)]; exact a.same _ _ e n, fun b ps e => by rw [upd_ne (ne_of_none e h)]; exact a.tbl b ps e, a.grow,
    a.sub.put g o fun b q hb t => tab_put' t hb hp nu, a.hid, fun b u e => (a.ex b u e).elim .inl fun z => .inr (by rw [upd_ne (fun q => by rw [q, g] at e; cases e)]; exact z)⟩
theorem Ext.put {H1 G1 : Hp} {p : Addr} {u : HO} (a : Ext H G H1 G1) (h : H p = none) (g : G1 p = none) (hp : H1 p = some u) (o : HO) (nu : extO u = false := by rfl) : Ext H G (upd H1 p o) G1 := a.put' h g hp o (ncode nu)
theorem Sub.via {G0 H1 G1 : Hp} (s : Sub G0 H) (a : Ext H G H1 G1) (g : Same G0 G) : Sub G0 H1 :=
  ⟨fun b o h n => (s.at_ b o h n).elim (fun z => .inl (a.same _ _ z n)) fun z => .inr ⟨z.1, z.2.elim fun ob w => ⟨ob, a.same _ _ w rfl⟩⟩, fun b o h n => a.sub.tb b o (a.grow _ _ (g _ _ h)) n⟩
theorem Ext.drop {G0 H1 G1 : Hp} (a : Ext H G H1 G1) (s : Sub G0 H) (g : Same G0 G) : Ext H G0 H1 G0 := ⟨fun b o h n => a.same b o h n, a.tbl, Same.refl _, s.via a g, fun _ _ _ _ z => z, fun _ _ z => .inl z⟩
theorem Ext.free {H1 G1 : Hp} {p : Addr} (a : Ext H G H1 G1) (h : H1 p = none) : H p = none := by
  cases z : H p with
  | none => rfl
  | some o =>
    cases n : tblO o with
    | false =>
      rw [a.same _ _ z n] at h
      cases h
    | true =>
      cases o <;> first | cases n | skip
      obtain ⟨_, z'⟩ := a.tbl _ _ z
      rw [h] at z'
      cases z'
end
structure Src where
  st : Int
  cs : List Int
  ix : Int
/-- where a def began: the heap, what was seen of it, what it may change -/
structure Bs where
  H0 : Hp
  G0 : Hp
  T : Addr → Prop
  free : Bool
  sr : Addr × Addr
inductive Sl where
  | shr (d : D) | own (d : D) | src (s : Src) | lck (d : D) | fn (q : Str)
abbrev En := List (Option Sl)
inductive SlOk (B : Bs) (C : Cl) (H G : Hp) : V → Sl → List Addr → Prop
  | shr {v : V} {d : D} : Rp C G v d → SlOk B C H G v (.shr d) []
  | lst {a : Addr} {vs : List V} {ds : List D} : H a = some (.lst vs) → Rps C G vs ds → SlOk B C H G (.ref a) (.own (.lst ds)) [a]
  | dK {a : Addr} {kvs : List (L2.Key × V)} {ds : List D} : H a = some (.dK kvs) → Rps C G (kvs.map (·.2)) ds → SlOk B C H G (.ref a) (.own (.dic false (kvs.map fun p => keyD p.1) ds)) [a]
  | dT {a : Addr} {kvs : List (List L2.Key × V)} {ds : List D} : H a = some (.dT kvs) → Rps C G (kvs.map (·.2)) ds → SlOk B C H G (.ref a) (.own (.dic true (kvs.map fun p => keyT p.1) ds)) [a]
  | dX {a : Addr} {w : World} {es : List XE} {ks ds : List D} : C.wo = some w → H a = some (DXO w a es) → KeysX ks es → Rps C G (es.map fun e => V.ref e.2.1) ks → Rps C G (es.map (·.2.2)) ds → SlOk B C H G (.ref a) (.own (.dix ks ds)) [a]
  | src {h l : Addr} {s : Src} : B.sr = (h, l) → h ≠ l → H h = some (.lst [.int s.st, .ref l, .int s.ix]) → H l = some (.lst (s.cs.map V.int)) → s.cs.length ≤ 63 → SlOk B C H G (.ref h) (.src s) [h, l]
  | lck {a : Addr} {d : D} {ob : Obj} {u : HO} : Rp C G (.ref a) d → B.H0 a = some (.frz ob u) → ¬ B.T a → G a = some u → SlOk B C H G (.ref a) (.lck d) []
  | fn {q : Str} : H C.cd = some (LamX.CodeO C.cd q) → Same C.g0 G → SlOk B C H G (.ref C.fn) (.fn q) []
structure Bok (B : Bs) (H G : Hp) : Prop where
  sub : Sub G H
  same : ∀ b o, B.H0 b = some o → ¬ B.T b → (n : tblO o = false := by rfl) → H b = some o
  tbl : ∀ b ps, B.H0 b = some (.tbl ps) → ∃ ps', H b = some (.tbl ps')
  grow : Same B.G0 G
  hid0 : ∀ b o, B.H0 b = some o → tupO o = false → B.G0 b = none → G b = none
  tp : ∀ b o, B.H0 b = some o → B.T b → ∃ u, H b = some u ∧ tupO u = false
  unl : B.free = true → ∀ b o, G b = some o → (n : tblO o = false := by rfl) → H b = some o
  fz : ∀ b o, G b = some o → (n : tblO o = false := by rfl) → H b = some o ∨ ∃ ob, DictO o ∧ B.H0 b = some (.frz ob o) ∧ ¬ B.T b ∧ H b = some (.frz ob o)
  th : ∀ b o, B.H0 b = some o → B.T b → G b = none
  mks : ∀ b o, G b = some o → tblO o = true → B.G0 b = some o
structure OkW (B : Bs) (C : Cl) (oa : Nat → List Addr) (σ : L2.St) (H G : Hp) (ρ : En) : Prop extends Bok B H G where
  len : σ.length = ρ.length
  sl : ∀ (i : Nat) s, ρ[i]? = some (some s) → ∃ v, σ[i]? = some (some v) ∧ SlOk B C H G v s (oa i)
  hid : ∀ (i : Nat) s a, ρ[i]? = some (some s) → a ∈ oa i → G a = none ∧ (B.H0 a = none ∨ B.T a)
  frs : ∀ (i : Nat) d a, ρ[i]? = some (some (.own d)) → a ∈ oa i → B.H0 a = none
  dj : ∀ (i j : Nat) s t a, i ≠ j → ρ[i]? = some (some s) → ρ[j]? = some (some t) → a ∈ oa i → a ∉ oa j
  mkC : Mk C G
def Ok (B : Bs) (C : Cl) (σ : L2.St) (H G : Hp) (ρ : En) : Prop := ∃ oa, OkW B C oa σ H G ρ
section
variable {B : Bs} {C : Cl} {σ : L2.St} {H G H' G' : Hp} {ρ : En} {K : PySem.W.Frag}
theorem SlOk.there {v : V} {s : Sl} {l : List Addr} {a : Addr} (h : SlOk B C H G v s l) (m : a ∈ l) : ∃ o, H a = some o ∧ tupO o = false := by
  cases h with
  | shr _ => cases m
  | lck _ _ _ _ => cases m
  | fn _ _ => cases m
  | lst e _ => exact ⟨_, (List.mem_singleton.mp m) ▸ e, rfl⟩
  | dK e _ => exact ⟨_, (List.mem_singleton.mp m) ▸ e, rfl⟩
  | dT e _ => exact ⟨_, (List.mem_singleton.mp m) ▸ e, rfl⟩
  | dX _ e _ _ _ => exact ⟨_, (List.mem_singleton.mp m) ▸ e, rfl⟩
  | src _ n e1 e2 _ =>
    rcases List.mem_cons.mp m with rfl | m
    · exact ⟨_, e1, rfl⟩
    · exact ⟨_, (List.mem_singleton.mp m) ▸ e2, rfl⟩
theorem SlOk.mono {v : V} {s : Sl} {l : List Addr} (h : SlOk B C H G v s l) (sa : ∀ a o, a ∈ l → H a = some o → H' a = some o) (sc : ∀ c q, H c = some (LamX.CodeO c q) → H' c = some (LamX.CodeO c q)) (g : Same G G') : SlOk B C H' G' v s l := by
  cases h with
  | shr r => exact .shr (r.mono g)
  | lck r h1 h2 h3 => exact .lck (r.mono g) h1 h2 (g _ _ h3)
  | fn e s0 => exact .fn (sc _ _ e) (s0.trans g)
  | lst e r => exact .lst (sa _ _ (List.mem_singleton_self _) e) (r.mono g)
  | dK e r => exact .dK (sa _ _ (List.mem_singleton_self _) e) (r.mono g)
  | dT e r => exact .dT (sa _ _ (List.mem_singleton_self _) e) (r.mono g)
  | dX hw e hk r1 r2 => exact .dX hw (sa _ _ (List.mem_singleton_self _) e) hk (r1.mono g) (r2.mono g)
  | src n0 n e1 e2 z => exact .src n0 n (sa _ _ List.mem_cons_self e1) (sa _ _ (List.mem_cons_of_mem _ (List.mem_singleton_self _)) e2) z
theorem Bok.ext (k : Bok B H G) (e : Ext H G H' G') : Bok B H' G' :=
  ⟨e.sub, fun b o h t n => e.same _ _ (k.same b o h t n) n, fun b ps h => (k.tbl b ps h).elim fun ps' h' => e.tbl b ps' h', k.grow.trans e.grow, fun b o h t g => by
    have g1 := k.hid0 b o h t g
    by_cases tb : B.T b
    · obtain ⟨u, hu, tu⟩ := k.tp b o h tb
      exact e.hid b u hu tu g1
    · exact e.hid b o (k.same b o h tb (tbl_tup t)) t g1, fun b o h t => by
    obtain ⟨u, hu, tu⟩ := k.tp b o h t
    exact ⟨u, e.same _ _ hu (tbl_tup tu), tu⟩, fun f b o z n => (e.ex b o z).elim (fun z => e.same _ _ (k.unl f b o z n) n) fun z => z.1, fun b o z n => (e.ex b o z).elim (fun z => (k.fz b o z n).elim (fun z => .inl (e.same _ _ z n)) fun ⟨ob, d, h0, t, h1⟩ => .inr ⟨ob, d, h0, t, e.same _ _ h1 rfl⟩) (fun z => .inl z.1), fun b o h t => by
    obtain ⟨u, hu, tu⟩ := k.tp b o h t
    exact e.hid b u hu tu (k.th b o h t), fun b o z n => (e.ex b o z).elim (fun z => k.mks b o z n) fun z => by rw [n] at z; cases z.2⟩
theorem Ok.bok (k : Ok B C σ H G ρ) : Bok B H G := k.elim fun _ w => w.toBok
theorem Ok.sub (k : Ok B C σ H G ρ) : Sub G H := k.bok.sub
theorem Ok.mkC (k : Ok B C σ H G ρ) : Mk C G := k.elim fun _ w => w.mkC
structure SubM (C : Cl) (G H : Hp) : Prop where
  sub : Sub G H
  mk' : Mk C G
theorem Ok.subM (k : Ok B C σ H G ρ) : SubM C G H := ⟨k.sub, k.mkC⟩
theorem Ok.len (k : Ok B C σ H G ρ) : σ.length = ρ.length := k.elim fun _ w => w.len
theorem OkW.ext {oa : Nat → List Addr} (w : OkW B C oa σ H G ρ) (e : Ext H G H' G') : OkW B C oa σ H' G' ρ := by
  refine { w.toBok.ext e with len := w.len, sl := fun i s q => ?_, hid := fun i s a q m => ?_, frs := w.frs, dj := w.dj, mkC := fun p hp => e.grow _ _ (w.mkC p hp) }
  · obtain ⟨v, h1, h2⟩ := w.sl i s q
    exact ⟨v, h1, h2.mono (fun _ _ m z => by
      obtain ⟨u, hu, tu⟩ := h2.there m
      rw [hu] at z
      cases z
      exact e.same _ _ hu (tbl_tup tu)) (fun c q z => e.same _ _ z rfl) e.grow⟩
  · obtain ⟨v, h1, h2⟩ := w.sl i s q
    obtain ⟨o, ho, t⟩ := h2.there m
    exact ⟨e.hid a o ho t (w.hid i s a q m).1, (w.hid i s a q m).2⟩
theorem Ok.ext (k : Ok B C σ H G ρ) (e : Ext H G H' G') : Ok B C σ H' G' ρ := k.elim fun oa w => ⟨oa, w.ext e⟩
theorem OkW.upd1 {oa : Nat → List Addr} (w : OkW B C oa σ H G ρ) (bk : Bok B H' G') {i : Nat} {v : V} {s : Sl} {l : List Addr}
    (keep : ∀ j t u, j ≠ i → ρ[j]? = some (some t) → SlOk B C H G u t (oa j) → SlOk B C H' G' u t (oa j)) (hk : ∀ j t a, j ≠ i → ρ[j]? = some (some t) → a ∈ oa j → G' a = none) (new : SlOk B C H' G' v s l)
    (hl : ∀ a ∈ l, G' a = none ∧ (B.H0 a = none ∨ B.T a)) (ho : ∀ d, s = .own d → ∀ a ∈ l, B.H0 a = none) (dj : ∀ j t a, j ≠ i → ρ[j]? = some (some t) → a ∈ oa j → a ∉ l) (mg : Same G G') :
    Ok B C (σ.set i (some v)) H' G' (ρ.set i (some s)) := by
  have key : ∀ j t, (ρ.set i (some s))[j]? = some (some t) → (j = i ∧ t = s ∧ i < ρ.length) ∨ (j ≠ i ∧ ρ[j]? = some (some t)) := fun j t q => by
    by_cases e : i = j
    · subst e
      have hl : i < ρ.length := by
        rcases Nat.lt_or_ge i ρ.length with z | z
        · exact z
        · rw [List.getElem?_eq_none (by rw [List.length_set]; exact z)] at q
          cases q
      rw [List.getElem?_set_self hl] at q
      cases q
      exact .inl ⟨rfl, rfl, hl⟩
    · rw [List.getElem?_set_ne e] at q
      exact .inr ⟨fun z => e z.symm, q⟩
  refine ⟨fun j => if j = i then l else oa j, { bk with len := by rw [List.length_set, List.length_set]; exact w.len, sl := fun j t q => ?_, hid := fun j t a q m => ?_, frs := fun j d a q m => ?_, dj := fun j k t t' a n q q' m m' => ?_, mkC := fun p hp => mg _ _ (w.mkC p hp) }⟩
  · rcases key j t q with ⟨rfl, rfl, z⟩ | ⟨n, q⟩
    · refine ⟨v, List.getElem?_set_self (by rw [w.len]; exact z), ?_⟩
      rw [if_pos rfl]
      exact new
    · obtain ⟨u, h1, h2⟩ := w.sl j t q
      refine ⟨u, by rw [List.getElem?_set_ne (fun z => n z.symm)]; exact h1, ?_⟩
      rw [if_neg n]
      exact keep j t u n q h2
  · rcases key j t q with ⟨rfl, rfl, z⟩ | ⟨n, q⟩
    · rw [if_pos rfl] at m
      exact hl a m
    · rw [if_neg n] at m
      exact ⟨hk j t a n q m, (w.hid j t a q m).2⟩
  · rcases key j _ q with ⟨rfl, e, z⟩ | ⟨n, q⟩
    · rw [if_pos rfl] at m
      exact ho d e.symm a m
    · rw [if_neg n] at m
      exact w.frs j d a q m
  · rcases key j t q with ⟨e1, e2, z⟩ | ⟨n1, q1⟩
    · rw [if_pos e1] at m
      rcases key k t' q' with ⟨e3, e4, z⟩ | ⟨n2, q2⟩
      · exact n (e1.trans e3.symm)
      · rw [if_neg n2] at m'
        exact dj k t' a n2 q2 m' m
    · rw [if_neg n1] at m
      rcases key k t' q' with ⟨e3, e4, z⟩ | ⟨n2, q2⟩
      · rw [if_pos e3] at m'
        exact dj j t a n1 q1 m m'
      · rw [if_neg n2] at m'
        exact w.dj j k t t' a n q1 q2 m m'
/-- a name is bound to a shared thing -/
theorem Ok.set {v : V} {d : D} (k : Ok B C σ H G ρ) (i : Nat) (r : Rp C G v d) : Ok B C (σ.set i (some v)) H G (ρ.set i (some (.shr d))) := by
  obtain ⟨oa, w⟩ := k
  exact w.upd1 w.toBok (fun _ _ _ _ _ z => z) (fun j t a _ q m => (w.hid j t a q m).1) (.shr r) (fun _ m => nomatch m) (fun _ _ _ m => nomatch m) (fun _ _ _ _ _ _ m => nomatch m) (Same.refl _)
theorem Bok.new {a : Addr} (k : Bok B H G) (h : H a = none) : B.H0 a = none := by
  cases q : B.H0 a with
  | none => rfl
  | some u =>
    by_cases t : B.T a
    · obtain ⟨z, hz, _⟩ := k.tp a u q t
      rw [h] at hz
      cases hz
    · cases n : tblO u with
      | false =>
        have := k.same a u q t n
        rw [h] at this
        cases this
      | true =>
        cases u <;> first | cases n | skip
        obtain ⟨ps, z⟩ := k.tbl a _ q
        rw [h] at z
        cases z
/-- a name is bound to a new thing that none else holds -/
theorem Ok.setOwn {a : Addr} {d : D} (k : Ok B C σ H G ρ) (i : Nat) (e1 : Ext H G H' G') (hp : H a = none) (gp : G' a = none) (r : SlOk B C H' G' (.ref a) (.own d) [a]) : Ok B C (σ.set i (some (.ref a))) H' G' (ρ.set i (some (.own d))) := by
  obtain ⟨oa, w⟩ := k
  have hB := w.toBok.new hp
  have w1 := w.ext e1
  refine w1.upd1 w1.toBok (fun j t u n q z => z) (fun j t b _ q m => (w1.hid j t b q m).1) r (fun b m => ?_) (fun _ _ b m => ?_) (fun j t b n q m m' => ?_) (Same.refl _)
  · rw [List.mem_singleton.mp m]
    exact ⟨gp, .inl hB⟩
  · rw [List.mem_singleton.mp m]
    exact hB
  · rw [List.mem_singleton.mp m'] at m
    obtain ⟨u, h1, h2⟩ := w.sl j t q
    obtain ⟨o', ho, _⟩ := h2.there m
    rw [hp] at ho
    cases ho
theorem set_self {α : Type} {l : List α} {i : Nat} {x : α} (h : l[i]? = some x) : l.set i x = l := by
  apply List.ext_getElem?
  intro j
  by_cases e : i = j
  · subst e
    rw [List.getElem?_set_self (List.getElem?_eq_some_iff.mp h).1, h]
  · rw [List.getElem?_set_ne e]
/-- the thing that a name alone holds is changed -/
theorem Ok.putOwn {a : Addr} {o : HO} {d e : D} (k : Ok B C σ H G ρ) {i : Nat} (hi : ρ[i]? = some (some (.own d))) (hs : σ[i]? = some (some (.ref a))) (to : tupO o = false) (r : SlOk B C (upd H a o) G (.ref a) (.own e) [a]) :
    Ok B C σ (upd H a o) G (ρ.set i (some (.own e))) := by
  obtain ⟨oa, w⟩ := k
  obtain ⟨v, h1, h2⟩ := w.sl i _ hi
  rw [hs] at h1
  cases h1
  have ea : oa i = [a] := by
    generalize oa i = l at h2
    cases h2 <;> rfl
  have mi : a ∈ oa i := ea ▸ List.mem_singleton_self a
  have ga := (w.hid i _ a hi mi).1
  have hB := w.frs i d a hi mi
  obtain ⟨u0, ha, nu⟩ : ∃ u, H a = some u ∧ ∀ c q, u ≠ LamX.CodeO c q := by
    generalize oa i = l at h2
    cases h2 with
    | lst e _ => exact ⟨_, e, ncode rfl⟩
    | dK e _ => exact ⟨_, e, ncode rfl⟩
    | dT e _ => exact ⟨_, e, ncode rfl⟩
    | dX _ e _ _ _ => exact ⟨_, e, dx_code _ _ _⟩
  have ne : ∀ j t b, j ≠ i → ρ[j]? = some (some t) → b ∈ oa j → b ≠ a := fun j t b n q m z => w.dj j i t _ b n q hi m (by rw [z]; exact mi)
  have res := w.upd1 (H' := upd H a o) (G' := G) (i := i) (v := .ref a) (s := .own e) (l := [a])
    ⟨w.sub.put ga o fun b q hb t => tab_put' t hb ha nu, fun b u h t n => by rw [upd_ne (fun z => by rw [z, hB] at h; cases h)]; exact w.same b u h t n, fun b ps h => by rw [upd_ne (fun z => by rw [z, hB] at h; cases h)]; exact w.tbl b ps h, w.grow, w.hid0, fun b u h t => by rw [upd_ne (fun z => by rw [z, hB] at h; cases h)]; exact w.tp b u h t, fun f b u e n => by rw [upd_ne (fun z => by rw [z, ga] at e; cases e)]; exact w.unl f b u e n, fun b u e n => by rw [upd_ne (fun z => by rw [z, ga] at e; cases e)]; exact w.fz b u e n, w.th, w.mks⟩
    (fun j t u n q z => z.mono (fun b o' m y => by rw [upd_ne (ne j t b n q m)]; exact y) (fun c q' y => by rw [upd_ne (fun z => by rw [z, ha] at y; exact nu _ _ (Option.some.inj y))]; exact y) (Same.refl _)) (fun j t b n q m => (w.hid j t b q m).1) r
    (fun b m => by rw [List.mem_singleton.mp m]; exact ⟨ga, .inl hB⟩) (fun _ _ b m => by rw [List.mem_singleton.mp m]; exact hB) (fun j t b n q m m' => ne j t b n q m (List.mem_singleton.mp m')) (Same.refl _)
  rw [set_self hs] at res
  exact res
/-- what a name alone holds comes into sight -/
theorem Ok.freeze {d : D} (k : Ok B C σ H G ρ) {i : Nat} (hi : ρ[i]? = some (some (.own d))) : ∃ G', Ok B C σ H G' (ρ.set i (some (.shr d))) ∧ Same G G' := by
  obtain ⟨oa, w⟩ := k
  obtain ⟨v, hs, h2⟩ := w.sl i _ hi
  have fin : ∀ (a : Addr) (o : HO), oa i = [a] → H a = some o → tupO o = false → v = .ref a → (Rp C (upd G a o) v d) → ∃ G', Ok B C σ H G' (ρ.set i (some (.shr d))) ∧ Same G G' := fun a o ea ho to ev r => by
    have mi : a ∈ oa i := ea ▸ List.mem_singleton_self a
    have ga := (w.hid i _ a hi mi).1
    have hB := w.frs i d a hi mi
    have sg := same_newG ga o
    refine ⟨upd G a o, ?_, sg⟩
    have nt := tbl_tup to
    have res := w.upd1 (H' := H) (G' := upd G a o) (i := i) (v := v) (s := .shr d) (l := []) ⟨⟨fun b u q n => ?_, fun b u q n => ?_⟩, fun b u h t n => w.same b u h t n, w.tbl, w.grow.trans sg, fun b u q t g => ?_, w.tp, fun f b u q n => ?_, fun b u q n => ?_, fun b u h t => by rw [upd_ne (fun z => by rw [z, hB] at h; cases h)]; exact w.th b u h t, fun b u q n => by
      by_cases e : b = a
      · subst e
        rw [upd_same] at q
        cases q
        rw [nt] at n
        cases n
      · rw [upd_ne e] at q
        exact w.mks b u q n⟩
      (fun j t u n q z => z.mono (fun _ _ _ y => y) (fun _ _ y => y) sg) (fun j t b n q m => ?_) (.shr r) (fun _ m => nomatch m) (fun _ _ _ m => nomatch m) (fun _ _ _ _ _ _ m => nomatch m) sg
    · rw [set_self hs] at res
      exact res
    · by_cases e : b = a
      · subst e
        rw [upd_same] at q
        cases q
        exact .inl ho
      · rw [upd_ne e] at q
        exact w.sub.at_ _ _ q n
    · by_cases e : b = a
      · subst e
        rw [upd_same] at q
        cases q
        rw [nt] at n
        cases n
      · rw [upd_ne e] at q
        exact w.sub.tb _ _ q n
    · rw [upd_ne (fun z => by rw [z, hB] at q; cases q)]
      exact w.hid0 b u q t g
    · by_cases e : b = a
      · subst e
        rw [upd_same] at q
        cases q
        exact ho
      · rw [upd_ne e] at q
        exact w.unl f _ _ q n
    · by_cases e : b = a
      · subst e
        rw [upd_same] at q
        cases q
        exact .inl ho
      · rw [upd_ne e] at q
        exact w.fz _ _ q n
    · rw [upd_ne (fun z => w.dj j i t _ b n q hi m (by rw [z]; exact mi))]
      exact (w.hid j t b q m).1
  cases h2e : oa i with
  | nil => rw [h2e] at h2; cases h2
  | cons a r =>
    rw [h2e] at h2
    cases h2 with
    | lst e rs =>
      have ga := (w.hid i _ a hi (by rw [h2e]; exact List.mem_singleton_self a)).1
      exact fin a _ h2e e rfl rfl (.lst upd_same (rs.mono (same_newG ga _)))
    | dK e rs =>
      have ga := (w.hid i _ a hi (by rw [h2e]; exact List.mem_singleton_self a)).1
      exact fin a _ h2e e rfl rfl (.dK upd_same (rs.mono (same_newG ga _)))
    | dT e rs =>
      have ga := (w.hid i _ a hi (by rw [h2e]; exact List.mem_singleton_self a)).1
      exact fin a _ h2e e rfl rfl (.dT upd_same (rs.mono (same_newG ga _)))
    | dX hw e hk r1 r2 =>
      have ga := (w.hid i _ a hi (by rw [h2e]; exact List.mem_singleton_self a)).1
      exact fin a _ h2e e rfl rfl (.dX hw upd_same hk (r1.mono (same_newG ga _)) (r2.mono (same_newG ga _)))
def thawS : Option Sl → Option Sl
  | some (.own d) => some (.shr d)
  | s => s
/-- all that the names hold comes into sight, but the source -/
def thaw (ρ : En) : En := ρ.map thawS
theorem thaw_go (k : Ok B C σ H G ρ) : ∀ n, n ≤ ρ.length → ∃ G', Ok B C σ H G' ((ρ.take n).map thawS ++ ρ.drop n) ∧ Same G G'
  | 0, _ => ⟨G, by simpa using k, Same.refl _⟩
  | n + 1, hn => by
    obtain ⟨G1, k1, s1⟩ := thaw_go k n (by omega)
    have hx : ρ[n]? = some ρ[n] := List.getElem?_eq_getElem (by omega)
    have e1 : ρ.drop n = ρ[n] :: ρ.drop (n + 1) := List.drop_eq_getElem_cons (by omega)
    have e2 : ρ.take (n + 1) = ρ.take n ++ [ρ[n]] := List.take_succ_eq_append_getElem (by omega)
    have lt : ((ρ.take n).map thawS).length = n := by rw [List.length_map, List.length_take]; omega
    have e3 : ((ρ.take n).map thawS ++ ρ.drop n)[n]? = some ρ[n] := by
      rw [List.getElem?_append_right (by omega), lt, Nat.sub_self, e1]
      rfl
    have e4 : ∀ x, ((ρ.take n).map thawS ++ ρ.drop n).set n x = (ρ.take n).map thawS ++ x :: ρ.drop (n + 1) := fun x => by
      rw [List.set_append_right _ _ (by omega), lt, Nat.sub_self, e1]
      rfl
    have e5 : (ρ.take (n + 1)).map thawS ++ ρ.drop (n + 1) = (ρ.take n).map thawS ++ thawS ρ[n] :: ρ.drop (n + 1) := by
      rw [e2, List.map_append]
      simp
    rw [e5]
    rcases hr : ρ[n] with _ | ⟨d | d | s | d | d⟩
    · rw [hr] at e1
      exact ⟨G1, by rw [e1] at k1; exact k1, s1⟩
    · rw [hr] at e1
      exact ⟨G1, by rw [e1] at k1; exact k1, s1⟩
    · rw [hr] at e3
      obtain ⟨G2, k2, s2⟩ := k1.freeze e3
      rw [e4] at k2
      exact ⟨G2, k2, s1.trans s2⟩
    · rw [hr] at e1
      exact ⟨G1, by rw [e1] at k1; exact k1, s1⟩
    · rw [hr] at e1
      exact ⟨G1, by rw [e1] at k1; exact k1, s1⟩
    · rw [hr] at e1
      exact ⟨G1, by rw [e1] at k1; exact k1, s1⟩
theorem Ok.thaw (k : Ok B C σ H G ρ) : ∃ G', Ok B C σ H G' (thaw ρ) ∧ Same G G' := by
  obtain ⟨G', k', s⟩ := thaw_go k ρ.length (Nat.le_refl _)
  rw [List.take_length, List.drop_length, List.append_nil] at k'
  exact ⟨G', k', s⟩
/-- names forgotten -/
def wipeD (ρ : En) : List Nat → En
  | [] => ρ
  | v :: vs => (wipeD ρ vs).set v none
theorem Ok.wipe1 (k : Ok B C σ H G ρ) (i : Nat) : Ok B C (σ.set i none) H G (ρ.set i none) := by
  obtain ⟨oa, w⟩ := k
  have key : ∀ j t, (ρ.set i none)[j]? = some (some t) → j ≠ i ∧ ρ[j]? = some (some t) := fun j t q => by
    by_cases e : i = j
    · subst e
      rcases Nat.lt_or_ge i ρ.length with z | z
      · rw [List.getElem?_set_self z] at q
        cases q
      · rw [List.getElem?_eq_none (by rw [List.length_set]; exact z)] at q
        cases q
    · rw [List.getElem?_set_ne e] at q
      exact ⟨fun z => e z.symm, q⟩
  refine ⟨oa, { w.toBok with len := by rw [List.length_set, List.length_set]; exact w.len, sl := fun j t q => ?_, hid := fun j t a q m => w.hid j t a (key j t q).2 m, frs := fun j d a q m => w.frs j d a (key j _ q).2 m, dj := fun j l s t a n q q' m m' => w.dj j l s t a n (key j s q).2 (key l t q').2 m m', mkC := w.mkC }⟩
  obtain ⟨v, h1, h2⟩ := w.sl j t (key j t q).2
  exact ⟨v, by rw [List.getElem?_set_ne (fun z => (key j t q).1 z.symm)]; exact h1, h2⟩
theorem Ok.wipe (k : Ok B C σ H G ρ) : ∀ vs, Ok B C (wipe σ vs) H G (wipeD ρ vs)
  | [] => k
  | v :: vs => (Ok.wipe k vs).wipe1 v
end
end Wd
namespace Wd
open PySem L2 Wb
abbrev FE := En → Option D
def DE (C : Cl) (fr : Bool) (te : TE) (f : FE) : Prop := ∀ (B : Bs) (σ : L2.St) (H G : Hp) (ρ : En), (fr = true → B.free = true) → Ok B C σ H G ρ → ∀ d, f ρ = some d → ∀ Q : VK, (∀ v H' G', Ext H G H' G' → Rp C G' v d → Q v H') → te σ H Q
def DA (C : Cl) (fr : Bool) (ta : TA) (f : En → Option (List D)) : Prop := ∀ (B : Bs) (σ : L2.St) (H G : Hp) (ρ : En), (fr = true → B.free = true) → Ok B C σ H G ρ → ∀ ds, f ρ = some ds → ∀ Q : List V → Hp → Prop, (∀ vs H' G', Ext H G H' G' → Rps C G' vs ds → Q vs H') → ta σ H Q
def DT (C : Cl) (fr : Bool) (tt : TT) (f : En → Option Bool) : Prop := ∀ (B : Bs) (σ : L2.St) (H G : Hp) (ρ : En), (fr = true → B.free = true) → Ok B C σ H G ρ → ∀ b, f ρ = some b → ∀ Q : Bool → Hp → Prop, (∀ H' G', Ext H G H' G' → Q b H') → tt σ H Q
def RD1 (C : Cl) (r : V → Hp → VK → Prop) (g : D → Option D) : Prop := ∀ (H G : Hp) (x : V) (d z : D), Sub G H → Rp C G x d → g d = some z → ∀ Q : VK, (∀ v H' G', Ext H G H' G' → Rp C G' v z → Q v H') → r x H Q
def RD2 (C : Cl) (r : R2) (g : D → D → Option D) : Prop := ∀ (H G : Hp) (x y : V) (d e z : D), Sub G H → Rp C G x d → Rp C G y e → g d e = some z → ∀ Q : VK, (∀ v H' G', Ext H G H' G' → Rp C G' v z → Q v H') → r x y H Q
def RDs (C : Cl) (r : List V → Hp → VK → Prop) (g : List D → Option D) : Prop := ∀ (H G : Hp) (xs : List V) (ds : List D) (z : D), Sub G H → Rps C G xs ds → g ds = some z → ∀ Q : VK, (∀ v H' G', Ext H G H' G' → Rp C G' v z → Q v H') → r xs H Q
def mVar (i : Nat) : FE := fun ρ => match ρ[i]? with
  | some (some (.shr d)) => some d
  | some (some (.lck d)) => some d
  | _ => none
def m1 (g : D → Option D) (f : FE) : FE := fun ρ => (f ρ).bind g
def m2 (g : D → D → Option D) (f f' : FE) : FE := fun ρ => (f ρ).bind fun a => (f' ρ).bind fun b => g a b
def mS (g : List D → Option D) (f : En → Option (List D)) : FE := fun ρ => (f ρ).bind g
def mNil : En → Option (List D) := fun _ => some []
def mCons (f : FE) (f' : En → Option (List D)) : En → Option (List D) := fun ρ => (f ρ).bind fun a => (f' ρ).bind fun b => some (a :: b)
def mC (d : D) : FE := fun _ => some d
theorem obind {α β : Type} {o : Option α} {f : α → Option β} {y : β} (h : o.bind f = some y) : ∃ x, o = some x ∧ f x = some y := Option.bind_eq_some_iff.mp h
section
variable {C : Cl} {fr : Bool} {K : PySem.W.Frag} {ta tb te tc : TE} {f f' f3 : FE} {tt tu : TT} {g g' : En → Option Bool} {t : TA} {fs : En → Option (List D)}
theorem ok_var {B : Bs} {σ : L2.St} {H G : Hp} {ρ : En} (k : Ok B C σ H G ρ) {i : Nat} {d : D} (h : mVar i ρ = some d) : ∃ v, σ[i]? = some (some v) ∧ Rp C G v d := by
  obtain ⟨oa, w⟩ := k
  unfold mVar at h
  split at h
  · rename_i d' e
    cases h
    obtain ⟨v, h1, h2⟩ := w.sl i _ e
    generalize oa i = l at h2
    cases h2 with
    | shr r => exact ⟨v, h1, r⟩
  · rename_i d' e
    cases h
    obtain ⟨v, h1, h2⟩ := w.sl i _ e
    generalize oa i = l at h2
    cases h2 with
    | lck r _ _ _ => exact ⟨_, h1, r⟩
  · cases h
theorem de_var (i : Nat) : DE C fr (tVar i) (mVar i) := fun B σ H G ρ bf k d h Q q => by
  obtain ⟨v, h1, r⟩ := ok_var k h
  exact ⟨v, h1, q v H G (Ext.refl k.sub) r⟩
theorem de_c {v : V} {d : D} (r : ∀ G, Rp C G v d) : DE C fr (tC v) (mC d) := fun B σ H G ρ bf k d h Q q => by
  cases h
  exact q _ _ _ (Ext.refl k.sub) (r _)
theorem de_int (i : Int) : DE C fr (tC (.int i)) (mC (.int i)) := de_c fun _ => .int i
theorem de_bl (i : Bool) : DE C fr (tC (.bl i)) (mC (.bl i)) := de_c fun _ => .bl i
theorem de_str (i : Str) : DE C fr (tC (.str i)) (mC (.str i)) := de_c fun _ => .str i
theorem de_non : DE C fr (tC .non) (mC .non) := de_c fun _ => .non
theorem de_op {r : R2} {g : D → D → Option D} (hr : RD2 C r g) (ha : DE C fr ta f) (hb : DE C fr tb f') : DE C fr (tOp r ta tb) (m2 g f f') := fun B σ H G ρ bf k d h Q q => by
  obtain ⟨x, h1, h⟩ := obind h
  obtain ⟨y, h2, h⟩ := obind h
  refine ha B σ H G ρ bf k x h1 _ fun v H1 G1 e1 r1 => hb B σ H1 G1 ρ bf (k.ext e1) y h2 _ fun u H2 G2 e2 r2 => ?_
  exact hr H2 G2 v u x y d e2.sub (r1.mono e2.grow) r2 h Q fun v3 H3 G3 e3 r3 => q v3 H3 G3 ((e1.trans e2).trans e3) r3
theorem de_un {r : V → Hp → VK → Prop} {g : D → Option D} (hr : RD1 C r g) (ha : DE C fr ta f) : DE C fr (tUn r ta) (m1 g f) := fun B σ H G ρ bf k d h Q q => by
  obtain ⟨x, h1, h⟩ := obind h
  refine ha B σ H G ρ bf k x h1 _ fun v H1 G1 e1 r1 => ?_
  exact hr H1 G1 v x d e1.sub r1 h Q fun v3 H3 G3 e3 r3 => q v3 H3 G3 (e1.trans e3) r3
theorem da_nil : DA C fr tNil mNil := fun B σ H G ρ bf k ds h Q q => by
  cases h
  exact q _ _ _ (Ext.refl k.sub) .nil
theorem da_cons (ha : DE C fr ta f) (ht : DA C fr t fs) : DA C fr (tCons ta t) (mCons f fs) := fun B σ H G ρ bf k ds h Q q => by
  obtain ⟨x, h1, h⟩ := obind h
  obtain ⟨y, h2, h⟩ := obind h
  cases h
  exact ha B σ H G ρ bf k x h1 _ fun v H1 G1 e1 r1 => ht B σ H1 G1 ρ bf (k.ext e1) y h2 _ fun u H2 G2 e2 r2 => q _ H2 G2 (e1.trans e2) (.cons (r1.mono e2.grow) r2)
theorem de_cb {r : List V → Hp → VK → Prop} {g : List D → Option D} (hr : RDs C r g) (ht : DA C fr t fs) : DE C fr (tCB r t) (mS g fs) := fun B σ H G ρ bf k d h Q q => by
  obtain ⟨x, h1, h⟩ := obind h
  exact ht B σ H G ρ bf k x h1 _ fun v H1 G1 e1 r1 => hr H1 G1 v x d e1.sub r1 h Q fun v3 H3 G3 e3 r3 => q v3 H3 G3 (e1.trans e3) r3
/-- sizes -/
def okSize (n : Nat) : Bool := decide (n ≤ 1000000)
theorem okSize_le {n : Nat} (h : okSize n = true) : n ≤ sizeLine := by
  have := of_decide_eq_true h
  rw [sizeLine_eq]
  omega
theorem okSize_lt {n : Nat} (h : okSize n = true) : n < sizeLine := by
  have := of_decide_eq_true h
  rw [sizeLine_eq]
  omega
def mTup (fs : En → Option (List D)) : FE := fun ρ => (fs ρ).bind fun ds => if okSize ds.length then some (.tup ds) else none
def mLst (fs : En → Option (List D)) : FE := fun ρ => (fs ρ).bind fun ds => if okSize ds.length then some (.lst ds) else none
theorem oif {α : Type} {c : Bool} {x y : α} (h : (if c then some x else none) = some y) : c = true ∧ x = y := by
  cases c with
  | true => exact ⟨rfl, Option.some.inj h⟩
  | false => cases h
theorem de_tup (ht : DA C fr t fs) : DE C fr (tTup t) (mTup fs) := fun B σ H G ρ bf k d h Q q => by
  obtain ⟨x, h1, h⟩ := obind h
  obtain ⟨z, rfl⟩ := oif h
  refine ht B σ H G ρ bf k x h1 _ fun v H1 G1 e1 r1 => ⟨by rw [r1.len]; exact okSize_le z, fun p hp => ?_⟩
  exact q _ _ _ (e1.new hp (.tup v)) (.tup upd_same (r1.mono (same_newG (e1.sub.none hp) _)))
theorem de_lst (ht : DA C fr t fs) : DE C fr (tLst t) (mLst fs) := fun B σ H G ρ bf k d h Q q => by
  obtain ⟨x, h1, h⟩ := obind h
  obtain ⟨z, rfl⟩ := oif h
  refine ht B σ H G ρ bf k x h1 _ fun v H1 G1 e1 r1 => ⟨by rw [r1.len]; exact okSize_le z, fun p hp => ?_⟩
  exact q _ _ _ (e1.new hp (.lst v)) (.lst upd_same (r1.mono (same_newG (e1.sub.none hp) _)))
def mFlat (f : FE) : FE := fun ρ => (f (thaw ρ)).bind fun d => if d.flat then some d else none
theorem de_flat (ha : DE C fr ta f) : DE C fr ta (mFlat f) := fun B σ H G ρ bf k d h Q q => by
  obtain ⟨x, h1, h⟩ := obind h
  obtain ⟨z, rfl⟩ := oif h
  obtain ⟨G1, k1, s1⟩ := k.thaw
  exact ha B σ H G1 _ bf k1 x h1 _ fun v H1 G2 e1 r1 => q v H1 G (e1.drop k.sub s1) (r1.flat z)
def mThaw (g : En → Option Bool) : En → Option Bool := fun ρ => g (thaw ρ)
theorem dt_thaw (h : DT C fr tt g) : DT C fr tt (mThaw g) := fun B σ H G ρ bf k b hb Q q => by
  obtain ⟨G1, k1, s1⟩ := k.thaw
  exact h B σ H G1 _ bf k1 b hb _ fun H1 G2 e1 => q H1 G (e1.drop k.sub s1)
def mB (f : FE) : En → Option Bool := fun ρ => (f ρ).bind fun d => match d with
  | .bl b => some b
  | _ => none
theorem dt_B (h : DE C fr te f) : DT C fr (tB te) (mB f) := fun B σ H G ρ bf k b hb Q q => by
  obtain ⟨x, h1, hx⟩ := obind hb
  refine h B σ H G ρ bf k x h1 _ fun v H1 G1 e1 r1 => ?_
  cases x with
  | bl c =>
    cases hx
    cases r1
    exact ⟨_, rfl, q H1 G1 e1⟩
  | _ => cases hx
theorem dt_test (h : DE C fr te f) : DT C fr (tTest te) (mB f) := fun B σ H G ρ bf k b hb Q q => by
  obtain ⟨x, h1, hx⟩ := obind hb
  refine h B σ H G ρ bf k x h1 _ fun v H1 G1 e1 r1 => ?_
  cases x with
  | bl c =>
    cases hx
    cases r1
    exact ⟨_, rfl, q H1 G1 e1⟩
  | _ => cases hx
def mAnd (g g' : En → Option Bool) : En → Option Bool := fun ρ => (g ρ).bind fun b => if b then g' ρ else some false
def mOr (g g' : En → Option Bool) : En → Option Bool := fun ρ => (g ρ).bind fun b => if b then some true else g' ρ
def mNot (g : En → Option Bool) : En → Option Bool := fun ρ => (g ρ).bind fun b => some (!b)
theorem dt_and (h : DT C fr tt g) (h' : DT C fr tu g') : DT C fr (tAnd tt tu) (mAnd g g') := fun B σ H G ρ bf k b hb Q q => by
  obtain ⟨x, h1, hx⟩ := obind hb
  refine h B σ H G ρ bf k x h1 _ fun H1 G1 e1 => ?_
  cases x with
  | true => exact h' B σ H1 G1 ρ bf (k.ext e1) b hx Q fun H2 G2 e2 => q H2 G2 (e1.trans e2)
  | false =>
    cases hx
    exact q H1 G1 e1
theorem dt_or (h : DT C fr tt g) (h' : DT C fr tu g') : DT C fr (tOr tt tu) (mOr g g') := fun B σ H G ρ bf k b hb Q q => by
  obtain ⟨x, h1, hx⟩ := obind hb
  refine h B σ H G ρ bf k x h1 _ fun H1 G1 e1 => ?_
  cases x with
  | true =>
    cases hx
    exact q H1 G1 e1
  | false => exact h' B σ H1 G1 ρ bf (k.ext e1) b hx Q fun H2 G2 e2 => q H2 G2 (e1.trans e2)
theorem dt_not (h : DT C fr tt g) : DT C fr (tNot tt) (mNot g) := fun B σ H G ρ bf k b hb Q q => by
  obtain ⟨x, h1, hx⟩ := obind hb
  cases hx
  exact h B σ H G ρ bf k x h1 _ fun H1 G1 e1 => q H1 G1 e1
def mIf (g : En → Option Bool) (f f' : FE) : FE := fun ρ => (g ρ).bind fun b => if b then f ρ else f' ρ
theorem de_if (h : DT C fr tt g) (ha : DE C fr ta f) (hb : DE C fr tb f') : DE C fr (tIf tt ta tb) (mIf g f f') := fun B σ H G ρ bf k d hd Q q => by
  obtain ⟨x, h1, hx⟩ := obind hd
  refine h B σ H G ρ bf k x h1 _ fun H1 G1 e1 => ?_
  cases x with
  | true => exact ha B σ H1 G1 ρ bf (k.ext e1) d hx Q fun v H2 G2 e2 r => q v H2 G2 (e1.trans e2) r
  | false => exact hb B σ H1 G1 ρ bf (k.ext e1) d hx Q fun v H2 G2 e2 r => q v H2 G2 (e1.trans e2) r
def mAndV (f f' : FE) : FE := fun ρ => (mB f ρ).bind fun b => if b then f' ρ else some (.bl false)
def mOrV (f f' : FE) : FE := fun ρ => (mB f ρ).bind fun b => if b then some (.bl true) else f' ρ
def mNotV (f : FE) : FE := fun ρ => (mB f ρ).bind fun b => some (.bl (!b))
theorem mB_eq {f : FE} {ρ : En} {b : Bool} (h : mB f ρ = some b) : f ρ = some (.bl b) := by
  obtain ⟨x, h1, hx⟩ := obind h
  cases x with
  | bl c =>
    cases hx
    exact h1
  | _ => cases hx
theorem de_andV (ha : DE C fr ta f) (hb : DE C fr tb f') : DE C fr (tAndV ta tb) (mAndV f f') := fun B σ H G ρ bf k d hd Q q => by
  obtain ⟨x, h1, hx⟩ := obind hd
  refine ha B σ H G ρ bf k _ (mB_eq h1) _ fun v H1 G1 e1 r1 => ?_
  cases r1
  refine ⟨_, rfl, ?_⟩
  cases x with
  | true => exact hb B σ H1 G1 ρ bf (k.ext e1) d hx Q fun v H2 G2 e2 r => q v H2 G2 (e1.trans e2) r
  | false =>
    cases hx
    exact q _ H1 G1 e1 (.bl false)
theorem de_orV (ha : DE C fr ta f) (hb : DE C fr tb f') : DE C fr (tOrV ta tb) (mOrV f f') := fun B σ H G ρ bf k d hd Q q => by
  obtain ⟨x, h1, hx⟩ := obind hd
  refine ha B σ H G ρ bf k _ (mB_eq h1) _ fun v H1 G1 e1 r1 => ?_
  cases r1
  refine ⟨_, rfl, ?_⟩
  cases x with
  | true =>
    cases hx
    exact q _ H1 G1 e1 (.bl true)
  | false => exact hb B σ H1 G1 ρ bf (k.ext e1) d hx Q fun v H2 G2 e2 r => q v H2 G2 (e1.trans e2) r
theorem de_notV (ha : DE C fr ta f) : DE C fr (tNotV ta) (mNotV f) := fun B σ H G ρ bf k d hd Q q => by
  obtain ⟨x, h1, hx⟩ := obind hd
  cases hx
  refine ha B σ H G ρ bf k _ (mB_eq h1) _ fun v H1 G1 e1 r1 => ?_
  cases r1
  exact ⟨_, rfl, q _ H1 G1 e1 (.bl _)⟩
end
section
variable {C : Cl} {fr : Bool} {K : PySem.W.Frag}
def i2 (g : Int → Int → D) : D → D → Option D
  | .int i, .int j => some (g i j)
  | _, _ => none
theorem i2_inv {g : Int → Int → D} {d e z : D} (h : i2 g d e = some z) : ∃ i j, d = .int i ∧ e = .int j ∧ z = g i j := by
  unfold i2 at h
  split at h
  · exact ⟨_, _, rfl, rfl, (Option.some.inj h).symm⟩
  · cases h
theorem rd_ii {g : Int → Int → Int} : RD2 C (rI0 fun i j => .int (g i j)) (i2 fun i j => .int (g i j)) := fun H G x y d e z s r1 r2 h Q q => by
  obtain ⟨i, j, rfl, rfl, rfl⟩ := i2_inv h
  cases r1
  cases r2
  exact ⟨i, j, rfl, rfl, q _ H G (Ext.refl s) (.int _)⟩
theorem rd_ib {g : Int → Int → Bool} : RD2 C (rI0 fun i j => .bl (g i j)) (i2 fun i j => .bl (g i j)) := fun H G x y d e z s r1 r2 h Q q => by
  obtain ⟨i, j, rfl, rfl, rfl⟩ := i2_inv h
  cases r1
  cases r2
  exact ⟨i, j, rfl, rfl, q _ H G (Ext.refl s) (.bl _)⟩
def gAdd := i2 fun i j => .int (i + j)
def gSub := i2 fun i j => .int (i - j)
def gLt := i2 fun i j => .bl (decide (i < j))
def gLe := i2 fun i j => .bl (decide (i ≤ j))
def gGt := i2 fun i j => .bl (decide (j < i))
theorem rd_add : RD2 C (rI0 fun i j => .int (i + j)) gAdd := rd_ii
theorem rd_sub : RD2 C (rI0 fun i j => .int (i - j)) gSub := rd_ii
theorem rd_lt : RD2 C (rI0 fun i j => .bl (decide (i < j))) gLt := rd_ib
theorem rd_le : RD2 C (rI0 fun i j => .bl (decide (i ≤ j))) gLe := rd_ib
theorem rd_gt : RD2 C (rI0 fun i j => .bl (decide (j < i))) gGt := rd_ib
def D.v : D → V
  | .bl b => .bl b
  | .int i => .int i
  | .str x => .str x
  | _ => .non
theorem Rp.v {G : Hp} {x : V} {d : D} (h : Rp C G x d) (f : d.flat = true) : x = d.v := by
  cases h <;> first | rfl | cases f
theorem Rps.v {G : Hp} : ∀ {xs : List V} {ds : List D}, Rps C G xs ds → ds.all D.flat = true → xs = ds.map D.v
  | _, _, .nil, _ => rfl
  | _, _, .cons a b, f => by
    simp only [List.all_cons, Bool.and_eq_true] at f
    rw [List.map_cons, a.v f.1, Rps.v b f.2]
def gEq (neg : Bool) (d e : D) : Option D := if d.flat && e.flat && scal d.v e.v then some (.bl (neg ^^ decide (d.v = e.v))) else none
theorem rd_eq : RD2 C rEq (gEq false) := fun H G x y d e z s r1 r2 h Q q => by
  obtain ⟨h1, rfl⟩ := oif h
  simp only [Bool.and_eq_true] at h1
  rw [r1.v h1.1.1, r2.v h1.1.2]
  refine ⟨h1.2, q _ H G (Ext.refl s) ?_⟩
  rw [Bool.false_xor]
  exact .bl _
theorem rd_ne : RD2 C rNe (gEq true) := fun H G x y d e z s r1 r2 h Q q => by
  obtain ⟨h1, rfl⟩ := oif h
  simp only [Bool.and_eq_true] at h1
  rw [r1.v h1.1.1, r2.v h1.1.2]
  refine ⟨h1.2, q _ H G (Ext.refl s) ?_⟩
  rw [Bool.true_xor]
  exact .bl _
mutual
theorem Rp.py {H G : Hp} (s : Sub G H) : ∀ {v : V} {d : D}, Rp C G v d → d.plain = true → Dp K H v d.py
  | _, _, .non, _ => .non
  | _, _, .bl b, _ => .bl b
  | _, _, .int i, _ => .int i
  | _, _, .str x, _ => .str x
  | _, _, .tup e r, f => .tup (SqT.of (s.tup e)) (Rps.py s r f)
  | _, _, .lst e r, f => .lst (SqL.of (s.lst e)) (Rps.py s r f)
  | _, _, .dK _ _, f => nomatch f
  | _, _, .dT _ _, f => nomatch f
  | _, _, .dX _ _ _ _ _, f => nomatch f
  | _, _, .ctt _ _ _, f => nomatch f
  | _, _, .obj (c2 := _) _ _, f => nomatch f
theorem Rps.py {H G : Hp} (s : Sub G H) : ∀ {vs : List V} {ds : List D}, Rps C G vs ds → D.plains ds = true → DpAll K H vs (D.pys ds)
  | _, _, .nil, _ => .nil
  | _, _, .cons a b, f => by
    unfold D.plains at f
    simp only [Bool.and_eq_true] at f
    exact .cons (Rp.py s a f.1) (Rps.py s b f.2)
end
def gEqP (neg : Bool) (d e : D) : Option D := if d.plain && e.plain && SeqAt.shaped d.py && SeqAt.shaped e.py then some (.bl (neg ^^ PyData.eqv d.py e.py)) else none
theorem rd_eqD : RD2 C (rEqD K) (gEqP false) := fun H G x y d e z s r1 r2 h Q q => by
  obtain ⟨h1, rfl⟩ := oif h
  simp only [Bool.and_eq_true] at h1
  refine ⟨_, _, r1.py s h1.1.1.1, r2.py s h1.1.1.2, h1.1.2, h1.2, q _ H G (Ext.refl s) ?_⟩
  rw [Bool.false_xor]
  exact .bl _
theorem rd_neD : RD2 C (rNeD K) (gEqP true) := fun H G x y d e z s r1 r2 h Q q => by
  obtain ⟨h1, rfl⟩ := oif h
  simp only [Bool.and_eq_true] at h1
  refine ⟨_, _, r1.py s h1.1.1.1, r2.py s h1.1.1.2, h1.1.2, h1.2, q _ H G (Ext.refl s) ?_⟩
  rw [Bool.true_xor]
  exact .bl _
def D.isN : D → Bool
  | .non => true
  | _ => false
def gIsN (neg : Bool) (d e : D) : Option D := match e with
  | .non => some (.bl (neg ^^ d.isN))
  | _ => none
theorem Rp.isN {G : Hp} {x : V} {d : D} (h : Rp C G x d) : decide (x = .non) = d.isN := by
  cases h <;> rfl
theorem rd_isN : RD2 C (fun x y H Q => y = .non ∧ Q (.bl (decide (x = .non))) H) (gIsN false) := fun H G x y d e z s r1 r2 h Q q => by
  unfold gIsN at h
  split at h
  · cases h
    cases r2
    refine ⟨rfl, q _ H G (Ext.refl s) ?_⟩
    rw [r1.isN, Bool.false_xor]
    exact .bl _
  · cases h
theorem rd_notN : RD2 C (fun x y H Q => y = .non ∧ Q (.bl (!decide (x = .non))) H) (gIsN true) := fun H G x y d e z s r1 r2 h Q q => by
  unfold gIsN at h
  split at h
  · cases h
    cases r2
    refine ⟨rfl, q _ H G (Ext.refl s) ?_⟩
    rw [r1.isN, Bool.true_xor]
    exact .bl _
  · cases h
def D.items : D → Option (List D)
  | .tup ds => some ds
  | .lst ds => some ds
  | _ => none
theorem Rp.items {H G : Hp} (s : Sub G H) {x : V} {d : D} {ds : List D} (h : Rp C G x d) (e : d.items = some ds) : ∃ a xs, x = .ref a ∧ (SqL K H a xs ∨ SqT K H a xs) ∧ Rps C G xs ds := by
  cases h with
  | tup h r =>
    cases e
    exact ⟨_, _, rfl, .inr (SqT.of (s.tup h)), r⟩
  | lst h r =>
    cases e
    exact ⟨_, _, rfl, .inl (SqL.of (s.lst h)), r⟩
  | _ => cases e
/-- a flat thing among flat things -/
def gIn (neg : Bool) (d e : D) : Option D := e.items.bind fun ds => if d.flat && ds.all D.flat then some (.bl (neg ^^ inV d.v (ds.map D.v))) else none
theorem flatV_v (d : D) : flatV d.v = true := by cases d <;> rfl
theorem rd_in {neg : Bool} : RD2 C (rIn K neg) (gIn neg) := fun H G x y d e z s r1 r2 h Q q => by
  obtain ⟨ds, h0, h⟩ := obind h
  obtain ⟨h1, rfl⟩ := oif h
  simp only [Bool.and_eq_true] at h1
  obtain ⟨a, xs, rfl, hs, rs⟩ := r2.items (K := K) s h0
  have e1 := r1.v h1.1
  have e2 := rs.v h1.2
  subst e1 e2
  refine ⟨a, _, rfl, hs, flatV_v _, List.all_eq_true.mpr fun v hv => ?_, q _ H G (Ext.refl s) ?_⟩
  · obtain ⟨d', _, rfl⟩ := List.mem_map.mp hv
    exact flatV_v _
  · cases neg
    · rw [Bool.false_xor]
      exact .bl _
    · rw [Bool.true_xor]
      exact .bl _
/-- items by place -/
def gIxL (d e : D) : Option D := match d, e with
  | .lst ds, .int i => atI ds i
  | _, _ => none
def gIxT (d e : D) : Option D := match d, e with
  | .tup ds, .int i => atI ds i
  | _, _ => none
def gIx (d e : D) : Option D := match d, e with
  | .lst ds, .int i => atI ds i
  | .tup ds, .int i => atI ds i
  | _, _ => none
theorem Rps.at {G : Hp} {xs : List V} {ds : List D} {i : Int} {z : D} (r : Rps C G xs ds) (h : atI ds i = some z) : ∃ v, atI xs i = some v ∧ Rp C G v z := by
  unfold atI at h ⊢
  rw [r.len]
  obtain ⟨j, h1, h2⟩ := obind h
  obtain ⟨v, h3, h4⟩ := r.get h2
  exact ⟨v, by rw [h1]; exact h3, h4⟩
theorem rd_ixL : RD2 C (rIxL K) gIxL := fun H G x y d e z s r1 r2 h Q q => by
  unfold gIxL at h
  split at h
  · cases r1 with
    | lst hx rs =>
      cases r2
      obtain ⟨v, h1, h2⟩ := rs.at h
      exact ⟨_, _, _, v, rfl, rfl, SqL.of (s.lst hx), h1, q v H G (Ext.refl s) h2⟩
  · cases h
theorem rd_ixT : RD2 C (rIxT K) gIxT := fun H G x y d e z s r1 r2 h Q q => by
  unfold gIxT at h
  split at h
  · cases r1 with
    | tup hx rs =>
      cases r2
      obtain ⟨v, h1, h2⟩ := rs.at h
      exact ⟨_, _, _, v, rfl, rfl, SqT.of (s.tup hx), h1, q v H G (Ext.refl s) h2⟩
  · cases h
theorem rd_ix : RD2 C (rIx K) gIx := fun H G x y d e z s r1 r2 h Q q => by
  unfold gIx at h
  split at h
  · exact .inl (rd_ixL H G x y _ _ z s r1 r2 h Q q)
  · exact .inr (.inl (rd_ixT H G x y _ _ z s r1 r2 h Q q))
  · cases h
def gCatL (d e : D) : Option D := match d, e with
  | .lst a, .lst b => if okSize (a.length + b.length) then some (.lst (a ++ b)) else none
  | _, _ => none
theorem rd_catL : RD2 C rCat gCatL := fun H G x y d e z s r1 r2 h Q q => by
  unfold gCatL at h
  split at h
  · obtain ⟨h1, rfl⟩ := oif h
    cases r1 with
    | lst hx rx =>
      cases r2 with
      | lst hy ry =>
        refine ⟨_, _, _, _, rfl, rfl, s.lst hx, s.lst hy, by rw [rx.len, ry.len]; exact okSize_le h1, fun p hp => ?_⟩
        exact q _ _ _ ((Ext.refl s).new hp _) (.lst upd_same ((rx.app ry).mono (same_newG (s.none hp) _)))
  · cases h
end
end Wd
namespace Wd
open PySem L2 Wb
def Yl1 (C : Cl) (J : It) (ds : List D) (H G : Hp) : Prop := ∀ i, (∀ d, ds[i]? = some d → J.go i H ∧ ∀ x H', J.yld i H x H' → ∃ G', Ext H G H' G' ∧ Rp C G' x d) ∧ (i = ds.length → J.stop i H)
/-- as long as things are made only -/
def YlE (C : Cl) (J : It) (H1 G1 : Hp) (ds : List D) : Prop := ∀ H G, Ext H1 G1 H G → Yl1 C J ds H G
/-- whatever is done to what is not seen -/
def YlB (C : Cl) (B : Bs) (J : It) (G1 : Hp) (ds : List D) : Prop := ∀ H G, Bok B H G → Same G1 G → Yl1 C J ds H G
def DI (C : Cl) (fr : Bool) (ti : TI) (f : En → Option (List D)) : Prop := ∀ (B : Bs) (σ : L2.St) (H G : Hp) (ρ : En), (fr = true → B.free = true) → Ok B C σ H G ρ → ∀ ds, f ρ = some ds → ∀ R : It → Hp → Prop, (∀ J H1 G1, Ext H G H1 G1 → YlB C B J G1 ds → R J H1) → ti σ H R
def DIE (C : Cl) (fr : Bool) (ti : TI) (f : En → Option (List D)) : Prop := ∀ (B : Bs) (σ : L2.St) (H G : Hp) (ρ : En), (fr = true → B.free = true) → Ok B C σ H G ρ → ∀ ds, f ρ = some ds → ∀ R : It → Hp → Prop, (∀ J H1 G1, Ext H G H1 G1 → YlE C J H1 G1 ds → R J H1) → ti σ H R
section
variable {C : Cl} {fr : Bool} {K : PySem.W.Frag} {ti ti1 : TI} {ta tb te tk tv : TE} {f f' fe fk fv : FE} {fi fi1 : En → Option (List D)} {t : TA} {fs : En → Option (List D)} {tt tt1 : TT} {ft ft1 : En → Option Bool}
theorem DI.e (h : DI C fr ti fi) : DIE C fr ti fi := fun B σ H G ρ bf k ds hd R q => h B σ H G ρ bf k ds hd R fun J H1 G1 e y => q J H1 G1 e fun H2 G2 e2 => y H2 G2 ((k.bok.ext e).ext e2) e2.grow
def mItL (f : FE) : En → Option (List D) := fun ρ => (f ρ).bind fun d => match d with
  | .lst ds => some ds
  | _ => none
def mItT (f : FE) : En → Option (List D) := fun ρ => (f ρ).bind fun d => match d with
  | .tup ds => some ds
  | _ => none
theorem rp_lst {G : Hp} {v : V} {ds : List D} (h : Rp C G v (.lst ds)) : ∃ a xs, v = .ref a ∧ G a = some (.lst xs) ∧ Rps C G xs ds := by
  cases h with
  | lst e r => exact ⟨_, _, rfl, e, r⟩
theorem rp_tup {G : Hp} {v : V} {ds : List D} (h : Rp C G v (.tup ds)) : ∃ a xs, v = .ref a ∧ G a = some (.tup xs) ∧ Rps C G xs ds := by
  cases h with
  | tup e r => exact ⟨_, _, rfl, e, r⟩
theorem yl_at {J : It} {Gp : Hp → Prop} {xs : List V} {ds : List D} {H G : Hp} (w : Walk J xs.length Gp (YAt xs)) (g : Gp H) (s : Sub G H) (r : Rps C G xs ds) : Yl1 C J ds H G := fun i => by
  refine ⟨fun d hd => ?_, fun e => ?_⟩
  · obtain ⟨v, h1, h2⟩ := r.get hd
    have hi : i < xs.length := (List.getElem?_eq_some_iff.mp h1).1
    refine ⟨w.goes i H hi g, fun x H' y => ?_⟩
    obtain ⟨rfl, h3⟩ := w.yields i H x H' hi g y
    rw [h1] at h3
    cases h3
    exact ⟨G, Ext.refl s, h2⟩
  · subst e
    rw [← r.len]
    exact w.stops H g
theorem yl_pair {J : It} {Gp : Hp → Prop} {f1 f2 : Nat → Option V} {n : Nat} {ps : List (D × D)} {H G : Hp} (w : Walk J n Gp (YPair f1 f2)) (g : Gp H) (s : Sub G H) (hn : ps.length = n)
    (h1 : ∀ i a b, ps[i]? = some (a, b) → (∀ v, f1 i = some v → Rp C G v a) ∧ ∀ v, f2 i = some v → Rp C G v b) : Yl1 C J (ps.map fun p => .tup [p.1, p.2]) H G := fun i => by
  subst hn
  refine ⟨fun d hd => ?_, fun e => ?_⟩
  · rw [List.getElem?_map] at hd
    cases e : ps[i]? with
    | none => rw [e] at hd; cases hd
    | some p =>
      rw [e] at hd
      cases hd
      have hi : i < ps.length := (List.getElem?_eq_some_iff.mp e).1
      refine ⟨w.goes i H hi g, fun x H' y => ?_⟩
      obtain ⟨T, a, b, rfl, hT, rfl, e1, e2⟩ := w.yields i H x H' hi g y
      obtain ⟨k1, k2⟩ := h1 i _ _ e
      have sg := same_newG (s.none hT) (.tup [a, b])
      exact ⟨_, (Ext.refl s).new hT _, .tup upd_same (.cons ((k1 a e1).mono sg) (.cons ((k2 b e2).mono sg) .nil))⟩
  · subst e
    rw [List.length_map]
    exact w.stops H g
theorem yl_fn {J : It} {Gp : Hp → Prop} {f : Nat → V} {n : Nat} {ds : List D} {H G : Hp} (w : Walk J n Gp (YFn f)) (g : Gp H) (s : Sub G H) (hn : ds.length = n) (h1 : ∀ i d, ds[i]? = some d → Rp C G (f i) d) : Yl1 C J ds H G := fun i => by
  subst hn
  refine ⟨fun d hd => ?_, fun e => ?_⟩
  · have hi : i < ds.length := (List.getElem?_eq_some_iff.mp hd).1
    refine ⟨w.goes i H hi g, fun x H' y => ?_⟩
    obtain ⟨rfl, rfl⟩ := w.yields i H x H' hi g y
    exact ⟨G, Ext.refl s, h1 i d hd⟩
  · subst e
    exact w.stops H g
theorem di_list (ha : DE C fr ta f) : DI C fr (iList K ta) (mItL f) := fun B σ H G ρ bf k ds hd R q => by
  obtain ⟨x, h1, h⟩ := obind hd
  refine ha B σ H G ρ bf k x h1 _ fun v H1 G1 e1 r1 => ?_
  split at h
  · cases h
    obtain ⟨a, xs, rfl, hx, rs⟩ := rp_lst r1
    exact ⟨a, rfl, ⟨xs, SqL.of (e1.sub.lst hx)⟩, q _ H1 G1 e1 fun H2 G2 b2 s2 => yl_at walk_list (SqL.of (b2.sub.lst (s2 _ _ hx))) b2.sub (rs.mono s2)⟩
  · cases h
theorem di_tup (ha : DE C fr ta f) : DI C fr (iTup K ta) (mItT f) := fun B σ H G ρ bf k ds hd R q => by
  obtain ⟨x, h1, h⟩ := obind hd
  refine ha B σ H G ρ bf k x h1 _ fun v H1 G1 e1 r1 => ?_
  split at h
  · cases h
    obtain ⟨a, xs, rfl, hx, rs⟩ := rp_tup r1
    exact ⟨a, rfl, ⟨xs, SqT.of (e1.sub.tup hx)⟩, q _ H1 G1 e1 fun H2 G2 b2 s2 => yl_at walk_tup (SqT.of (b2.sub.tup (s2 _ _ hx))) b2.sub (rs.mono s2)⟩
  · cases h
/-- lo, lo + 1, .. -/
def rngD (lo : Int) (n : Nat) : List D := (List.range n).map fun i => .int (lo + (i : Nat))
theorem rngD_len {lo : Int} {n : Nat} : (rngD lo n).length = n := by unfold rngD; rw [List.length_map, List.length_range]
theorem rngD_get {lo : Int} {n i : Nat} {d : D} (h : (rngD lo n)[i]? = some d) : d = .int (lo + (i : Nat)) := by
  unfold rngD at h
  rw [List.getElem?_map] at h
  cases e : (List.range n)[i]? with
  | none => rw [e] at h; cases h
  | some j =>
    rw [e] at h
    cases h
    obtain ⟨h1, h2⟩ := List.getElem?_eq_some_iff.mp e
    rw [List.getElem_range] at h2
    rw [h2]
def okR (i : Int) : Bool := decide (-1000000 ≤ i) && decide (i ≤ 1000000)
theorem okR_of {i : Int} (h : okR i = true) : -(2 ^ 62) ≤ i ∧ i < 2 ^ 62 := by
  unfold okR at h
  simp only [Bool.and_eq_true, decide_eq_true_eq] at h
  omega
def mRng1 (fs : En → Option (List D)) : En → Option (List D) := fun ρ => (fs ρ).bind fun ds => match ds with
  | [.int j] => if okR j then some (rngD 0 j.toNat) else none
  | _ => none
def mRng2 (fs : En → Option (List D)) : En → Option (List D) := fun ρ => (fs ρ).bind fun ds => match ds with
  | [.int i, .int j] => if okR i && okR j then some (rngD i (j - i).toNat) else none
  | _ => none
theorem di_rng1 (ha : DA C fr t fs) : DI C fr (iRng1 t) (mRng1 fs) := fun B σ H G ρ bf k ds hd R q => by
  obtain ⟨x, h1, h⟩ := obind hd
  refine ha B σ H G ρ bf k x h1 _ fun v H1 G1 e1 r1 => ?_
  split at h
  · obtain ⟨ok, rfl⟩ := oif h
    cases r1 with
    | cons a b =>
      cases a
      cases b
      exact ⟨_, rfl, (okR_of ok).1, (okR_of ok).2, q _ H1 G1 e1 fun H2 G2 b2 s2 => yl_fn walk_range trivial b2.sub rngD_len fun i d hd => by rw [rngD_get hd]; exact .int _⟩
  · cases h
theorem di_rng2 (ha : DA C fr t fs) : DI C fr (iRng2 t) (mRng2 fs) := fun B σ H G ρ bf k ds hd R q => by
  obtain ⟨x, h1, h⟩ := obind hd
  refine ha B σ H G ρ bf k x h1 _ fun v H1 G1 e1 r1 => ?_
  split at h
  · obtain ⟨ok, rfl⟩ := oif h
    rw [Bool.and_eq_true] at ok
    cases r1 with
    | cons a b =>
      cases a
      cases b with
      | cons a b =>
        cases a
        cases b
        exact ⟨_, _, rfl, ⟨(okR_of ok.1).1, (okR_of ok.1).2, (okR_of ok.2).1, (okR_of ok.2).2⟩, q _ H1 G1 e1 fun H2 G2 b2 s2 => yl_fn walk_range trivial b2.sub rngD_len fun i d hd => by rw [rngD_get hd]; exact .int _⟩
  · cases h
def enumP (ds : List D) : List (D × D) := ds.zipIdx.map fun p => (.int (p.2 : Nat), p.1)
theorem enumP_len {ds : List D} : (enumP ds).length = ds.length := by unfold enumP; rw [List.length_map, List.length_zipIdx]
theorem enumP_get {ds : List D} {i : Nat} {a b : D} (h : (enumP ds)[i]? = some (a, b)) : a = .int (i : Nat) ∧ ds[i]? = some b := by
  unfold enumP at h
  rw [List.getElem?_map, List.getElem?_zipIdx] at h
  cases e : ds[i]? with
  | none => rw [e] at h; cases h
  | some d =>
    rw [e] at h
    simp at h
    obtain ⟨rfl, rfl⟩ := h
    exact ⟨rfl, rfl⟩
def mEnumT (fs : En → Option (List D)) : En → Option (List D) := fun ρ => (fs ρ).bind fun ds => match ds with
  | [.tup ds] => some ((enumP ds).map fun p => .tup [p.1, p.2])
  | _ => none
theorem di_enumT (ha : DA C fr t fs) : DI C fr (iEnumT K t) (mEnumT fs) := fun B σ H G ρ bf k ds hd R q => by
  obtain ⟨x, h1, h⟩ := obind hd
  refine ha B σ H G ρ bf k x h1 _ fun v H1 G1 e1 r1 => ?_
  split at h
  · cases h
    cases r1 with
    | cons ra rb =>
      cases rb
      obtain ⟨a, xs, rfl, hx, rs⟩ := rp_tup ra
      refine ⟨a, xs, rfl, SqT.of (e1.sub.tup hx), q _ H1 G1 e1 fun H2 G2 b2 s2 => yl_pair walk_enumT (SqT.of (b2.sub.tup (s2 _ _ hx))) b2.sub (by rw [enumP_len, rs.len]) fun i a b hp => ?_⟩
      obtain ⟨rfl, hb⟩ := enumP_get hp
      obtain ⟨v, hv, rv⟩ := (rs.mono s2).get hb
      exact ⟨fun u e => by cases e; exact .int _, fun u e => by rw [hv] at e; cases e; exact rv⟩
  · cases h
theorem zip_get {xs ys : List D} {i : Nat} {a b : D} (h : (xs.zip ys)[i]? = some (a, b)) : xs[i]? = some a ∧ ys[i]? = some b := by
  rw [List.getElem?_zip_eq_some] at h
  exact h
def mZipM (fs : En → Option (List D)) : En → Option (List D) := fun ρ => (fs ρ).bind fun ds => match ds with
  | [.lst xs, .tup ys] => some ((xs.zip ys).map fun p => .tup [p.1, p.2])
  | _ => none
theorem di_zipM (ha : DA C fr t fs) : DI C fr (iZipM K t) (mZipM fs) := fun B σ H G ρ bf k ds hd R q => by
  obtain ⟨x, h1, h⟩ := obind hd
  refine ha B σ H G ρ bf k x h1 _ fun v H1 G1 e1 r1 => ?_
  split at h
  · cases h
    cases r1 with
    | cons ra rb =>
      cases rb with
      | cons rb rc =>
        cases rc
        obtain ⟨a, xs, rfl, hx, rs⟩ := rp_lst ra
        obtain ⟨b, ys, rfl, hy, rt⟩ := rp_tup rb
        refine ⟨a, b, xs, ys, rfl, SqL.of (e1.sub.lst hx), SqT.of (e1.sub.tup hy), q _ H1 G1 e1 fun H2 G2 b2 s2 => yl_pair (walk_zipM (xs := xs) (ys := ys) rfl) ⟨SqL.of (b2.sub.lst (s2 _ _ hx)), SqT.of (b2.sub.tup (s2 _ _ hy))⟩ b2.sub (by rw [List.length_zip, rs.len, rt.len]) fun i a b hp => ?_⟩
        obtain ⟨ha, hb⟩ := zip_get hp
        obtain ⟨v, hv, rv⟩ := (rs.mono s2).get ha
        obtain ⟨v', hv', rv'⟩ := (rt.mono s2).get hb
        exact ⟨fun u e => by rw [hv] at e; cases e; exact rv, fun u e => by rw [hv'] at e; cases e; exact rv'⟩
  · cases h
/-- the keys of a locked dict that a name holds -/
def mKeys (i : Nat) : En → Option (List D) := fun ρ => match ρ[i]? with
  | some (some (.lck (.dic _ ks _))) => some ks
  | _ => none
theorem yl_keysK {a : Addr} {o : Obj} {kvs : List (L2.Key × V)} {H G : Hp} (h : H a = some (.frz o (.dK kvs))) (s : Sub G H) : Yl1 C (Itk a o kvs) (kvs.map fun p => keyD p.1) H G := fun i => by
  refine ⟨fun d hd => ?_, fun e => ?_⟩
  · rw [List.getElem?_map] at hd
    cases e : kvs[i]? with
    | none => rw [e] at hd; cases hd
    | some p =>
      rw [e] at hd
      cases hd
      have hi : i < kvs.length := (List.getElem?_eq_some_iff.mp e).1
      refine ⟨walk_keys.goes i H hi h, fun x H' y => ?_⟩
      obtain ⟨rfl, k, v, h1, rfl⟩ := walk_keys.yields i H x H' hi h y
      rw [e] at h1
      cases h1
      refine ⟨G, Ext.refl s, ?_⟩
      cases k with
      | inl j => exact .int j
      | inr x => exact .str x
  · subst e
    rw [List.length_map]
    exact walk_keys.stops H h
theorem rps_keys {G : Hp} : ∀ (k : List L2.Key), Rps C G (k.map kV) (k.map keyD)
  | [] => .nil
  | .inl i :: k => .cons (.int i) (rps_keys k)
  | .inr x :: k => .cons (.str x) (rps_keys k)
/-- a tuple of the heap comes into sight -/
theorem Ext.seeT {H G : Hp} (s : Sub G H) {q : Addr} {xs : List V} (h : H q = some (.tup xs)) : ∃ G', Ext H G H G' ∧ G' q = some (.tup xs) := by
  cases e : G q with
  | some o =>
    cases n : tblO o with
    | false =>
      rcases s.at_ _ _ e n with z | ⟨_, _, z⟩
      · rw [h] at z
        cases z
        exact ⟨G, Ext.refl s, e⟩
      · rw [h] at z
        cases z
    | true =>
      obtain ⟨_, _, _, z, _⟩ := s.tb _ _ e n
      rw [h] at z
      cases z
  | none =>
    refine ⟨upd G q (.tup xs), .kept (Same.refl _) (same_newG e _) ⟨fun b o z n => ?_, fun b o z n => ?_⟩ (fun b o z t g => ?_) fun b o z => ?_, upd_same⟩
    · by_cases hb : b = q
      · subst hb
        rw [upd_same] at z
        cases z
        exact .inl h
      · rw [upd_ne hb] at z
        exact s.at_ _ _ z n
    · by_cases hb : b = q
      · subst hb
        rw [upd_same] at z
        cases z
        cases n
      · rw [upd_ne hb] at z
        exact s.tb _ _ z n
    · by_cases hb : b = q
      · subst hb
        rw [h] at z
        cases z
        cases t
      · rw [upd_ne hb]
        exact g
    · by_cases hb : b = q
      · subst hb
        rw [upd_same] at z
        cases z
        exact .inr ⟨h, rfl⟩
      · rw [upd_ne hb] at z
        exact .inl z
/-- a new thing comes into sight -/
theorem Ext.see {H G H1 G1 : Hp} (e : Ext H G H1 G1) {p : Addr} {o : HO} (h : H p = none) (g : G1 p = none) (h1 : H1 p = some o) (n : tblO o = false := by rfl) : Ext H G H1 (upd G1 p o) :=
  ⟨fun b u z m => e.same b u z m, e.tbl, e.grow.trans (same_newG g o), ⟨fun b u z m => by
    by_cases hb : b = p
    · subst hb
      rw [upd_same] at z
      cases z
      exact .inl h1
    · rw [upd_ne hb] at z
      exact e.sub.at_ _ _ z m, fun b u z m => by
    by_cases hb : b = p
    · subst hb
      rw [upd_same] at z
      cases z
      rw [n] at m
      cases m
    · rw [upd_ne hb] at z
      exact e.sub.tb _ _ z m⟩, fun b u z t y => by rw [upd_ne (ne_of_none z h)]; exact e.hid b u z t y, fun b u z => by
    by_cases hb : b = p
    · subst hb
      rw [upd_same] at z
      cases z
      exact .inr ⟨h1, n⟩
    · rw [upd_ne hb] at z
      exact e.ex _ _ z⟩
theorem yl_keysT {a : Addr} {o : Obj} {kvs : List (List L2.Key × V)} {H G : Hp} (h : H a = some (.frz o (.dT kvs))) (s : Sub G H) : Yl1 C (Itkt a o kvs) (kvs.map fun p => keyT p.1) H G := fun i => by
  refine ⟨fun d hd => ?_, fun e => ?_⟩
  · rw [List.getElem?_map] at hd
    cases e : kvs[i]? with
    | none => rw [e] at hd; cases hd
    | some p =>
      rw [e] at hd
      cases hd
      have hi : i < kvs.length := (List.getElem?_eq_some_iff.mp e).1
      refine ⟨walk_keysT.goes i H hi h, fun x H' y => ?_⟩
      obtain ⟨rfl, k, v, q, h1, rfl, hq⟩ := walk_keysT.yields i H x H' hi h y
      rw [e] at h1
      cases h1
      obtain ⟨G', e', hg⟩ := Ext.seeT s hq
      exact ⟨G', e', .tup hg (rps_keys k)⟩
  · subst e
    rw [List.length_map]
    exact walk_keysT.stops H h
theorem di_keys (i : Nat) : DI C fr (iKeys (tVar i)) (mKeys i) := fun B σ H G ρ bf k ds hd R q => by
  obtain ⟨oa, w⟩ := k
  unfold mKeys at hd
  split at hd
  · rename_i t ks vs e
    cases hd
    obtain ⟨v, h1, h2⟩ := w.sl i _ e
    generalize oa i = l at h2
    cases h2 with
    | lck r h0 ht hu =>
      rename_i a ob u
      have hH : ∀ H2 G2, Bok B H2 G2 → H2 a = some (.frz ob u) := fun H2 G2 b2 => b2.same _ _ h0 ht
      refine ⟨.ref a, h1, a, ob, rfl, ?_⟩
      cases r with
      | dK e2 _ =>
        rw [hu] at e2
        cases e2
        exact .inl ⟨_, hH H G w.toBok, q _ H G (Ext.refl w.sub) fun H2 G2 b2 s2 => yl_keysK (hH H2 G2 b2) b2.sub⟩
      | dT e2 _ =>
        rw [hu] at e2
        cases e2
        exact .inr ⟨_, hH H G w.toBok, q _ H G (Ext.refl w.sub) fun H2 G2 b2 s2 => yl_keysT (hH H2 G2 b2) b2.sub⟩
  · cases hd
def DG (C : Cl) (g : TG) (vs : List Nat) (gf : D → En → Option En) : Prop := ∀ (σ : L2.St) (H G : Hp) (ρ : En) (v : V) (d : D), Sub G H → Rp C G v d → ∀ ρ', gf d ρ = some ρ' → ∀ Q : L2.St → Hp → Prop, (∀ σ', (∀ (B : Bs) (H2 G2 : Hp), Same G G2 → Ok B C σ H2 G2 ρ → Ok B C σ' H2 G2 ρ') → wipe σ' vs = wipe σ vs → Q σ' H) → g v σ H Q
def DGs (C : Cl) (g : TGs) (vs : List Nat) (gf : List D → En → Option En) : Prop := ∀ (σ : L2.St) (H G : Hp) (ρ : En) (xs : List V) (ds : List D), Sub G H → Rps C G xs ds → ∀ ρ', gf ds ρ = some ρ' → ∀ Q : L2.St → Hp → Prop, (∀ σ', (∀ (B : Bs) (H2 G2 : Hp), Same G G2 → Ok B C σ H2 G2 ρ → Ok B C σ' H2 G2 ρ') → wipe σ' vs = wipe σ vs → Q σ' H) → g xs σ H Q
theorem wipe_set {σ : L2.St} {i : Nat} {x : Option V} : ∀ {vs : List Nat}, i ∈ vs → wipe (σ.set i x) vs = wipe σ vs
  | [], h => by cases h
  | v :: vs, h => by
    unfold wipe
    by_cases hm : i ∈ vs
    · rw [wipe_set hm]
    · have e : i = v := (List.mem_cons.mp h).resolve_right hm
      subst e
      apply List.ext_getElem?
      intro j
      by_cases hj : i = j
      · subst hj
        rw [List.getElem?_set, List.getElem?_set, wipe_length, wipe_length, List.length_set]
        simp
      · rw [List.getElem?_set_ne hj, List.getElem?_set_ne hj]
        by_cases hv : j ∈ vs
        · have z : ∀ (τ : L2.St) (us : List Nat), j ∈ us → (wipe τ us)[j]? = if j < τ.length then some none else none := fun τ us => by
            induction us with
            | nil => intro m; cases m
            | cons u us ih =>
              intro m
              unfold wipe
              by_cases hu : u = j
              · subst hu
                rw [List.getElem?_set, wipe_length]
                simp
              · rw [List.getElem?_set_ne hu]
                exact ih ((List.mem_cons.mp m).resolve_left fun q => hu q.symm)
          rw [z _ _ hv, z _ _ hv, List.length_set]
        · rw [wipe_out hv, wipe_out hv, List.getElem?_set_ne hj]
def bName (i : Nat) : D → En → Option En := fun d ρ => some (ρ.set i (some (.shr d)))
def bNil : List D → En → Option En := fun ds ρ => match ds with
  | [] => some ρ
  | _ => none
def bCons (g : D → En → Option En) (g' : List D → En → Option En) : List D → En → Option En := fun ds ρ => match ds with
  | d :: ds => (g d ρ).bind fun ρ' => g' ds ρ'
  | _ => none
def bTup (n : Nat) (g : List D → En → Option En) : D → En → Option En := fun d ρ => match d with
  | .tup ds => if ds.length = n then g ds ρ else none
  | _ => none
theorem dg_name {vs : List Nat} (i : Nat) (hv : i ∈ vs) : DG C (gName i) vs (bName i) := fun σ H G ρ v d s r ρ' h Q q => by
  cases h
  exact q _ (fun B H2 G2 sg k => k.set i (r.mono sg)) (wipe_set hv)
theorem dgs_nil {vs : List Nat} : DGs C gNil vs bNil := fun σ H G ρ xs ds s r ρ' h Q q => by
  cases r with
  | nil =>
    cases h
    exact ⟨rfl, q _ (fun B H2 G2 sg k => k) rfl⟩
  | cons _ _ => cases h
theorem dgs_cons {vs : List Nat} {g : TG} {g' : TGs} {b : D → En → Option En} {b' : List D → En → Option En} (h1 : DG C g vs b) (h2 : DGs C g' vs b') : DGs C (gCons g g') vs (bCons b b') := fun σ H G ρ xs ds s r ρ' h Q q => by
  cases r with
  | nil => cases h
  | cons ra rb =>
    obtain ⟨ρ1, e1, e2⟩ := obind h
    exact ⟨_, _, rfl, h1 σ H G ρ _ _ s ra ρ1 e1 _ fun σ1 k1 w1 => h2 σ1 H G ρ1 _ _ s rb ρ' e2 Q fun σ2 k2 w2 => q σ2 (fun B H2 G2 sg k => k2 B H2 G2 sg (k1 B H2 G2 sg k)) (w2.trans w1)⟩
theorem dg_tup {vs : List Nat} {n : Nat} {g : TGs} {b : List D → En → Option En} (h1 : DGs C g vs b) : DG C (gTup K n g) vs (bTup n b) := fun σ H G ρ v d s r ρ' h Q q => by
  unfold bTup at h
  split at h
  · split at h
    · rename_i hn
      obtain ⟨a, xs, rfl, hx, rs⟩ := rp_tup r
      exact ⟨a, xs, rfl, SqT.of (s.tup hx), by rw [rs.len]; exact hn, h1 σ H G ρ xs _ s rs ρ' h Q q⟩
    · cases h
  · cases h
def lcD (g : D → En → Option En) (ft : En → Option Bool) (fe : FE) (ρ : En) : List D → Option (List D)
  | [] => some []
  | d :: ds => (g d ρ).bind fun ρ' => (ft ρ').bind fun b => if b then (fe ρ').bind fun y => (lcD g ft fe ρ ds).bind fun r => some (y :: r) else lcD g ft fe ρ ds
def mLc (fi : En → Option (List D)) (g : D → En → Option En) (ft : En → Option Bool) (fe : FE) (vs : List Nat) : FE := fun ρ => (fi ρ).bind fun ds => (lcD g ft fe (wipeD ρ vs) ds).bind fun r => if okSize r.length then some (.lst r) else none
def mYes : En → Option Bool := fun _ => some true
theorem dt_yes : DT C fr tYes mYes := fun B σ H G ρ bf k b h Q q => by
  cases h
  exact q H G (Ext.refl k.sub)
theorem drop_get {α : Type} {l : List α} {i : Nat} {x : α} (h : l[i]? = some x) : l.drop i = x :: l.drop (i + 1) := by
  obtain ⟨h1, h2⟩ := List.getElem?_eq_some_iff.mp h
  rw [List.drop_eq_getElem_cons h1, h2]
theorem wipe_idem {σ : L2.St} {vs : List Nat} : wipe (wipe σ vs) vs = wipe σ vs := by
  have z : ∀ us : List Nat, (∀ u ∈ us, u ∈ vs) → wipe (wipe σ vs) us = wipe σ vs := fun us => by
    induction us with
    | nil => intro _; rfl
    | cons u us ih =>
      intro hu
      show (wipe (wipe σ vs) us).set u none = wipe σ vs
      rw [ih fun w hw => hu w (List.mem_cons_of_mem _ hw)]
      apply List.ext_getElem?
      intro j
      by_cases hj : u = j
      · subst hj
        have hv := hu u List.mem_cons_self
        rw [List.getElem?_set]
        have y : ∀ (us : List Nat), u ∈ us → (wipe σ us)[u]? = if u < σ.length then some none else none := fun us => by
          induction us with
          | nil => intro m; cases m
          | cons w us ih =>
            intro m
            unfold wipe
            by_cases hw : w = u
            · subst hw
              rw [List.getElem?_set, wipe_length]
              simp
            · rw [List.getElem?_set_ne hw]
              exact ih ((List.mem_cons.mp m).resolve_left fun q => hw q.symm)
        rw [y _ hv, wipe_length]
        simp
      · rw [List.getElem?_set_ne hj]
  exact z vs fun _ h => h
end
end Wd
namespace Wd
open PySem L2 Wb
inductive Fl where
  | nx | bk | ct | rt (d : D)
abbrev FS := En → Option (Fl × En)
def Fin (B : Bs) (C : Cl) (Gs : Hp) (r : Fl × En) (E : Ends) : Prop := match r.1 with
  | .nx => ∀ σ H G, Ok B C σ H G r.2 → Same Gs G → E.nx σ H
  | .bk => ∀ σ H G, Ok B C σ H G r.2 → Same Gs G → E.bk σ H
  | .ct => ∀ σ H G, Ok B C σ H G r.2 → Same Gs G → E.ct σ H
  | .rt d => ∀ v σ H G, Ok B C σ H G r.2 → Same Gs G → Rp C G v d → E.rt v H
def DS (C : Cl) (fr : Bool) (ts : L2.TS) (f : FS) : Prop := ∀ (B : Bs) (σ : L2.St) (H G : Hp) (ρ : En), (fr = true → B.free = true) → Ok B C σ H G ρ → ∀ r, f ρ = some r → ∀ E : Ends, Fin B C G r E → ts E σ H
/-- a new thing that none else holds -/
def DF (C : Cl) (fr : Bool) (te : TE) (f : FE) : Prop := ∀ (B : Bs) (σ : L2.St) (H G : Hp) (ρ : En), (fr = true → B.free = true) → Ok B C σ H G ρ → ∀ d, f ρ = some d → ∀ Q : VK, (∀ a H' G', Ext H G H' G' → H a = none → G' a = none → SlOk B C H' G' (.ref a) (.own d) [a] → Q (.ref a) H') → te σ H Q
section
variable {C : Cl} {fr : Bool} {K : PySem.W.Frag} {B : Bs} {ti : TI} {ta tb te tk tv : TE} {f f' fe fk fv : FE} {fi : En → Option (List D)} {t : TA} {fs : En → Option (List D)} {tt : TT} {ft : En → Option Bool} {ts us : L2.TS} {p q : FS}
theorem Fin.grow {G G' : Hp} {r : Fl × En} {E : Ends} (h : Fin B C G r E) (s : Same G G') : Fin B C G' r E := by
  obtain ⟨fl, ρ⟩ := r
  cases fl with
  | nx => exact fun σ H G2 k z => h σ H G2 k (s.trans z)
  | bk => exact fun σ H G2 k z => h σ H G2 k (s.trans z)
  | ct => exact fun σ H G2 k z => h σ H G2 k (s.trans z)
  | rt d => exact fun v σ H G2 k z => h v σ H G2 k (s.trans z)
def sNx : FS := fun ρ => some (.nx, ρ)
theorem ds_nil : DS C fr tNext sNx := fun B σ H G ρ bf k r h E q => by
  cases h
  exact q σ H G k (Same.refl _)
def sSeq (p q : FS) : FS := fun ρ => (p ρ).bind fun r => match r.1 with
  | .nx => q r.2
  | _ => some r
theorem ds_seq (h1 : DS C fr ts p) (h2 : DS C fr us q) : DS C fr (tSeq ts us) (sSeq p q) := fun B σ H G ρ bf k r h E z => by
  obtain ⟨r1, e1, h⟩ := obind h
  refine h1 B σ H G ρ bf k r1 e1 _ ?_
  obtain ⟨fl, ρ1⟩ := r1
  cases fl with
  | nx => exact fun σ1 H1 G1 k1 s1 => h2 B σ1 H1 G1 ρ1 bf k1 r h E (z.grow s1)
  | bk => cases h; exact z
  | ct => cases h; exact z
  | rt d => cases h; exact z
def sIf (g : En → Option Bool) (p q : FS) : FS := fun ρ => (g ρ).bind fun b => if b then p ρ else q ρ
theorem ds_if (hc : DT C fr tt ft) (h1 : DS C fr ts p) (h2 : DS C fr us q) : DS C fr (tIfS tt ts us) (sIf ft p q) := fun B σ H G ρ bf k r h E z => by
  obtain ⟨b, e1, h⟩ := obind h
  refine hc B σ H G ρ bf k b e1 _ fun H1 G1 e => ?_
  cases b with
  | true => exact h1 B σ H1 G1 ρ bf (k.ext e) r h E (z.grow e.grow)
  | false => exact h2 B σ H1 G1 ρ bf (k.ext e) r h E (z.grow e.grow)
def sBrk : FS := fun ρ => some (.bk, ρ)
theorem ds_brk : DS C fr tBreak sBrk := fun B σ H G ρ bf k r h E q => by
  cases h
  exact q σ H G k (Same.refl _)
def sRet (f : FE) : FS := fun ρ => (f (thaw ρ)).bind fun d => some (.rt d, thaw ρ)
theorem ds_ret (he : DE C fr te f) : DS C fr (tRet te) (sRet f) := fun B σ H G ρ bf k r h E z => by
  obtain ⟨d, e1, h⟩ := obind h
  cases h
  obtain ⟨G1, k1, s1⟩ := k.thaw
  exact he B σ H G1 _ bf k1 d e1 _ fun v H2 G2 e2 r2 => z v σ H2 G2 (k1.ext e2) (s1.trans e2.grow) r2
def sNever : FS := fun _ => none
theorem ds_never : DS C fr tNever sNever := fun B σ H G ρ bf k r h E z => by cases h
/-- name = value -/
def sSet (i : Nat) (f : FE) : FS := fun ρ => (f ρ).bind fun d => some (.nx, ρ.set i (some (.shr d)))
theorem ds_set (i : Nat) (he : DE C fr te f) : DS C fr (tAsg te (gName i)) (sSet i f) := fun B σ H G ρ bf k r h E z => by
  obtain ⟨d, e1, h⟩ := obind h
  cases h
  exact he B σ H G ρ bf k d e1 _ fun v H2 G2 e2 r2 => z _ H2 G2 ((k.ext e2).set i r2) e2.grow
def sOwn (i : Nat) (f : FE) : FS := fun ρ => (f ρ).bind fun d => some (.nx, ρ.set i (some (.own d)))
theorem ds_own (i : Nat) (he : DF C fr te f) : DS C fr (tAsg te (gName i)) (sOwn i f) := fun B σ H G ρ bf k r h E z => by
  obtain ⟨d, e1, h⟩ := obind h
  cases h
  exact he B σ H G ρ bf k d e1 _ fun a H2 G2 e2 ha ga r2 => z _ H2 G2 (k.setOwn i e2 ha ga r2) e2.grow
/-- targets = value -/
def sBind (b : D → En → Option En) (f : FE) : FS := fun ρ => (f ρ).bind fun d => (b d ρ).bind fun ρ' => some (.nx, ρ')
theorem ds_bind {g : TG} {vs : List Nat} {b : D → En → Option En} (hg : DG C g vs b) (he : DE C fr te f) : DS C fr (tAsg te g) (sBind b f) := fun B σ H G ρ bf k r h E z => by
  obtain ⟨d, e1, h⟩ := obind h
  obtain ⟨ρ', e2, h⟩ := obind h
  cases h
  exact he B σ H G ρ bf k d e1 _ fun v H2 G2 e3 r2 => hg σ H2 G2 ρ v d e3.sub r2 ρ' e2 _ fun σ' k' _ => z σ' H2 G2 (k' B H2 G2 (Same.refl _) (k.ext e3)) e3.grow
/-- name += number -/
def sAug (i : Nat) (g : Int → Int → Int) (f : FE) : FS := fun ρ => (mVar i ρ).bind fun a => (f ρ).bind fun b => match a, b with
  | .int x, .int y => some (.nx, ρ.set i (some (.shr (.int (g x y)))))
  | _, _ => none
theorem ds_aug {g : Int → Int → Int} (i : Nat) (he : DE C fr te f) : DS C fr (tAug i te (ipI g)) (sAug i g f) := fun B σ H G ρ bf k r h E z => by
  obtain ⟨a, e1, h⟩ := obind h
  obtain ⟨b, e2, h⟩ := obind h
  split at h
  · cases h
    obtain ⟨v, h1, r1⟩ := ok_var k e1
    refine ⟨v, h1, he B σ H G ρ bf k _ e2 _ fun u H2 G2 e3 r2 => ?_⟩
    cases r1
    cases r2
    exact ⟨_, _, rfl, rfl, z _ H2 G2 ((k.ext e3).set i (.int _)) e3.grow⟩
  · cases h
def forD (b : D → En → Option En) (p : FS) : List D → FS
  | [] => fun ρ => some (.nx, ρ)
  | d :: ds => fun ρ => (b d ρ).bind fun ρ1 => (p ρ1).bind fun r => match r.1 with
    | .nx => forD b p ds r.2
    | .ct => forD b p ds r.2
    | .bk => some (.nx, r.2)
    | .rt _ => some r
def sFor (fi : En → Option (List D)) (b : D → En → Option En) (p : FS) : FS := fun ρ => (fi ρ).bind fun ds => forD b p ds ρ
theorem for_core {g : TG} {vs : List Nat} {b : D → En → Option En} {J : It} {σ : L2.St} {H1 G1 : Hp} {ρ : En} {ds : List D} {r : Fl × En} {E : Ends} (hg : DG C g vs b) (hb : DS C fr ts p) (bf : fr = true → B.free = true) (k : Ok B C σ H1 G1 ρ) (y : YlB C B J G1 ds) (h : forD b p ds ρ = some r) (z : Fin B C G1 r E) :
    ∃ W : Nat → Nat → L2.St → Hp → Prop, (∃ m, W 0 m σ H1) ∧ ∀ i m σ H, W i m σ H →
      (J.stop i H ∧ E.nx σ H) ∨ (J.go i H ∧ ∃ N : L2.St → Hp → Prop, (∀ σ' H', N σ' H' → ∃ m', m' < m ∧ W (i + 1) m' σ' H') ∧ ∀ x H', J.yld i H x H' → g x σ H' fun σ2 H2 => ts { E with nx := N, ct := N, bk := E.nx } σ2 H2) := by
  refine ⟨fun i m σ' H' => m = ds.length - i ∧ i ≤ ds.length ∧ ∃ G' ρ', Ok B C σ' H' G' ρ' ∧ Same G1 G' ∧ forD b p (ds.drop i) ρ' = some r, ⟨_, rfl, Nat.zero_le _, G1, ρ, k, Same.refl _, by rw [List.drop_zero]; exact h⟩, ?_⟩
  rintro i m σ2 H2 ⟨rfl, hi', G2, ρ2, k2, s2, hr⟩
  obtain ⟨y1, y2⟩ := y H2 G2 k2.bok s2 i
  rcases Nat.lt_or_ge i ds.length with hlt | hge
  · have hx : ds[i]? = some ds[i] := List.getElem?_eq_getElem hlt
    obtain ⟨go, yl⟩ := y1 _ hx
    rw [drop_get hx] at hr
    unfold forD at hr
    obtain ⟨ρ3, b1, hr⟩ := obind hr
    obtain ⟨r2, b2, hr⟩ := obind hr
    refine .inr ⟨go, _, fun σ' H' w => w, fun x H3 yy => ?_⟩
    obtain ⟨G3, e3, rx⟩ := yl x H3 yy
    refine hg σ2 H3 G3 ρ2 x _ e3.sub rx ρ3 b1 _ fun σ4 k4 _ => ?_
    refine hb B σ4 H3 G3 ρ3 bf (k4 B H3 G3 (Same.refl _) (k2.ext e3)) r2 b2 _ ?_
    have s3 := s2.trans e3.grow
    obtain ⟨fl, ρ5⟩ := r2
    cases fl with
    | nx => exact fun σ5 H5 G5 k5 s5 => ⟨ds.length - (i + 1), by omega, rfl, by omega, G5, ρ5, k5, s3.trans s5, hr⟩
    | ct => exact fun σ5 H5 G5 k5 s5 => ⟨ds.length - (i + 1), by omega, rfl, by omega, G5, ρ5, k5, s3.trans s5, hr⟩
    | bk =>
      cases hr
      exact fun σ5 H5 G5 k5 s5 => z σ5 H5 G5 k5 (s3.trans s5)
    | rt d =>
      cases hr
      exact fun v σ5 H5 G5 k5 s5 r5 => z v σ5 H5 G5 k5 (s3.trans s5) r5
  · have e : i = ds.length := by omega
    subst e
    rw [List.drop_length] at hr
    cases hr
    exact .inl ⟨y2 rfl, z σ2 H2 G2 k2 s2⟩
theorem ds_for {g : TG} {vs : List Nat} {b : D → En → Option En} (hi : DI C fr ti fi) (hg : DG C g vs b) (hb : DS C fr ts p) : DS C fr (tFor ti g ts) (sFor fi b p) := fun B σ H G ρ bf k r h E z => by
  obtain ⟨ds, e1, h⟩ := obind h
  exact hi B σ H G ρ bf k ds e1 _ fun J H1 G1 x1 y => for_core hg hb bf (k.ext x1) y h (z.grow x1.grow)
def whileD (g : En → Option Bool) (p : FS) : Nat → FS
  | 0 => fun _ => none
  | n + 1 => fun ρ => (g ρ).bind fun b => if b then (p ρ).bind fun r => match r.1 with
    | .nx => whileD g p n r.2
    | .ct => whileD g p n r.2
    | .bk => some (.nx, r.2)
    | .rt _ => some r
    else some (.nx, ρ)
theorem ds_while (n : Nat) (hc : DT C fr tt ft) (hb : DS C fr ts p) : DS C fr (tWhile tt ts) (whileD ft p n) := fun B σ H G ρ bf k r h E z => by
  refine ⟨fun m σ' H' => ∃ G' ρ', Ok B C σ' H' G' ρ' ∧ Same G G' ∧ whileD ft p m ρ' = some r, ⟨n, G, ρ, k, Same.refl _, h⟩, ?_⟩
  rintro m σ2 H2 ⟨G2, ρ2, k2, s2, hr⟩
  cases m with
  | zero => cases hr
  | succ m =>
    unfold whileD at hr
    obtain ⟨b, b1, hr⟩ := obind hr
    refine hc B σ2 H2 G2 ρ2 bf k2 b b1 _ fun H3 G3 e3 => ?_
    cases b with
    | false =>
      cases hr
      exact z σ2 H3 G3 (k2.ext e3) (s2.trans e3.grow)
    | true =>
      rw [if_pos rfl] at hr ⊢
      obtain ⟨r2, b2, hr⟩ := obind hr
      refine ⟨_, fun σ' H' w => w, ?_⟩
      refine hb B σ2 H3 G3 ρ2 bf (k2.ext e3) r2 b2 _ ?_
      have s3 := s2.trans e3.grow
      obtain ⟨fl, ρ5⟩ := r2
      cases fl with
      | nx => exact fun σ5 H5 G5 k5 s5 => ⟨m, Nat.lt_succ_self m, G5, ρ5, k5, s3.trans s5, hr⟩
      | ct => exact fun σ5 H5 G5 k5 s5 => ⟨m, Nat.lt_succ_self m, G5, ρ5, k5, s3.trans s5, hr⟩
      | bk =>
        cases hr
        exact fun σ5 H5 G5 k5 s5 => z σ5 H5 G5 k5 (s3.trans s5)
      | rt d =>
        cases hr
        exact fun v σ5 H5 G5 k5 s5 r5 => z v σ5 H5 G5 k5 (s3.trans s5) r5
def lockB (B : Bs) (a : Addr) (ob : Obj) (u : HO) : Bs := ⟨upd B.H0 a (.frz ob u), upd B.G0 a u, fun b => B.T b ∧ b ≠ a, false, B.sr⟩
def lockE (i : Nat) (ρ : En) : Option En := match ρ[i]? with
  | some (some (.shr (.dic t ks vs))) => some (ρ.set i (some (.lck (.dic t ks vs))))
  | _ => none
def unlS : Option Sl → Option Sl
  | some (.lck d) => some (.shr d)
  | s => s
def sLock (i : Nat) (p : FS) : FS := fun ρ => (lockE i ρ).bind fun ρ1 => (p ρ1).bind fun r => some (r.1, r.2.map unlS)
theorem dict_mut {u : HO} (h : DictO u) : Mut (some u) := by
  cases u <;> first | trivial | cases h
theorem tbl_dic {u : HO} (h : DictO u) : tblO u = false := by
  cases u <;> first | rfl | cases h
theorem code_dic {u : HO} (h : DictO u) : ∀ c q, u ≠ LamX.CodeO c q := by
  cases u with
  | ext φ =>
    obtain ⟨w, a, es, e⟩ := h
    rw [e]
    exact dx_code w a es
  | dK kvs => exact ncode rfl
  | dT kvs => exact ncode rfl
  | _ => cases h
theorem Ext.unfrz {H G H1 G1 : Hp} {a : Addr} {u : HO} {ob : Obj} (x : Ext (upd H a (.frz ob u)) G H1 G1) (ha : H a = some u) (ga : G a = some u) (du : DictO u) : Ext H G (upd H1 a u) G1 := by
  have hfz : H1 a = some (.frz ob u) := x.same a _ upd_same
  have g1 := x.grow _ _ ga
  refine ⟨fun b o hb n => ?_, fun b ps hb => ?_, x.grow, ⟨fun b o hb n => ?_, fun b o hb n => ?_⟩, fun b o hb t g => ?_, fun b o hb => ?_⟩
  · by_cases e : b = a
    · subst e
      rw [ha] at hb
      cases hb
      exact upd_same
    · rw [upd_ne e]
      exact x.same b o (by rw [upd_ne e]; exact hb) n
  · have ne : b ≠ a := fun e => by
      rw [e, ha] at hb
      cases hb
      cases du
    rw [upd_ne ne]
    exact x.tbl b ps (by rw [upd_ne ne]; exact hb)
  · by_cases e : b = a
    · subst e
      rw [g1] at hb
      cases hb
      exact .inl upd_same
    · rw [upd_ne e]
      exact x.sub.at_ b o hb n
  · have ne : b ≠ a := fun e => by
      rw [e, g1] at hb
      cases hb
      rw [tbl_dic du] at n
      cases n
    obtain ⟨q, eq, t⟩ := x.sub.tb b o hb n
    exact ⟨q, eq, tab_put t ne hfz rfl⟩
  · by_cases e : b = a
    · subst e
      rw [ga] at g
      cases g
    · exact x.hid b o (by rw [upd_ne e]; exact hb) t g
  · by_cases e : b = a
    · subst e
      rw [g1] at hb
      cases hb
      exact .inl ga
    · rw [upd_ne e]
      exact x.ex b o hb
theorem lock_bok {H G : Hp} {a : Addr} {u : HO} {ob : Obj} (w : Bok B H G) (hf : B.free = true) (du : DictO u) (ga : G a = some u) : Bok (lockB B a ob u) (upd H a (.frz ob u)) G := by
  have ha := w.unl hf a u ga (tbl_dic du)
  refine ⟨⟨fun b o h n => ?_, fun b o h n => ?_⟩, fun b o h t n => ?_, fun b ps h => ?_, fun b o h => ?_, fun b o h t g => ?_, fun b o h t => ?_, (fun f => nomatch f), fun b o h n => ?_, fun b o h t => ?_, fun b o h n => ?_⟩
  · by_cases e : b = a
    · subst e
      rw [ga] at h
      cases h
      exact .inr ⟨du, ob, upd_same⟩
    · rw [upd_ne e]
      exact .inl (w.unl hf b o h n)
  · have ne : b ≠ a := fun e => by
      rw [e, ga] at h
      cases h
      rw [tbl_dic du] at n
      cases n
    obtain ⟨q, eq, t⟩ := w.sub.tb b o h n
    exact ⟨q, eq, tab_put' t ne ha (code_dic du)⟩
  · have h' : upd B.H0 a (.frz ob u) b = some o := h
    by_cases e : b = a
    · subst e
      rw [upd_same] at h'
      rw [upd_same]
      exact h'
    · rw [upd_ne e] at h'
      rw [upd_ne e]
      exact w.same b o h' (fun tb => t ⟨tb, e⟩) n
  · have h' : upd B.H0 a (.frz ob u) b = some (.tbl ps) := h
    by_cases e : b = a
    · subst e
      rw [upd_same] at h'
      cases h'
    · rw [upd_ne e] at h'
      rw [upd_ne e]
      exact w.tbl b ps h'
  · have h' : upd B.G0 a u b = some o := h
    by_cases e : b = a
    · subst e
      rw [upd_same] at h'
      rw [← h']
      exact ga
    · rw [upd_ne e] at h'
      exact w.grow b o h'
  · have h' : upd B.H0 a (.frz ob u) b = some o := h
    have g' : upd B.G0 a u b = none := g
    by_cases e : b = a
    · subst e
      rw [upd_same] at g'
      cases g'
    · rw [upd_ne e] at h' g'
      exact w.hid0 b o h' t g'
  · have h' : upd B.H0 a (.frz ob u) b = some o := h
    rw [upd_ne t.2] at h' ⊢
    exact w.tp b o h' t.1
  · by_cases e : b = a
    · subst e
      rw [ga] at h
      cases h
      exact .inr ⟨ob, du, upd_same, fun t => t.2 rfl, upd_same⟩
    · rw [upd_ne e]
      exact .inl (w.unl hf b o h n)
  · have h' : upd B.H0 a (.frz ob u) b = some o := h
    rw [upd_ne t.2] at h'
    exact w.th b o h' t.1
  · have ne : b ≠ a := fun e => by
      rw [e, ga] at h
      cases h
      rw [tbl_dic du] at n
      cases n
    show upd B.G0 a u b = some o
    rw [upd_ne ne]
    exact w.mks b o h n
theorem lock_ok {σ : L2.St} {H G : Hp} {ρ : En} {i : Nat} {d : D} {a : Addr} {u : HO} {ob : Obj} (k : Ok B C σ H G ρ) (hf : B.free = true) (hs : σ[i]? = some (some (.ref a))) (hr : ∃ e, ρ[i]? = some (some (.shr e))) (du : DictO u) (ga : G a = some u) (r : Rp C G (.ref a) d) :
    Ok (lockB B a ob u) C σ (upd H a (.frz ob u)) G (ρ.set i (some (.lck d))) := by
  obtain ⟨oa, w⟩ := k
  have bk : Bok (lockB B a ob u) (upd H a (.frz ob u)) G := lock_bok w.toBok hf du ga
  have na : ∀ j t b, ρ[j]? = some (some t) → b ∈ oa j → b ≠ a := fun j t b q m e => by
    have := (w.hid j t b q m).1
    rw [e, ga] at this
    cases this
  have w' : OkW (lockB B a ob u) C (fun j => if j = i then [] else oa j) σ (upd H a (.frz ob u)) G (ρ.set i (some (.lck d))) := by
    have key : ∀ j t, (ρ.set i (some (.lck d)))[j]? = some (some t) → (j = i ∧ t = .lck d) ∨ (j ≠ i ∧ ρ[j]? = some (some t)) := fun j t q => by
      by_cases e : i = j
      · subst e
        obtain ⟨e', he'⟩ := hr
        rw [List.getElem?_set_self (List.getElem?_eq_some_iff.mp he').1] at q
        cases q
        exact .inl ⟨rfl, rfl⟩
      · rw [List.getElem?_set_ne e] at q
        exact .inr ⟨fun z => e z.symm, q⟩
    refine { bk with len := by rw [List.length_set]; exact w.len, sl := fun j t q => ?_, hid := fun j t b q m => ?_, frs := fun j e b q m => ?_, dj := fun j l t t' b n q q' m m' => ?_, mkC := w.mkC }
    · rcases key j t q with ⟨rfl, rfl⟩ | ⟨n, q⟩
      · refine ⟨_, hs, ?_⟩
        rw [if_pos rfl]
        exact .lck r upd_same (fun t => t.2 rfl) ga
      · obtain ⟨v, h1, h2⟩ := w.sl j t q
        refine ⟨v, h1, ?_⟩
        rw [if_neg n]
        have nb : ∀ b, b ∈ oa j → b ≠ a := fun b m => na j t b q m
        generalize oa j = l at h2 nb
        cases h2 with
        | shr r => exact .shr r
        | lst e r => exact .lst (by rw [upd_ne (nb _ (List.mem_singleton_self _))]; exact e) r
        | dK e r => exact .dK (by rw [upd_ne (nb _ (List.mem_singleton_self _))]; exact e) r
        | dT e r => exact .dT (by rw [upd_ne (nb _ (List.mem_singleton_self _))]; exact e) r
        | dX hw e hk r1 r2 => exact .dX hw (by rw [upd_ne (nb _ (List.mem_singleton_self _))]; exact e) hk r1 r2
        | fn e s0 => exact .fn (by rw [upd_ne (fun z => by rw [z, w.unl hf a u ga (tbl_dic du)] at e; exact code_dic du _ _ (Option.some.inj e))]; exact e) s0
        | src n0 ne e1 e2 z => exact .src n0 ne (by rw [upd_ne (nb _ List.mem_cons_self)]; exact e1) (by rw [upd_ne (nb _ (List.mem_cons_of_mem _ (List.mem_singleton_self _)))]; exact e2) z
        | @lck a2 d2 ob2 u2 r h0 ht hu =>
          cases n2 : tblO u2 with
          | false =>
            have := w.unl hf a2 _ hu n2
            have h3 := w.same a2 _ h0 ht rfl
            rw [this] at h3
            cases h3
          | true =>
            obtain ⟨_, _, _, h4, _⟩ := w.sub.tb _ _ hu n2
            have h3 := w.same a2 _ h0 ht rfl
            rw [h4] at h3
            cases h3
    · rcases key j t q with ⟨rfl, rfl⟩ | ⟨n, q⟩
      · rw [if_pos rfl] at m
        cases m
      · rw [if_neg n] at m
        have nb := na j t b q m
        refine ⟨(w.hid j t b q m).1, ?_⟩
        rcases (w.hid j t b q m).2 with z | z
        · exact .inl (by show upd _ _ _ _ = none; rw [upd_ne nb]; exact z)
        · exact .inr ⟨z, nb⟩
    · rcases key j _ q with ⟨rfl, z⟩ | ⟨n, q⟩
      · cases z
      · rw [if_neg n] at m
        show upd _ _ _ _ = none
        rw [upd_ne (na j _ b q m)]
        exact w.frs j e b q m
    · rcases key j t q with ⟨rfl, rfl⟩ | ⟨n1, q⟩
      · rw [if_pos rfl] at m
        cases m
      · rw [if_neg n1] at m
        rcases key l t' q' with ⟨rfl, rfl⟩ | ⟨n2, q'⟩
        · rw [if_pos rfl] at m'
          cases m'
        · rw [if_neg n2] at m'
          exact w.dj j l t t' b n q q' m m'
  exact ⟨_, w'⟩
theorem unlock_ok {σ' : L2.St} {H G H' G' : Hp} {ρ' : En} {a : Addr} {u : HO} {ob : Obj} (w : Bok B H G) (hf : B.free = true) (du : DictO u) (ga : G a = some u) (k : Ok (lockB B a ob u) C σ' H' G' ρ') (sg : Same G G') :
    H' a = some (.frz ob u) ∧ Ok B C σ' (upd H' a u) G' (ρ'.map unlS) := by
  obtain ⟨oa, w'⟩ := k
  have hfz : H' a = some (.frz ob u) := w'.same a _ upd_same (fun t => t.2 rfl) rfl
  refine ⟨hfz, ?_⟩
  have tn : ∀ b o, B.H0 b = some o → B.T b → b ≠ a := fun b o h t e => by
    have := w.th b o h t
    rw [e, ga] at this
    cases this
  have ga' := sg _ _ ga
  have ex : ∀ b o, G' b = some o → tblO o = false → (upd H' a u) b = some o := fun b o h n => by
    by_cases e : b = a
    · subst e
      rw [ga'] at h
      rw [upd_same]
      exact h
    · rw [upd_ne e]
      rcases w'.fz b o h n with z | ⟨ob2, d2, h0, t, h1⟩
      · exact z
      · exfalso
        have h0' : upd B.H0 a (.frz ob u) b = some (.frz ob2 o) := h0
        rw [upd_ne e] at h0'
        have hb := w.same b _ h0' (fun tb => t ⟨tb, e⟩) rfl
        cases gb : G b with
        | some o' =>
          have h4 := sg _ _ gb
          rw [h] at h4
          cases h4
          have h3 := w.unl hf b _ gb n
          rw [hb] at h3
          cases h3
        | none =>
          have g0 : B.G0 b = none := by
            cases q : B.G0 b with
            | none => rfl
            | some o' =>
              have := w.grow _ _ q
              rw [gb] at this
              cases this
          have := w'.hid0 b _ h0 rfl (by show upd B.G0 a u b = none; rw [upd_ne e]; exact g0)
          rw [h] at this
          cases this
  have bk : Bok B (upd H' a u) G' := by
    refine ⟨⟨fun b o h n => .inl (ex b o h n), fun b o h n => ?_⟩, fun b o h t n => ?_, fun b ps h => ?_, fun b o h => ?_, fun b o h t g => ?_, fun b o h t => ?_, fun _ b o h n => ex b o h n, fun b o h n => .inl (ex b o h n), fun b o h t => ?_, fun b o h n => ?_⟩
    · have ne : b ≠ a := fun e => by
        rw [e, ga'] at h
        cases h
        rw [tbl_dic du] at n
        cases n
      obtain ⟨q, eq, t⟩ := w'.sub.tb b o h n
      exact ⟨q, eq, tab_put t ne hfz rfl⟩
    · by_cases e : b = a
      · subst e
        have h1 := w.same b o h t n
        rw [w.unl hf b u ga (tbl_dic du)] at h1
        rw [upd_same]
        exact h1
      · rw [upd_ne e]
        exact w'.same b o (by show upd _ _ _ _ = _; rw [upd_ne e]; exact h) (fun z => t z.1) n
    · have ne : b ≠ a := fun e => by
        obtain ⟨ps', z⟩ := w.tbl b ps h
        rw [e, w.unl hf a u ga (tbl_dic du)] at z
        cases z
        cases du
      rw [upd_ne ne]
      exact w'.tbl b ps (by show upd _ _ _ _ = _; rw [upd_ne ne]; exact h)
    · exact sg _ _ (w.grow b o h)
    · by_cases e : b = a
      · subst e
        have := w.hid0 b o h t g
        rw [ga] at this
        cases this
      · exact w'.hid0 b o (by show upd _ _ _ _ = _; rw [upd_ne e]; exact h) t (by show upd _ _ _ _ = _; rw [upd_ne e]; exact g)
    · have e := tn b o h t
      rw [upd_ne e]
      exact w'.tp b o (by show upd _ _ _ _ = _; rw [upd_ne e]; exact h) ⟨t, e⟩
    · have e := tn b o h t
      exact w'.th b o (by show upd _ _ _ _ = _; rw [upd_ne e]; exact h) ⟨t, e⟩
    · have ne : b ≠ a := fun e => by
        rw [e, ga'] at h
        cases h
        rw [tbl_dic du] at n
        cases n
      have h' : upd B.G0 a u b = some o := w'.mks b o h n
      rw [upd_ne ne] at h'
      exact h'
  have key : ∀ (j : Nat) (t : Sl), (ρ'.map unlS)[j]? = some (some t) → (∃ d, ρ'[j]? = some (some (Sl.lck d)) ∧ t = Sl.shr d) ∨ ((∀ d, t ≠ Sl.lck d) ∧ ρ'[j]? = some (some t)) := fun j t q => by
    rw [List.getElem?_map] at q
    cases e : ρ'[j]? with
    | none => rw [e] at q; cases q
    | some s =>
      rw [e] at q
      rcases s with _ | ⟨d | d | s | d | d⟩
      · cases q
      · cases q; exact .inr ⟨(fun _ z => nomatch z), rfl⟩
      · cases q; exact .inr ⟨(fun _ z => nomatch z), rfl⟩
      · cases q; exact .inr ⟨(fun _ z => nomatch z), rfl⟩
      · cases q; exact .inl ⟨d, rfl, rfl⟩
      · cases q; exact .inr ⟨(fun _ z => nomatch z), rfl⟩
  have old : ∀ (j : Nat) (t : Sl), (ρ'.map unlS)[j]? = some (some t) → ∃ t', ρ'[j]? = some (some t') := fun j t q => by
    rcases key j t q with ⟨d, h, _⟩ | ⟨_, h⟩
    · exact ⟨_, h⟩
    · exact ⟨_, h⟩
  have na : ∀ j t b, ρ'[j]? = some (some t) → b ∈ oa j → b ≠ a := fun j t b q m e => by
    have := (w'.hid j t b q m).1
    rw [e, ga'] at this
    cases this
  refine ⟨oa, { bk with len := by rw [List.length_map]; exact w'.len, sl := fun j t q => ?_, hid := fun j t b q m => ?_, frs := fun j d b q m => ?_, dj := fun j l t t' b n q q' m m' => ?_, mkC := w'.mkC }⟩
  · rcases key j t q with ⟨d, h, rfl⟩ | ⟨nl, h⟩
    · obtain ⟨v, h1, h2⟩ := w'.sl j _ h
      refine ⟨v, h1, ?_⟩
      generalize oa j = l at h2
      cases h2 with
      | lck r _ _ _ => exact .shr r
    · obtain ⟨v, h1, h2⟩ := w'.sl j _ h
      refine ⟨v, h1, ?_⟩
      have nb : ∀ b, b ∈ oa j → b ≠ a := fun b m => na j t b h m
      generalize oa j = l at h2 nb
      cases h2 with
      | shr r => exact .shr r
      | lst e r => exact .lst (by rw [upd_ne (nb _ (List.mem_singleton_self _))]; exact e) r
      | dK e r => exact .dK (by rw [upd_ne (nb _ (List.mem_singleton_self _))]; exact e) r
      | dT e r => exact .dT (by rw [upd_ne (nb _ (List.mem_singleton_self _))]; exact e) r
      | dX hw e hk r1 r2 => exact .dX hw (by rw [upd_ne (nb _ (List.mem_singleton_self _))]; exact e) hk r1 r2
      | fn e s0 => exact .fn (by rw [upd_ne (fun z => by rw [z, hfz] at e; cases e)]; exact e) s0
      | src n0 ne e1 e2 z => exact .src n0 ne (by rw [upd_ne (nb _ List.mem_cons_self)]; exact e1) (by rw [upd_ne (nb _ (List.mem_cons_of_mem _ (List.mem_singleton_self _)))]; exact e2) z
      | lck r h0 ht hu => exact absurd rfl (nl _)
  · obtain ⟨t', h⟩ := old j t q
    refine ⟨(w'.hid j t' b h m).1, ?_⟩
    have nb := na j t' b h m
    rcases (w'.hid j t' b h m).2 with z | z
    · have z' : upd B.H0 a (.frz ob u) b = none := z
      rw [upd_ne nb] at z'
      exact .inl z'
    · exact .inr z.1
  · rcases key j _ q with ⟨d', h, z⟩ | ⟨nl, h⟩
    · cases z
    · have z : upd B.H0 a (.frz ob u) b = none := w'.frs j d b h m
      rw [upd_ne (na j _ b h m)] at z
      exact z
  · obtain ⟨t1, h1⟩ := old j t q
    obtain ⟨t2, h2⟩ := old l t' q'
    exact w'.dj j l t1 t2 b n h1 h2 m m'
theorem fin_unlock {H G : Hp} {a : Addr} {u : HO} {ob : Obj} {r : Fl × En} {E : Ends} (w : Bok B H G) (hf : B.free = true) (du : DictO u) (ga : G a = some u) (z : Fin B C G (r.1, r.2.map unlS) E) :
    Fin (lockB B a ob u) C G r ⟨fun σ' H' => H' a = some (.frz ob u) ∧ E.nx σ' (upd H' a u), fun v H' => H' a = some (.frz ob u) ∧ E.rt v (upd H' a u), fun σ' H' => H' a = some (.frz ob u) ∧ E.bk σ' (upd H' a u), fun σ' H' => H' a = some (.frz ob u) ∧ E.ct σ' (upd H' a u)⟩ := by
  obtain ⟨fl, ρ⟩ := r
  cases fl with
  | nx =>
    intro σ1 H1 G1 k1 s1
    obtain ⟨h1, h2⟩ := unlock_ok w hf du ga k1 s1
    exact ⟨h1, z σ1 _ G1 h2 s1⟩
  | bk =>
    intro σ1 H1 G1 k1 s1
    obtain ⟨h1, h2⟩ := unlock_ok w hf du ga k1 s1
    exact ⟨h1, z σ1 _ G1 h2 s1⟩
  | ct =>
    intro σ1 H1 G1 k1 s1
    obtain ⟨h1, h2⟩ := unlock_ok w hf du ga k1 s1
    exact ⟨h1, z σ1 _ G1 h2 s1⟩
  | rt d => exact fun v σ1 H1 G1 k1 s1 r1 => let ⟨h1, h2⟩ := unlock_ok w hf du ga k1 s1; ⟨h1, z v σ1 _ G1 h2 s1 r1⟩
theorem ds_lock (i : Nat) (hb : DS C false ts p) : DS C true (tLock ts) (sLock i p) := fun B σ H G ρ bf k r h E z => by
  obtain ⟨ρ1, e1, h⟩ := obind h
  obtain ⟨r1, e2, h⟩ := obind h
  cases h
  unfold lockE at e1
  split at e1
  · rename_i t ks vs hi
    cases e1
    have hv : mVar i ρ = some (.dic t ks vs) := by unfold mVar; rw [hi]
    obtain ⟨v, hs, r⟩ := ok_var k hv
    have fin : ∀ (a : Addr) (u : HO), v = .ref a → DictO u → G a = some u → tLock ts E σ H := fun a u ev du ga => by
      subst ev
      refine ⟨a, u, k.bok.unl (bf rfl) a u ga (tbl_dic du), dict_mut du, fun ob => ?_⟩
      exact hb (lockB B a ob u) σ _ G _ (fun f => nomatch f) (lock_ok k (bf rfl) hs ⟨_, hi⟩ du ga r) r1 e2 _ (fin_unlock k.bok (bf rfl) du ga z)
    cases r with
    | dK e _ => exact fin _ _ rfl (by exact True.intro) e
    | dT e _ => exact fin _ _ rfl (by exact True.intro) e
  · cases e1
end
end Wd
namespace Wb
open PySem PySem.Spec PyProof.Rows L2 PpSet
section
variable {X : Cx}
/-- d[k] = v of a comprehension, k a tuple -/
theorem dictSetT_ok {pins : List (Addr × Obj)} {σ : L2.St} {H : Hp} {s : Shared} {E : Value → Shared → Prop} {D b : Addr} {kvs : List (List L2.Key × V)} {k : List L2.Key} {v : V} {r : Value} {Q : Unit → Shared → Prop} (I : Inv X pins σ H s) (hu : X.A.units + 64 < cLine)
    (hD : H D = some (.dT kvs)) (few : kvs.length < sizeLine) (hb : H b = some (.tup (k.map kV))) (rv : RelV v r) (h : ∀ s', Inv X pins σ (upd H D (.dT (putK kvs k v))) s' → Q () s') : wpAny (model X.prog X.w) X.A (dictSet D (.ref b) r) Q E s := by
  obtain ⟨z, hd, xs, rel, dd⟩ := dt_of I.hok hD
  have room : xs.length ≤ sizeLine := by
    rw [← Paired.length rel]
    exact z
  have len := length_putK kvs k v
  refine wpAny_dictSet_heap (hsz := room) (show X.A.units < cLine by omega) (key_of I.hok hb) dd fun h' dd' hs => h _ ?_
  obtain ⟨q, es, ep, hq, h2, h3, h4, _, h5⟩ := dd'
  refine d_write I (by rw [hD]; exact True.intro) hs ⟨q, hq⟩ ⟨by omega, hd, _, (rel.put k hb rv).keeps fun c ys ec => ?_, q, es, ep, hq, h2, h3, h4, h5⟩
  rw [upd_ne (ne_of ec hD (fun z => nomatch z))]
  exact ec
/-- {k: v for tg in it if ..}, k a tuple: D the new dict -/
def tDcT (wi : TI) (g : TG) (tt : TT) (tk tv : TE) (vs : List Nat) : TE := fun σ H Q => wi σ H fun J H1 => ∀ D, H1 D = none → ∃ W : Nat → Nat → Hp → Prop, (∃ m, W 0 m (upd H1 D (.dT []))) ∧ ∀ i m H, W i m H →
  (J.stop i H ∧ Q (.ref D) H) ∨ (J.go i H ∧ ∃ Nx : Hp → Prop, (∀ H', Nx H' → ∃ m', m' < m ∧ W (i + 1) m' H') ∧ ∀ x H', J.yld i H x H' → g x (wipe σ vs) H' fun σ2 H2 => wipe σ2 vs = wipe σ vs ∧ tt σ2 H2 fun b H3 =>
    if b = true then tk σ2 H3 fun y H4 => tv σ2 H4 fun z H5 => ∃ kvs k b, y = .ref b ∧ H5 b = some (.tup (k.map kV)) ∧ H5 D = some (.dT kvs) ∧ kvs.length < sizeLine ∧ Nx (upd H5 D (.dT (putK kvs k z))) else Nx H3)
theorem dcT_core {pins : List (Addr × Obj)} {s : Shared} {σ : L2.St} {H : Hp} {Q : VK} {kx vx t0 i0 : Expr} {c0 : List Expr} {scope : Scope} {own : List (PySem.Str × Nat)} {pos pos' : Pos} {wi : TI} {g : TG} {tt : TT} {tk tv : TE} {use : Option (Value → Sem Unit)} {Qf : Value → Shared → Prop} (hc : X.calm = true) (hu : X.A.units + 64 < cLine) (hN : X.N.Nodup) (I : Inv X pins σ H s) (hi : PI X t0 i0 wi)
    (ok : BlkOk X.N X.env.scope scope own) (hg : Blk X scope fun Y => PG Y t0 g) (ht : Blk X scope fun Y => PTs Y c0 tt) (hk : Blk X scope fun Y => PE Y kx tk) (he : Blk X scope fun Y => PE Y vx tv) (hs : ∀ x, foldedSetIterable i0 X.env x = pure x) (h : tDcT wi g tt tk tv (own.map (·.2)) σ H Q)
    (back : ∀ D C s' m H', Inv X pins σ H' s' → Q (.ref D) H' → s'.heap.Ns C m → FpOk X pins H' C → compPost (model X.prog X.w) X.A X.xe use Qf (.ref D) C (.ok .next) s') :
    wpAny (model X.prog X.w) X.A (comprehension (.DictComp kx vx [⟨t0, i0, c0, 0⟩] scope pos) scope X.env pos' newDict false (eval i0 X.env) use) Qf X.xe s := by
  have free : ∀ y ∈ scope.names, y.2 = .free → ∃ c, X.env.cells.lookup y.1 = some c := fun y hy e => (ok.free y hy e).elim (fun k => I.ok.has _ (.inl k)) fun k => I.ok.has _ (.inr k)
  refine wpAny_comprehension_free (use := use) rfl hs (closure_ok free) ok.kind (fun y hy e => by rw [ok.uniq y hy, e]) (thn (hi.run pins s σ H _ I h) fun xv sa ha => thn ha fun iv sb hb => ?_)
  obtain ⟨it, fp, tn, J, Hb, e, Ib, T, stb, fpb, q⟩ := hb
  subst e
  refine wpAny_newObj_type (newEnv_comp ?_)
  obtain ⟨D, hD⟩ : ∃ D, sb.heap.objs.size = D := ⟨_, rfl⟩
  rw [hD]
  have nD : Hb D = none := Ib.hok.fresh (Nat.le_of_eq hD)
  obtain ⟨W, ⟨mm, ww⟩, turn⟩ := q D nD
  generalize hsc : ({ sb with heap := sb.heap.push { cls := .type "dict", data := .dict #[] } } : Shared) = sc
  have heq : sc.heap = sb.heap.push { cls := .type "dict", data := .dict #[] } := by rw [← hsc]
  have Ic : Inv X pins σ (upd Hb D (.dT [])) sc := by
    rw [← hsc]
    refine Ib.laid (t' := sb.toks) (fun b o e => Heap.get?_push_of_some _ e) (Nat.le_of_eq hD) ?_
    rw [← hD]
    exact dt_empty sb.heap Ib.big
  have lt : ∀ b ∈ fp, b < sb.heap.objs.size := fun b hb => by
    obtain ⟨o, e, _⟩ := T.obj _ _ stb b hb
    exact Heap.lt_size e
  have fpc : ∀ b ∈ fp, FpOk X pins (upd Hb D (.dT [])) b ∧ b < sc.heap.objs.size := fun b hb =>
    ⟨⟨by rw [upd_ne (by rw [← hD]; exact Nat.ne_of_lt (lt b hb))]; exact (fpb b hb).1, (fpb b hb).2⟩, by rw [heq, Heap.size_push]; exact Nat.lt_succ_of_lt (lt b hb)⟩
  have stc : tn 0 sc.heap := T.keep _ _ _ stb fun b _ o e => by rw [heq]; exact Heap.get?_push_of_some _ e
  have Id := block_start Ic ok hN fpc
  have Zg := hg sc (upd Hb D (.dT [])) sc.heap.objs.size (cellsFrom (sc.heap.objs.size + 1) scope.names (cloFrom X.env.cells scope.names [])) fp
  have Zt := ht sc (upd Hb D (.dT [])) sc.heap.objs.size (cellsFrom (sc.heap.objs.size + 1) scope.names (cloFrom X.env.cells scope.names [])) fp
  have Zk := hk sc (upd Hb D (.dT [])) sc.heap.objs.size (cellsFrom (sc.heap.objs.size + 1) scope.names (cloFrom X.env.cells scope.names [])) fp
  have Ze := he sc (upd Hb D (.dT [])) sc.heap.objs.size (cellsFrom (sc.heap.objs.size + 1) scope.names (cloFrom X.env.cells scope.names [])) fp
  show codeAny _ _ (.compStart (.DictComp kx vx [⟨t0, i0, c0, 0⟩] scope pos) 0 (.ref it) (.ref D) (compEnvC scope (cellsFrom (sc.heap.objs.size + 1) scope.names (cloFrom X.env.cells scope.names [])) sc.heap.objs.size X.env)) _ { sc with heap := pushCells (sc.heap.push { cls := .type "dict", data := .dict #[] }) scope.names }
  have bare : ∀ b ∈ fp, (upd Hb D (.dT [])) b = none := fun b hb => (fpc b hb).1.1
  generalize hce : compEnvC scope (cellsFrom (sc.heap.objs.size + 1) scope.names (cloFrom X.env.cells scope.names [])) sc.heap.objs.size X.env = ce at Id Zg Zt Zk Ze ⊢
  have loc : ce.locals = sc.heap.objs.size := by
    rw [← hce]
    rfl
  generalize hHc : upd Hb D (.dT []) = Hc at Ic Id Zg Zt Zk Ze ww bare fpc
  generalize hsd : ({ sc with heap := pushCells (sc.heap.push { cls := .type "dict", data := .dict #[] }) scope.names } : Shared) = sd at Id ⊢
  have std : tn 0 sd.heap := T.keep _ _ _ stc fun b _ o e => by
    rw [← hsd]
    exact pushCells_keeps _ _ _ _ (Heap.get?_push_of_some _ e)
  have okF : ∀ {σ' : L2.St} {H' : Hp} {s' : Shared}, Inv (X.blk sc Hc scope ce fp) [] σ' H' s' → (∀ b ∈ fp, H' b = none) → ∀ b ∈ fp, FpOk (X.blk sc Hc scope ce fp) [] H' b := fun {_ _ _} I' nn b hb =>
    ⟨nn b hb, (I'.ok.exf b hb).1, I'.ok.exfs b hb, .inl hb, (fun x c e => (I'.ok.exf b hb).2 x c e), fun p hp => by cases hp⟩
  obtain ⟨vs, evs⟩ : ∃ vs, own.map (·.2) = vs := ⟨_, rfl⟩
  rw [evs] at turn
  let Mid : Nat → Shared → Prop := fun n s' => ∃ i H', Inv (X.blk sc Hc scope ce fp) [] (wipe σ vs) H' s' ∧ tn i s'.heap ∧ (∀ b ∈ fp, H' b = none) ∧ W i n H'
  have Id' : Inv (X.blk sc Hc scope ce fp) [] (wipe σ vs) Hc sd := by
    rw [← evs]
    exact Id
  refine codeAny_compStart_dict ?_ (T.self X.A 0 _ _ _ std ?_)
  all_goals
    refine compLoop_anyD Mid ?_ mm ⟨0, Hc, Id', std, bare, ww⟩
    rintro n se ⟨i, He, Ie, ste, ne, we⟩
    rcases turn i n He we with ⟨stop, qq⟩ | ⟨go, Nx, hNx, step⟩
    · refine thnF (T.done (X.blk sc Hc scope ce fp) rfl rfl rfl hc i [] se _ He (fun _ _ => False) Ie (okF Ie ne) ste stop) fun r sf ⟨hr, If⟩ => ?_
      subst hr
      have Ig : Inv X pins σ He sf := Ic.call' (ch := fp) If.os If.base If.hok If.bare fun b hb => ⟨(fpc b hb).1.2.2.2.1, (fpc b hb).1.2.1, (fpc b hb).1.2.2.2.2.1, (fpc b hb).1.2.2.2.2.2⟩
      have nC : He sc.heap.objs.size = none := by
        rw [← loc]
        exact If.free
      obtain ⟨m, hn, _⟩ := If.loc
      have hn' : sf.heap.Ns sc.heap.objs.size m := by
        rw [← loc]
        exact hn
      exact back D sc.heap.objs.size sf m He Ig qq hn' (Ic.fpOk (Nat.le_refl _) nC)
    · refine thnF (T.item (X.blk sc Hc scope ce fp) rfl rfl rfl hc i [] se _ He (fun _ _ => False) Ie (okF Ie ne) ste go) fun r sf ⟨u, hr, hf⟩ => ?_
      subst hr
      refine thnF hf fun _ sg ⟨x, Hg, Ig, rg, yg, stg, ng⟩ => ?_
      refine thnF (Zg.run _ sg _ Hg x u _ (Ig.pinned (okF Ig ng) (T.obj _ _ stg)) rg (step x Hg yg)) fun _ sh ⟨σh, Hh, Ih, wh, qh⟩ => ?_
      refine thnF (Zt.run _ sh σh Hh _ Ih qh) fun b sk ⟨Hk, Ik, qk⟩ => ?_
      have end0 : ∀ {s' : Shared} {H' : Hp}, Inv (X.blk sc Hc scope ce fp) ([] ++ pinsAt fp sg.heap) σh H' s' → Nx H' → ∃ m, m < n ∧ Mid m s' := fun {s' H'} I' nx => by
        obtain ⟨m', hm, w'⟩ := hNx H' nx
        have pinned : ∀ b ∈ fp, ∀ o, sg.heap.get? b = some o → s'.heap.get? b = some o ∧ H' b = none := fun b hb o e => by
          have z := I'.pin (b, o) (List.mem_append_right _ (List.mem_append_right _ (mem_pinsAt hb e)))
          exact ⟨z.1, z.2.1⟩
        refine ⟨m', hm, i + 1, H', (I'.unpinned (pins := [])).weak (by rw [← wh, wipe_length]) (fun j v e => (wipe_some (by rw [wh]; exact e)).1), T.keep _ _ _ stg fun b hb o e => (pinned b hb o e).1, fun b hb => ?_, w'⟩
        obtain ⟨o, e, _⟩ := T.obj _ _ stg b hb
        exact (pinned b hb o e).2
      match b, qk with
      | false, qk => exact end0 Ik qk
      | true, qk =>
        refine thnF (Zk.run _ sk σh Hk _ Ik qk) fun yk sl ⟨y, Hl, Il, ry, ql⟩ => ?_
        refine thnF (Ze.run _ sl σh Hl _ Il ql) fun zv sm ⟨z, Hm, Im, rz, kvs, kk, bb, ey, hb', hDm, few, nx⟩ => ?_
        subst ey
        cases ry
        exact dictSetT_ok (X := X.blk sc Hc scope ce fp) Im hu hDm few hb' rz fun sn In => end0 In nx
theorem pe_dcT {kx vx t0 i0 : Expr} {c0 : List Expr} {scope : Scope} {own : List (PySem.Str × Nat)} {pos : Pos} {wi : TI} {g : TG} {tt : TT} {tk tv : TE} (hc : X.calm = true) (hu : X.A.units + 64 < cLine) (hN : X.N.Nodup) (hi : PI X t0 i0 wi)
    (ok : BlkOk X.N X.env.scope scope own) (hg : Blk X scope fun Y => PG Y t0 g) (ht : Blk X scope fun Y => PTs Y c0 tt) (hk : Blk X scope fun Y => PE Y kx tk) (he : Blk X scope fun Y => PE Y vx tv) (hs : ∀ x, foldedSetIterable i0 X.env x = pure x := by intro _; rfl) :
    PE X (.DictComp kx vx [⟨t0, i0, c0, 0⟩] scope pos) (tDcT wi g tt tk tv (own.map (·.2))) := by
  refine ⟨fun pins s σ H Q I h => ?_⟩
  rw [arm_eval_DictComp]
  refine dcT_core hc hu hN I hi ok hg ht hk he hs h fun D C s' m H' I' q hn f => ⟨m, hn, fun h2 sb => ?_⟩
  obtain ⟨f0, f1, f2, f3, f4, f5⟩ := f
  exact ⟨.ref D, H', I'.turned (t' := s'.toks) (fun b o hb e => (sb.2 b hb).trans e) f0 f1 f3 f4 f5, rfl, q⟩
/-- the name takes the place of the comprehension's own -/
theorem swD {kx vx : Expr} {gs : List Comprehension} {scope : Scope} {pos py : Pos} {y : PySem.Str} {l : Nat} {env : Env} (hk : env.scope.kind = .function) (hy : env.scope.names.lookup y = some .local) (hl : (py.line == pos.line) = true) (ha : (scope.names.any fun (n, k) => n == y && (k == .local || k == .cell)) = false) :
    swapsWith (.DictComp kx vx gs scope pos) (some (.Name y py)) l env = pure true := by
  have e1 : env.kindOf y = some .local := hy
  have e2 : env.blockKind = .function := by
    unfold Env.blockKind
    rw [hk]
    rfl
  unfold swapsWith
  simp only [e2, e1, ha, Expr.pos, hl]
  rfl
section
variable {i : Nat} {y : PySem.Str} {py : Pos} {kx vx t0 i0 : Expr} {c0 : List Expr} {scope : Scope} {own : List (PySem.Str × Nat)} {pos spos : Pos} {wi : TI} {g : TG} {tt : TT} {tk tv : TE}
/-- a name stored from a comprehension: the way back -/
theorem store_back {pins : List (Addr × Obj)} {σ : L2.St} {D : Ends} (hN : X.N.Nodup) (hy : X.N[i]? = some y) (hyl : X.env.scope.names.lookup y = some .local) (L C : Addr) (s' : Shared) (m : PySem.Str → Option Value) (H' : Hp) (I' : Inv X pins σ H' s') (q : gName i (.ref L) σ H' D.nx) (hn : s'.heap.Ns C m) (f : FpOk X pins H' C) :
    compPost (model X.prog X.w) X.A X.xe (some (assign (.Name y py) X.env)) (fun _ s' => SP X pins D .next s') (.ref L) C (.ok .next) s' := by
  show wpAny _ _ (assign (.Name y py) X.env (.ref L)) _ _ _
  refine wpAny_assign_Name (store_ok2 (v := V.ref L) I' hN hy (.inl hyl) rfl (fun s2 I2 ⟨a, sb, ha⟩ => ?_) (.inr hyl))
  obtain ⟨f0, f1, f2, f3, f4, f5⟩ := f
  have ne : C ≠ a := by
    rcases ha with z | z
    · rw [z]
      exact f1
    · exact fun e => f4 y a z e.symm
  exact ⟨m, hn.sameBut sb ne, fun h3 sb3 => ⟨_, H', I2.turned (t' := s2.toks) (fun b o hb e => (sb3.2 b hb).trans e) f0 f1 f3 f4 f5, q⟩⟩
theorem ps_setDc (hc : X.calm = true) (hN : X.N.Nodup) (hy : X.N[i]? = some y) (hyl : X.env.scope.names.lookup y = some .local) (hsw : swapsWith (.DictComp kx vx [⟨t0, i0, c0, 0⟩] scope pos) (some (.Name y py)) spos.line X.env = pure true) (hi : PI X t0 i0 wi)
    (ok : BlkOk X.N X.env.scope scope own) (hg : Blk X scope fun Y => PG Y t0 g) (ht : Blk X scope fun Y => PTs Y c0 tt) (hk : Blk X scope fun Y => PE Y kx tk) (he : Blk X scope fun Y => PE Y vx tv) (hs : ∀ x, foldedSetIterable i0 X.env x = pure x := by intro _; rfl) :
    PS X (.Assign [.Name y py] (.DictComp kx vx [⟨t0, i0, c0, 0⟩] scope pos) spos) (tAsg (tDc wi g tt tk tv (own.map (·.2))) (gName i)) := by
  refine ⟨fun pins s σ H D I h => ?_⟩
  rw [exec_Assign_Name_used _ _ _ _ hsw]
  refine wpAny_bind (wpAny_standAt (wpAny_bind ?_))
  show wpAny _ X.A (do let _ ← comprehension (.DictComp kx vx [⟨t0, i0, c0, 0⟩] scope pos) scope X.env (firstIterPos [⟨t0, i0, c0, 0⟩] pos) newDict false (eval i0 X.env) (some (assign (.Name y py) X.env))) _ _ s
  have h' : tDc wi g tt tk tv (own.map (·.2)) σ H (fun x H1 => gName i x σ H1 D.nx) := h
  exact wpAny_bind (thn (dc_core (Qf := fun _ s' => SP X pins D .next s') hc hN I hi ok hg ht hk he hs h' (store_back hN hy hyl)) fun _ s' hq => wpAny_pure (wpAny_pure hq))
end
end
end Wb
namespace Wb
open PySem PySem.Spec PyProof.Rows L2
/-- a permutation of images is the image of a permutation -/
theorem perm_lift {α β : Type} {f : α → β} {l x : List β} (h : l.Perm x) : ∀ {m : List α}, x = m.map f → ∃ m' : List α, l = m'.map f ∧ m'.Perm m := by
  induction h with
  | nil =>
    intro m e
    have : m = [] := List.map_eq_nil_iff.mp e.symm
    subst this
    exact ⟨[], rfl, .refl _⟩
  | cons a _ ih =>
    intro m e
    match m, e with
    | b :: m, e =>
      obtain ⟨e1, e2⟩ := List.cons.inj e
      obtain ⟨m', e3, p⟩ := ih e2
      exact ⟨b :: m', by rw [List.map_cons, e1, e3], p.cons b⟩
  | swap a b l =>
    intro m e
    match m, e with
    | u :: w :: m, e =>
      obtain ⟨e1, e2⟩ := List.cons.inj e
      obtain ⟨e3, e4⟩ := List.cons.inj e2
      exact ⟨w :: u :: m, by rw [List.map_cons, List.map_cons, e1, e3, e4], .swap _ _ _⟩
  | trans _ _ ih1 ih2 =>
    intro m e
    obtain ⟨m1, e1, p1⟩ := ih2 e
    obtain ⟨m2, e2, p2⟩ := ih1 e1
    exact ⟨m2, e2, p2.trans p1⟩
/-- the keys as tuples of numbers -/
def intKeys (kvs : List (List L2.Key × V)) (ks : List (List Int)) : Prop := kvs.map (·.1) = ks.map fun k => k.map Sum.inl
theorem kV_ints (k : List Int) : (k.map (Sum.inl : Int → L2.Key)).map kV = k.map V.int := by
  rw [List.map_map]
  rfl
theorem kt_pairs {H : Hp} : ∀ {kvs : List (List L2.Key × V)} {xs : List (List L2.Key × Addr × Value)} {ks : List (List Int)}, KT H kvs xs → intKeys kvs ks → ∃ L : List (Addr × List Int), xs.map (fun x => x.2.1) = L.map (·.1) ∧ ks = L.map (·.2) ∧ ∀ p ∈ L, H p.1 = some (.tup (p.2.map V.int))
  | [], _, ks, h, e => by
    cases h
    have : ks = [] := List.map_eq_nil_iff.mp (show List.map _ ks = [] from e.symm)
    subst this
    exact ⟨[], rfl, rfl, fun p hp => nomatch hp⟩
  | kv :: kvs, _, ks, h, e => by
    cases h with
    | cons a b =>
      rename_i x xs
      match ks, e with
      | k :: ks, e =>
        obtain ⟨e1, e2⟩ := List.cons.inj e
        obtain ⟨L, h1, h2, h3⟩ := kt_pairs b e2
        refine ⟨(x.2.1, k) :: L, by rw [List.map_cons, List.map_cons, h1], by rw [List.map_cons, h2], fun p hp => ?_⟩
        rcases List.mem_cons.mp hp with rfl | hp
        · have e1' : kv.1 = k.map Sum.inl := e1
          have := a.2.1
          rw [e1', kV_ints] at this
          exact this
        · exact h3 p hp
section
variable {X : Cx}
def rSortedDT : List V → Hp → VK → Prop := fun vs H Q => ∃ (d : Addr) (kvs : List (List L2.Key × V)) (ks : List (List Int)) (n : Nat) (B : Int), vs = [V.ref d] ∧ Rd H d (.dT kvs) ∧ intKeys kvs ks ∧ ks.length < 64 ∧ 1 ≤ n ∧ (∀ k ∈ ks, k.length = n ∧ TS.Bd B k) ∧
  ∀ (L : List (Addr × List Int)) (p : Addr), (L.map (·.2)).Perm ks → (∀ q ∈ L, H q.1 = some (.tup (q.2.map V.int))) → L.Pairwise (fun q r => TS.code B q.2 ≤ TS.code B r.2) → H p = none → Q (.ref p) (upd H p (.lst (L.map fun q => V.ref q.1)))
theorem cr_sortedDT (hc : X.calm = true) : CallR X (.builtin "sorted") rSortedDT := by
  intro pins s σ H vs us Q I r h
  obtain ⟨d, kvs, ks, n, B, rfl, hd, hk, few, n1, hB, q⟩ := h
  rw [Vals.ref1 r]
  obtain ⟨z, hs, xs, pr, o, es, ep, ho, hx, hdt, he, hn⟩ := (show ObjOk X.prog X.w H s.heap d (.dT kvs) from hd.ok I.hok)
  obtain ⟨L, eL, rfl, hL⟩ := kt_pairs pr hk
  have lx : xs.length = L.length := by
    have := congrArg List.length eL
    simpa using this
  rw [List.length_map] at few
  have les : es.size = xs.length := size_of_entries he
  refine Calls.call_function_entry PyProof.Rows.kind_sorted PyProof.Rows.plain_sorted PyProof.Rows.entry_sorted (PyProof.Rows.args_sorted1 _) ?_
  unfold Builtin.«sorted»
  refine wpAny_bind (m := checkCount "sorted" 1 1 _) (wpAny_pure (wpAny_bind (PySem.W.kdu_collect (A := X.A.in1) (kdl_raw hs hx hdt) (I.ok.hd hc) ho (by rw [sizeLine_eq]; omega) fun h1 tk acc hh it => ?_)))
  have ea : acc.toList = L.map fun p => Value.ref p.1 := by
    have la : acc.toList.length = xs.length := by
      rw [Array.length_toList, it.1]
      exact les
    have e0 : acc.toList = (xs.map fun x => x.2.1).map Value.ref := by
      apply List.ext_getElem?
      intro j
      cases hj : acc.toList[j]? with
      | none =>
        have := List.getElem?_eq_none_iff.mp hj
        rw [List.getElem?_eq_none (by rw [List.length_map, List.length_map]; omega)]
      | some v =>
        obtain ⟨en, hen, hv⟩ := it.2 j v (by rw [← Array.getElem?_toList]; exact hj)
        have qe := entry_at he j
        rw [hen] at qe
        cases hb : xs[j]? with
        | none =>
          rw [hb] at qe
          cases qe
        | some b =>
          rw [hb] at qe
          rw [hv, List.getElem?_map, List.getElem?_map, hb, Option.some.inj (show some en = some (entryOfKey (tupleKind (mixKind X.prog X.w)) b) from qe)]
          rfl
    rw [e0, eL, List.map_map]
    rfl
  rw [ea]
  have hlt : (L.map fun p => Value.ref p.1).length < 64 := by
    rw [List.length_map]
    exact few
  refine wpAny_bind (wpAny_newList ?_ (by rw [sizeLine_eq]; omega))
  have hoL : (h1.push (seqObj "list" (L.map fun p => Value.ref p.1).toArray 0)).get? h1.objs.size = some (seqObj "list" (L.map fun p => Value.ref p.1).toArray 0) := Heap.get?_push_size _ rfl
  have tI : ∀ p ∈ L, TS.TupInts (h1.push (seqObj "list" (L.map fun p => Value.ref p.1).toArray 0)) (.ref p.1) p.2 := fun p hp =>
    tupInts_of (P := X.prog) (w := X.w) (isT_keep (I.isT (SqT.of (K := X.K) (hL p hp))) fun b u e => Heap.get?_push_of_some _ (hh b u e))
  have ok : TS.TupsOk (h1.push (seqObj "list" (L.map fun p => Value.ref p.1).toArray 0)) n B (L.map fun p => Value.ref p.1) := fun v hv => by
    obtain ⟨p, hp, rfl⟩ := List.mem_map.mp hv
    exact ⟨p.2, tI p hp, hB p.2 (List.mem_map.mpr ⟨p, hp, rfl⟩)⟩
  show wpAny _ _ _ _ _ { s with heap := h1.push (seqObj "list" (L.map fun p => Value.ref p.1).toArray 0), toks := tk }
  refine wpAny_bind (wpAny_holding (TS.call_sort_tups (s := { s with heap := h1.push (seqObj "list" (L.map fun p => Value.ref p.1).toArray 0), toks := tk }) hoL hlt n1 ok fun out a1 a2 => ?_))
  obtain ⟨c, hcc⟩ := sortedHeap_at (vs := L.map fun p => Value.ref p.1) (out := out) hoL
  obtain ⟨L', e', pm⟩ := perm_lift a1 rfl
  have mem : ∀ p ∈ L', p ∈ L := fun p hp => pm.mem_iff.mp hp
  have pw : L'.Pairwise (fun q r => TS.code B q.2 ≤ TS.code B r.2) := by
    rw [e'] at a2
    refine List.Pairwise.imp_of_mem (fun {q r} hq hr hle => ?_) (List.pairwise_map.mp a2)
    rw [← (tI q (mem q hq)).ints, ← (tI r (mem r hr)).ints]
    exact hle
  have I1 : Inv X pins σ H { s with heap := h1, toks := tk } := I.kept hh
  have kp : ∀ b u, h1.get? b = some u → (sortedHeap (h1.push (seqObj "list" (L.map fun p => Value.ref p.1).toArray 0)) h1.objs.size (L.map fun p => Value.ref p.1) out).get? b = some u := fun b u e => by
    have lt := Heap.lt_size e
    rw [sortedHeap_old (Nat.ne_of_lt lt) (by rw [size_push']; exact Nat.lt_succ_of_lt lt)]
    exact Heap.get?_push_of_some _ e
  have vl : Vals (L'.map fun q => V.ref q.1) out.toList := by
    rw [e']
    exact vals_of_refs L'
  have len' : (L'.map fun q => V.ref q.1).length ≤ sizeLine := by
    rw [List.length_map, pm.length_eq, sizeLine_eq]
    omega
  refine wpAny_pure ⟨_, rfl, .ref h1.objs.size, _, I1.laid (t' := tk) (o := .lst (L'.map fun q => V.ref q.1)) kp (Nat.le_refl _) ⟨len', out.toList, c, vl, ?_⟩, rfl, q L' _ (pm.map _) (fun p hp' => hL p (mem p hp')) pw (I1.hok.fresh (Nat.le_refl _))⟩
  rw [Array.toArray_toList]
  exact hcc
end
end Wb
namespace Wb
open PySem PySem.Spec PyProof.Rows L2
end Wb
namespace Wb
open PySem PySem.Spec PyProof.Rows L2
section
variable {X : Cx}
/-- if d -/
def rTruT (x : V) (H : Hp) (Q : Bool → Hp → Prop) : Prop := ∃ (a : Addr) (kvs : List (List L2.Key × V)), x = .ref a ∧ H a = some (.dT kvs) ∧ Q (!kvs.isEmpty) H
theorem tru_dT : TruR X rTruT := by
  intro pins s σ H x v Q I rx h
  obtain ⟨a, kvs, rfl, ha, q⟩ := h
  cases rx
  obtain ⟨z, hd, ys, rel, dd⟩ := dt_of I.hok ha
  have l : kvs.length = ys.length := Paired.length rel
  have fit : (ys.length : Int) < 2 ^ 63 := by
    rw [sizeLine_eq] at z
    omega
  have ne : ((ys.length : Int) != 0) = !kvs.isEmpty := by
    rw [← l]
    cases kvs <;> simp <;> omega
  have ty : s.TypeIs (.ref a) "dict" := by
    obtain ⟨o, es, ep, ho, hx, _⟩ := dd
    exact ⟨o, ho, hx.1⟩
  have key : wpAny (model X.prog X.w) X.A (runValue (.builtin "len" ⟨[.ref a], []⟩)) (fun r s' => r = .int ys.length (s.toks + 1) ∧ TP X pins σ Q (!kvs.isEmpty) s') X.xe s := by
    refine wpAny_runValue (codeAny_builtin entry_len ?_)
    rw [Around.under_plainId plain_len _]
    exact wpAny_mono (wpAny_len_body_dictH (Q := fun r s' => r = .int ys.length (s.toks + 1) ∧ TP X pins σ Q (!kvs.isEmpty) s') hd dd fit ⟨rfl, H, I.tok _, q⟩) (fun fin s' hf => by obtain ⟨r, rfl, hq⟩ := hf; exact hq) fun _ _ e => e
  unfold truthy
  first
    | refine wpAny_bind (wpAny_callSpecial?_none (name := Str.ofString "__bool__") ty noBool_dict ?_)
    | refine wpAny_bind (wpAny_pure (wpAny_bind (wpAny_callSpecial?_none (name := Str.ofString "__bool__") ty noBool_dict ?_)))
  first
    | refine wpAny_bind (wpAny_specialOf (name := Str.ofString "__len__") ty F.slot_dict_len.lookup ?_)
    | refine wpAny_bind (wpAny_pure (wpAny_bind (wpAny_specialOf (name := Str.ofString "__len__") ty F.slot_dict_len.lookup ?_)))
  first
    | exact wpAny_bind (wpAny_mono key (fun r s' hf => by obtain ⟨rfl, hq⟩ := hf; exact wpAny_pure (ne ▸ hq)) fun _ _ e => e)
    | exact wpAny_bind (wpAny_pure (wpAny_bind (wpAny_mono key (fun r s' hf => by obtain ⟨rfl, hq⟩ := hf; exact wpAny_pure (ne ▸ hq)) fun _ _ e => e)))
end
end Wb
namespace Wb
open PySem PySem.Spec PyProof.Rows L2
section
variable {X : Cx}
theorem kt_val {H : Hp} : ∀ {kvs : List (List L2.Key × V)} {xs : List (List L2.Key × Addr × Value)} {ns : List Int}, KT H kvs xs → kvs.map Prod.snd = ns.map V.int → ∀ (i : Nat) x, xs[i]? = some x → ∃ t, x.2.2 = .int (ns.getD i 0) t
  | [], _, _, h, e, i, x, hx => by
    cases h
    cases hx
  | kv :: kvs, _, ns, h, e, i, x, hx => by
    cases h with
    | cons a b =>
      match ns, e with
      | n :: ns, e =>
        obtain ⟨e1, e2⟩ := List.cons.inj e
        cases i with
        | zero =>
          cases hx
          have r := a.2.2
          rw [e1] at r
          exact r
        | succ i => exact kt_val b e2 i x hx
end
end Wb
namespace Wd
open PySem L2 Wb
section
variable {C : Cl} {fr : Bool} {K : PySem.W.Frag} {B : Bs} {ti : TI} {ta tb te tk tv tx : TE} {f f' fe fk fv fx : FE} {fi : En → Option (List D)} {t : TA} {fs : En → Option (List D)} {tt : TT} {ft : En → Option Bool} {ts us : L2.TS} {p q : FS}
def gLen : List D → Option D
  | [d] => d.items.bind fun l => some (.int (l.length : Nat))
  | _ => none
theorem rps1 {G : Hp} {xs : List V} {d : D} (h : Rps C G xs [d]) : ∃ x, xs = [x] ∧ Rp C G x d := by
  cases h with
  | cons a b =>
    cases b
    exact ⟨_, rfl, a⟩
theorem rps2 {G : Hp} {xs : List V} {d e : D} (h : Rps C G xs [d, e]) : ∃ x y, xs = [x, y] ∧ Rp C G x d ∧ Rp C G y e := by
  cases h with
  | cons a b =>
    obtain ⟨y, rfl, r⟩ := rps1 b
    exact ⟨_, y, rfl, a, r⟩
theorem rd_len : RDs C (rLenS K) gLen := fun H G xs ds z s r h Q q => by
  unfold gLen at h
  split at h
  · obtain ⟨l, h1, h⟩ := obind h
    cases h
    obtain ⟨x, rfl, r1⟩ := rps1 r
    obtain ⟨a, ys, rfl, hs, rs⟩ := r1.items (K := K) s h1
    exact ⟨a, ys, rfl, hs, q _ H G (Ext.refl s) (by rw [rs.len]; exact .int _)⟩
  · cases h
def gList : List D → Option D
  | [d] => d.items.bind fun l => some (.lst l)
  | _ => none
/-- list(x), held by none else -/
theorem df_list (ht : DA C fr t fs) : DF C fr (tCB (rListOf K) t) (mS gList fs) := fun B σ H G ρ bf k d h Q q => by
  obtain ⟨ds, e1, h⟩ := obind h
  refine ht B σ H G ρ bf k ds e1 _ fun vs H1 G1 e2 r => ?_
  unfold gList at h
  split at h
  · obtain ⟨l, h1, h⟩ := obind h
    cases h
    obtain ⟨x, rfl, r1⟩ := rps1 r
    obtain ⟨a, ys, rfl, hs, rs⟩ := r1.items (K := K) e2.sub h1
    refine ⟨a, ys, rfl, hs, fun p hp => q p _ G1 (e2.newH hp _) ?_ (e2.sub.none hp) (.lst upd_same rs)⟩
    exact e2.free hp
  · cases h
def gTup : List D → Option D
  | [d] => d.items.bind fun l => some (.tup l)
  | _ => none
theorem rd_tuple : RDs C (rTupOf K) gTup := fun H G xs ds z s r h Q q => by
  unfold gTup at h
  split at h
  · obtain ⟨l, h1, h⟩ := obind h
    cases h
    obtain ⟨x, rfl, r1⟩ := rps1 r
    cases r1 with
    | tup e rs =>
      cases h1
      exact ⟨_, _, rfl, .inr ⟨SqT.of (s.tup e), q _ H G (Ext.refl s) (.tup e rs)⟩⟩
    | lst e rs =>
      cases h1
      exact ⟨_, _, rfl, .inl ⟨SqL.of (s.lst e), fun p hp => q _ _ _ ((Ext.refl s).new hp _) (.tup upd_same (rs.mono (same_newG (s.none hp) _)))⟩⟩
    | _ => cases h1
  · cases h
def gMax2 : List D → Option D
  | [.int i, .int j] => some (.int (if j > i then j else i))
  | _ => none
def gMin2 : List D → Option D
  | [.int i, .int j] => some (.int (if j < i then j else i))
  | _ => none
theorem rd_max2 : RDs C (fun xs H Q => ∃ i j, xs = [.int i, .int j] ∧ Q (.int (if j > i then j else i)) H) gMax2 := fun H G xs ds z s r h Q q => by
  unfold gMax2 at h
  split at h
  · cases h
    obtain ⟨x, y, rfl, r1, r2⟩ := rps2 r
    cases r1
    cases r2
    exact ⟨_, _, rfl, q _ H G (Ext.refl s) (.int _)⟩
  · cases h
theorem rd_min2 : RDs C (fun xs H Q => ∃ i j, xs = [.int i, .int j] ∧ Q (.int (if j < i then j else i)) H) gMin2 := fun H G xs ds z s r h Q q => by
  unfold gMin2 at h
  split at h
  · cases h
    obtain ⟨x, y, rfl, r1, r2⟩ := rps2 r
    cases r1
    cases r2
    exact ⟨_, _, rfl, q _ H G (Ext.refl s) (.int _)⟩
  · cases h
/-- lists of numbers, of truths -/
def unI : D → Option Int
  | .int i => some i
  | _ => none
def unIs : List D → Option (List Int)
  | [] => some []
  | d :: ds => (unI d).bind fun i => (unIs ds).bind fun r => some (i :: r)
def unB : D → Option Bool
  | .bl b => some b
  | _ => none
def unBs : List D → Option (List Bool)
  | [] => some []
  | d :: ds => (unB d).bind fun i => (unBs ds).bind fun r => some (i :: r)
theorem unIs_eq : ∀ {ds : List D} {ns : List Int}, unIs ds = some ns → ds = ns.map D.int
  | [], _, h => by cases h; rfl
  | d :: ds, _, h => by
    unfold unIs at h
    obtain ⟨i, h1, h⟩ := obind h
    obtain ⟨r, h2, h⟩ := obind h
    cases h
    rw [unIs_eq h2]
    cases d <;> cases h1
    rfl
theorem unBs_eq : ∀ {ds : List D} {ns : List Bool}, unBs ds = some ns → ds = ns.map D.bl
  | [], _, h => by cases h; rfl
  | d :: ds, _, h => by
    unfold unBs at h
    obtain ⟨i, h1, h⟩ := obind h
    obtain ⟨r, h2, h⟩ := obind h
    cases h
    rw [unBs_eq h2]
    cases d <;> cases h1
    rfl
theorem rps_bls {G : Hp} : ∀ {ns : List Bool} {vs : List V}, Rps C G vs (ns.map D.bl) → vs = ns.map V.bl
  | [], _, h => by cases h; rfl
  | n :: ns, _, h => by
    cases h with
    | cons a b =>
      cases a
      rw [rps_bls b, List.map_cons]
def minI : List Int → Option Int
  | [] => none
  | n :: ns => match minI ns with
    | none => some n
    | some m => some (if m ≤ n then m else n)
theorem minI_none : ∀ {ns : List Int}, minI ns = none → ns = []
  | [], _ => rfl
  | n :: ns, h => by
    unfold minI at h
    split at h <;> cases h
theorem minI_is : ∀ {ns : List Int} {m : Int}, minI ns = some m → m ∈ ns ∧ ∀ y ∈ ns, m ≤ y
  | [], _, h => by cases h
  | n :: ns, m, h => by
    unfold minI at h
    split at h
    · rename_i e
      cases h
      rw [minI_none e]
      simp
    · rename_i m' e
      cases h
      obtain ⟨h1, h2⟩ := minI_is e
      split
      · exact ⟨List.mem_cons_of_mem _ h1, fun y hy => (List.mem_cons.mp hy).elim (fun z => by omega) (h2 y)⟩
      · exact ⟨List.mem_cons_self, fun y hy => (List.mem_cons.mp hy).elim (fun z => by omega) fun z => by have := h2 y z; omega⟩
def gMinL : List D → Option D
  | [.lst ds] => (unIs ds).bind fun ns => (minI ns).bind fun m => some (.int m)
  | _ => none
theorem pos_of_mem {ns : List Int} {m : Int} (h : m ∈ ns) : 0 < ns.length := List.length_pos_of_mem h
theorem rd_minL : RDs C (rMin K) gMinL := fun H G xs ds z s r h Q q => by
  unfold gMinL at h
  split at h
  · obtain ⟨ns, h1, h⟩ := obind h
    obtain ⟨m, h2, h⟩ := obind h
    cases h
    obtain ⟨x, rfl, r1⟩ := rps1 r
    obtain ⟨a, ys, rfl, hx, rs⟩ := rp_lst r1
    rw [unIs_eq h1] at rs
    obtain ⟨h3, h4⟩ := minI_is h2
    refine ⟨a, ns, rfl, by rw [← rs.ints]; exact SqL.of (s.lst hx), pos_of_mem h3, fun m' h5 h6 => ?_⟩
    have e : m' = m := Int.le_antisymm (h6 m h3) (h4 m' h5)
    subst e
    exact q _ H G (Ext.refl s) (.int _)
  · cases h
def gAll : List D → Option D
  | [.lst ds] => (unBs ds).bind fun ns => some (.bl (ns.all id))
  | _ => none
def gAny : List D → Option D
  | [.lst ds] => (unBs ds).bind fun ns => some (.bl (ns.any id))
  | _ => none
theorem rd_all : RDs C (rAll K) gAll := fun H G xs ds z s r h Q q => by
  unfold gAll at h
  split at h
  · obtain ⟨ns, h1, h⟩ := obind h
    cases h
    obtain ⟨x, rfl, r1⟩ := rps1 r
    obtain ⟨a, ys, rfl, hx, rs⟩ := rp_lst r1
    rw [unBs_eq h1] at rs
    exact ⟨a, ns, rfl, by rw [← rps_bls rs]; exact SqL.of (s.lst hx), q _ H G (Ext.refl s) (.bl _)⟩
  · cases h
theorem rd_any : RDs C (rAny K) gAny := fun H G xs ds z s r h Q q => by
  unfold gAny at h
  split at h
  · obtain ⟨ns, h1, h⟩ := obind h
    cases h
    obtain ⟨x, rfl, r1⟩ := rps1 r
    obtain ⟨a, ys, rfl, hx, rs⟩ := rp_lst r1
    rw [unBs_eq h1] at rs
    exact ⟨a, ns, rfl, by rw [← rps_bls rs]; exact SqL.of (s.lst hx), q _ H G (Ext.refl s) (.bl _)⟩
  · cases h
def ownL (i : Nat) (ρ : En) : Option (List D) := match ρ[i]? with
  | some (some (.own (.lst ds))) => some ds
  | _ => none
def ownDc (i : Nat) (ρ : En) : Option (Bool × List D × List D) := match ρ[i]? with
  | some (some (.own (.dic t ks vs))) => some (t, ks, vs)
  | _ => none
theorem ownL_eq {i : Nat} {ρ : En} {ds : List D} (h : ownL i ρ = some ds) : ρ[i]? = some (some (.own (.lst ds))) := by
  unfold ownL at h
  split at h
  · rename_i e
    cases h
    exact e
  · cases h
theorem ownD_eq {i : Nat} {ρ : En} {x : Bool × List D × List D} (h : ownDc i ρ = some x) : ρ[i]? = some (some (.own (.dic x.1 x.2.1 x.2.2))) := by
  unfold ownDc at h
  split at h
  · rename_i e
    cases h
    exact e
  · cases h
theorem ok_ownL {σ : L2.St} {H G : Hp} {ρ : En} (k : Ok B C σ H G ρ) {i : Nat} {ds : List D} (h : ownL i ρ = some ds) : ∃ a vs, σ[i]? = some (some (.ref a)) ∧ H a = some (.lst vs) ∧ Rps C G vs ds ∧ G a = none := by
  have e := ownL_eq h
  obtain ⟨oa, w⟩ := k
  obtain ⟨v, h1, h2⟩ := w.sl i _ e
  have h3 : ∀ a, a ∈ oa i → G a = none := fun a m => (w.hid i _ a e m).1
  generalize oa i = l at h2 h3
  cases h2 with
  | lst ea r => exact ⟨_, _, h1, ea, r, h3 _ (List.mem_singleton_self _)⟩
def mOwnIx (i : Nat) (f : FE) : FE := fun ρ => (f ρ).bind fun e => (ownL i ρ).bind fun ds => gIx (.lst ds) e
theorem own_ix {σ : L2.St} {H G : Hp} {ρ : En} (k : Ok B C σ H G ρ) {i : Nat} {ds : List D} {e z : D} (h : ownL i ρ = some ds) (hz : gIx (.lst ds) e = some z) {y : V} (r : Rp C G y e) : ∃ a xs j v, σ[i]? = some (some (.ref a)) ∧ H a = some (.lst xs) ∧ y = .int j ∧ atI xs j = some v ∧ Rp C G v z := by
  obtain ⟨a, vs, h1, h2, h3, _⟩ := ok_ownL k h
  cases e with
  | int j =>
    have hz' : atI ds j = some z := hz
    cases r
    obtain ⟨v, h4, h5⟩ := h3.at hz'
    exact ⟨a, vs, _, v, h1, h2, rfl, h4, h5⟩
  | _ => cases hz
theorem de_ixOwnL (i : Nat) (hb : DE C fr tb f) : DE C fr (tOp (rIxL K) (tVar i) tb) (mOwnIx i f) := fun B σ H G ρ bf k d h Q q => by
  obtain ⟨e, e1, h⟩ := obind h
  obtain ⟨ds, e2, h⟩ := obind h
  obtain ⟨a, vs, h1, h2, h3, _⟩ := ok_ownL k e2
  refine ⟨_, h1, hb B σ H G ρ bf k e e1 _ fun y H2 G2 x2 r2 => ?_⟩
  obtain ⟨a', xs, j, v, h1', h2', rfl, h4, h5⟩ := own_ix (k.ext x2) e2 h r2
  rw [h1] at h1'
  cases h1'
  exact ⟨a, xs, j, v, rfl, rfl, SqL.of h2', h4, q v H2 G2 x2 h5⟩
/-- a thing made anew is a thing -/
theorem de_df (h : DF C fr te f) : DE C fr te f := fun B σ H G ρ bf k d hd Q q => h B σ H G ρ bf k d hd Q fun a H1 G1 e ha ga r => by
  generalize ev : V.ref a = v at r
  cases r with
  | lst ea rs =>
    cases ev
    exact q _ H1 _ (e.see ha ga ea) (.lst upd_same (rs.mono (same_newG ga _)))
  | dK ea rs =>
    cases ev
    exact q _ H1 _ (e.see ha ga ea) (.dK upd_same (rs.mono (same_newG ga _)))
  | dT ea rs =>
    cases ev
    exact q _ H1 _ (e.see ha ga ea) (.dT upd_same (rs.mono (same_newG ga _)))
  | dX hw ea hk r1 r2 =>
    cases ev
    exact q _ H1 _ (e.see ha ga ea) (.dX hw upd_same hk (r1.mono (same_newG ga _)) (r2.mono (same_newG ga _)))
theorem df_lst (ht : DA C fr t fs) : DF C fr (tLst t) (mLst fs) := fun B σ H G ρ bf k d h Q q => by
  obtain ⟨x, h1, h⟩ := obind h
  obtain ⟨z, rfl⟩ := oif h
  refine ht B σ H G ρ bf k x h1 _ fun v H1 G1 e1 r1 => ⟨by rw [r1.len]; exact okSize_le z, fun p hp => ?_⟩
  refine q p _ G1 (e1.newH hp _) ?_ (e1.sub.none hp) (.lst upd_same r1)
  exact e1.free hp
theorem df_dK : DF C fr tDNewK (mC (.dic false [] [])) := fun B σ H G ρ bf k d h Q q => by
  cases h
  exact fun p hp => q p _ G ((Ext.refl k.sub).newH hp _) hp (k.sub.none hp) (.dK (kvs := []) upd_same .nil)
theorem df_dT : DF C fr tDNewT (mC (.dic true [] [])) := fun B σ H G ρ bf k d h Q q => by
  cases h
  exact fun p hp => q p _ G ((Ext.refl k.sub).newH hp _) hp (k.sub.none hp) (.dT (kvs := []) upd_same .nil)
/-- xs.append(e) -/
def sApp (i : Nat) (f : FE) : FS := fun ρ => (f ρ).bind fun d => (ownL i ρ).bind fun ds => if okSize ds.length then some (.nx, ρ.set i (some (.own (.lst (ds ++ [d]))))) else none
theorem ds_app (i : Nat) (he : DE C fr te f) : DS C fr (tDrop (tBM K "list" rAppend (tVar i) (tCons te tNil))) (sApp i f) := fun B σ H G ρ bf k r h E z => by
  obtain ⟨d, e1, h⟩ := obind h
  obtain ⟨ds, e2, h⟩ := obind h
  obtain ⟨sz, rfl⟩ := oif h
  obtain ⟨a, vs, h1, h2, h3, _⟩ := ok_ownL k e2
  refine ⟨_, h1, .inl ⟨rfl, _, SqL.of h2⟩, he B σ H G ρ bf k d e1 _ fun v H2 G2 x2 r2 => ?_⟩
  have k2 := k.ext x2
  have h2' := x2.same _ _ h2
  have r3 := h3.mono x2.grow
  refine ⟨a, vs, v, rfl, rfl, h2', by rw [h3.len]; exact okSize_lt sz, z σ _ G2 ?_ x2.grow⟩
  exact k2.putOwn (ownL_eq e2) h1 rfl (.lst upd_same (r3.snoc r2))
/-- xs.extend(ys) -/
def sExt (i : Nat) (f : FE) : FS := fun ρ => (f ρ).bind fun d => match d with
  | .lst es => (ownL i ρ).bind fun ds => if okSize (ds.length + es.length) then some (.nx, ρ.set i (some (.own (.lst (ds ++ es))))) else none
  | _ => none
theorem ds_ext (i : Nat) (he : DE C fr te f) : DS C fr (tDrop (tBM K "list" rExtend (tVar i) (tCons te tNil))) (sExt i f) := fun B σ H G ρ bf k r h E z => by
  obtain ⟨d, e1, h⟩ := obind h
  split at h
  · obtain ⟨ds, e2, h⟩ := obind h
    obtain ⟨sz, rfl⟩ := oif h
    obtain ⟨a, vs, h1, h2, h3, _⟩ := ok_ownL k e2
    refine ⟨_, h1, .inl ⟨rfl, _, SqL.of h2⟩, he B σ H G ρ bf k _ e1 _ fun v H2 G2 x2 r2 => ?_⟩
    have k2 := k.ext x2
    have h2' := x2.same _ _ h2
    have r3 := h3.mono x2.grow
    obtain ⟨b, zs, rfl, hb, rb⟩ := rp_lst r2
    refine ⟨a, b, vs, zs, rfl, rfl, h2', x2.sub.lst hb, by rw [h3.len, rb.len]; exact okSize_le sz, z σ _ G2 ?_ x2.grow⟩
    exact k2.putOwn (ownL_eq e2) h1 rfl (.lst upd_same (r3.app rb))
  · cases h
/-- name = xs.pop() -/
def sPop (i j : Nat) : FS := fun ρ => (ownL i ρ).bind fun ds => (ds.getLast?).bind fun d => some (.nx, (ρ.set i (some (.own (.lst ds.dropLast)))).set j (some (.shr d)))
theorem Rps.dropLast {G : Hp} {vs : List V} {ds : List D} (h : Rps C G vs ds) : Rps C G vs.dropLast ds.dropLast := by
  rw [List.dropLast_eq_take, List.dropLast_eq_take, h.len]
  exact h.take _
theorem ds_pop (i j : Nat) : DS C fr (tAsg (tBM0 K "list" rPop (tVar i)) (gName j)) (sPop i j) := fun B σ H G ρ bf k r h E z => by
  obtain ⟨ds, e2, h⟩ := obind h
  obtain ⟨d, e3, h⟩ := obind h
  cases h
  obtain ⟨a, vs, h1, h2, h3, _⟩ := ok_ownL k e2
  rw [List.getLast?_eq_getElem?] at e3
  obtain ⟨v, h4, h5⟩ := h3.get e3
  refine ⟨_, h1, .inl ⟨rfl, _, SqL.of h2⟩, a, vs, v, rfl, rfl, h2, by rw [h3.len]; exact h4, ?_⟩
  exact z _ _ G ((k.putOwn (ownL_eq e2) h1 rfl (.lst upd_same h3.dropLast)).set j h5) (Same.refl _)
end
end Wd
namespace Wd
open PySem L2 Wb
def D.key : D → Option L2.Key
  | .int i => some (.inl i)
  | .str x => some (.inr x)
  | _ => none
def D.keys : List D → Option (List L2.Key)
  | [] => some []
  | d :: ds => (D.key d).bind fun k => (D.keys ds).bind fun r => some (k :: r)
def kof (t : Bool) (d : D) : Option (List L2.Key) := if t then (match d with
  | .tup ds => D.keys ds
  | _ => none) else (D.key d).bind fun k => some [k]
def lkD (t : Bool) : List D → List D → List L2.Key → Option D
  | e :: ks, v :: vs, k => if kof t e = some k then some v else lkD t ks vs k
  | _, _, _ => none
def replD (t : Bool) : List D → List D → List L2.Key → D → List D
  | e :: ks, u :: vs, k, v => (if kof t e = some k then v else u) :: replD t ks vs k v
  | _, vs, _, _ => vs
def putD (t : Bool) (ks vs : List D) (k : List L2.Key) (d v : D) : D := if ks.any fun e => decide (kof t e = some k) then .dic t ks (replD t ks vs k v) else .dic t (ks ++ [d]) (vs ++ [v])
theorem keyD_key (k : L2.Key) : D.key (keyD k) = some k := by cases k <;> rfl
theorem keyT_keys : ∀ k : List L2.Key, D.keys (k.map keyD) = some k
  | [] => rfl
  | k :: ks => by
    rw [List.map_cons]
    unfold D.keys
    rw [keyD_key, keyT_keys ks]
    rfl
theorem kof_K (k k' : L2.Key) : kof false (keyD k') = some [k] ↔ k' = k := by
  unfold kof
  rw [if_neg Bool.false_ne_true, keyD_key]
  exact ⟨fun h => by cases h; rfl, fun h => by rw [h]; rfl⟩
theorem kof_T (k k' : List L2.Key) : kof true (keyT k') = some k ↔ k' = k := by
  show D.keys (k'.map keyD) = some k ↔ _
  rw [keyT_keys]
  exact ⟨fun h => Option.some.inj h, fun h => by rw [h]⟩
section
variable {C : Cl} {G : Hp} {κ : Type} [DecidableEq κ] {en : κ → D} {c : κ → List L2.Key} {t : Bool}
theorem lk_val (hc : ∀ k k', kof t (en k') = some (c k) ↔ k' = k) (k : κ) : ∀ {kvs : List (κ × V)} {vs : List D}, Rps C G (kvs.map (·.2)) vs → (∀ d, lkD t (kvs.map fun p => en p.1) vs (c k) = some d → ∃ v, valV kvs k = some v ∧ Rp C G v d) ∧ (lkD t (kvs.map fun p => en p.1) vs (c k) = none → valV kvs k = none)
  | [], _, h => by
    cases h
    exact ⟨(fun d h => by cases h), fun _ => rfl⟩
  | p :: kvs, _, h => by
    rw [List.map_cons] at h
    cases h with
    | cons a b =>
      rename_i d0 ds0
      have ih := lk_val hc k b
      rw [List.map_cons]
      unfold lkD
      by_cases e : p.1 = k
      · rw [if_pos ((hc k p.1).mpr e), valV_pos e]
        exact ⟨(fun d h => by cases h; exact ⟨_, rfl, a⟩), fun h => by cases h⟩
      · rw [if_neg (fun z => e ((hc k p.1).mp z)), valV_neg e]
        exact ih
theorem any_val (hc : ∀ k k', kof t (en k') = some (c k) ↔ k' = k) (k : κ) : ∀ (kvs : List (κ × V)), ((kvs.map fun p => en p.1).any fun e => decide (kof t e = some (c k))) = kvs.any fun kv => decide (kv.1 = k)
  | [] => rfl
  | p :: kvs => by
    rw [List.map_cons, List.any_cons, List.any_cons, any_val hc k kvs]
    congr 1
    exact decide_eq_decide.mpr (hc k p.1)
theorem repl_val (hc : ∀ k k', kof t (en k') = some (c k) ↔ k' = k) (k : κ) {v : V} {d : D} (r : Rp C G v d) : ∀ {kvs : List (κ × V)} {vs : List D}, Rps C G (kvs.map (·.2)) vs → Rps C G ((kvs.map fun kv => if kv.1 = k then (kv.1, v) else kv).map (·.2)) (replD t (kvs.map fun p => en p.1) vs (c k) d)
  | [], _, h => by
    cases h
    exact .nil
  | p :: kvs, _, h => by
    rw [List.map_cons] at h
    cases h with
    | cons a b =>
      have ih := repl_val hc k r b
      rw [List.map_cons, List.map_cons, List.map_cons]
      unfold replD
      by_cases e : p.1 = k
      · rw [if_pos ((hc k p.1).mpr e), if_pos e]
        exact .cons r ih
      · rw [if_neg (fun z => e ((hc k p.1).mp z)), if_neg e]
        exact .cons a ih
theorem put_val (hc : ∀ k k', kof t (en k') = some (c k) ↔ k' = k) (k : κ) {v : V} {d : D} (r : Rp C G v d) {kvs : List (κ × V)} {vs : List D} (h : Rps C G (kvs.map (·.2)) vs) :
    ∃ vs', putD t (kvs.map fun p => en p.1) vs (c k) (en k) d = .dic t ((putK kvs k v).map fun p => en p.1) vs' ∧ Rps C G ((putK kvs k v).map (·.2)) vs' := by
  unfold putD putK
  rw [any_val hc k kvs]
  by_cases e : (kvs.any fun kv => decide (kv.1 = k)) = true
  · rw [if_pos e, if_pos e]
    refine ⟨_, ?_, repl_val hc k r h⟩
    rw [List.map_map]
    congr 1
    apply List.map_congr_left
    intro p _
    show en p.1 = en (if p.1 = k then (p.1, v) else p).1
    split <;> rfl
  · rw [if_neg e, if_neg e]
    refine ⟨vs ++ [d], ?_, ?_⟩
    · rw [List.map_append]
      rfl
    · rw [List.map_append]
      exact h.snoc r
end
section
variable {C : Cl} {fr : Bool} {K : PySem.W.Frag} {B : Bs} {ta tb te tk tv td ty tx : TE} {f f' fe fk fv fd fy fx : FE} {H G : Hp}
theorem key_V {y : V} {d : D} {k : L2.Key} (r : Rp C G y d) (h : D.key d = some k) : y = kV k := by
  cases r <;> cases h <;> rfl
theorem keys_V : ∀ {ys : List V} {ds : List D} {k : List L2.Key}, Rps C G ys ds → D.keys ds = some k → ys = k.map kV
  | _, _, _, .nil, h => by cases h; rfl
  | _, _, _, .cons a b, h => by
    unfold D.keys at h
    obtain ⟨k, h1, h⟩ := obind h
    obtain ⟨r, h2, h⟩ := obind h
    cases h
    rw [key_V a h1, keys_V b h2, List.map_cons]
theorem kof_inK {d : D} {k : List L2.Key} (h : kof false d = some k) : ∃ k', k = [k'] ∧ D.key d = some k' := by
  unfold kof at h
  rw [if_neg Bool.false_ne_true] at h
  obtain ⟨k', h1, h⟩ := obind h
  cases h
  exact ⟨k', rfl, h1⟩
theorem kof_inT {d : D} {k : List L2.Key} (h : kof true d = some k) : ∃ ds, d = .tup ds ∧ D.keys ds = some k := by
  unfold kof at h
  rw [if_pos rfl] at h
  split at h
  · exact ⟨_, rfl, h⟩
  · cases h
theorem key_D {d : D} {k : L2.Key} (h : D.key d = some k) : d = keyD k := by
  cases d <;> cases h <;> rfl
theorem keys_D : ∀ {ds : List D} {k : List L2.Key}, D.keys ds = some k → ds = k.map keyD
  | [], _, h => by cases h; rfl
  | d :: ds, _, h => by
    unfold D.keys at h
    obtain ⟨k, h1, h⟩ := obind h
    obtain ⟨r, h2, h⟩ := obind h
    cases h
    rw [key_D h1, keys_D h2, List.map_cons]
theorem get_ok {x y : V} {t : Bool} {ks vs : List D} {d : D} {k : List L2.Key} (s : Sub G H) (rx : Rp C G x (.dic t ks vs)) (ry : Rp C G y d) (hk : kof t d = some k) :
    ∃ a o, x = .ref a ∧ IsD H a ∧ DGet H a y o ∧ (∀ r, lkD t ks vs k = some r → ∃ v, o = some v ∧ Rp C G v r) ∧ (lkD t ks vs k = none → o = none) := by
  cases rx with
  | dK e r =>
    obtain ⟨k', rfl, h1⟩ := kof_inK hk
    have hr := s.rd e
    obtain ⟨l1, l2⟩ := lk_val kof_K k' r
    exact ⟨_, _, rfl, .inl ⟨_, hr⟩, .inl ⟨_, k', hr, key_V ry h1, rfl⟩, l1, l2⟩
  | dT e r =>
    obtain ⟨ds, rfl, h1⟩ := kof_inT hk
    have hr := s.rd e
    obtain ⟨l1, l2⟩ := lk_val kof_T k r
    obtain ⟨b, ys, rfl, hb, rb⟩ := rp_tup ry
    rw [keys_V rb h1] at hb
    exact ⟨_, _, rfl, .inr ⟨_, hr⟩, .inr ⟨_, k, b, hr, rfl, s.tup hb, rfl⟩, l1, l2⟩
def gGet (x d : D) : Option D := match x with
  | .dic t ks vs => (kof t d).bind fun k => lkD t ks vs k
  | _ => none
def gDIn (neg : Bool) (d x : D) : Option D := match x with
  | .dic t ks vs => (kof t d).bind fun k => some (.bl (neg ^^ (lkD t ks vs k).isSome))
  | _ => none
theorem de_dget (hd : DE C fr td fd) (hy : DE C fr ty fy) : DE C fr (tDGet td ty) (m2 gGet fd fy) := fun B σ H G ρ bf k d h Q q => by
  obtain ⟨x, e1, h⟩ := obind h
  obtain ⟨y, e2, h⟩ := obind h
  refine hd B σ H G ρ bf k x e1 _ fun v H1 G1 x1 r1 => hy B σ H1 G1 ρ bf (k.ext x1) y e2 _ fun u H2 G2 x2 r2 => ?_
  unfold gGet at h
  split at h
  · obtain ⟨kk, h1, h⟩ := obind h
    obtain ⟨a, o, rfl, _, hg, l1, _⟩ := get_ok x2.sub (r1.mono x2.grow) r2 h1
    obtain ⟨w, rfl, rw'⟩ := l1 d h
    exact ⟨a, w, rfl, hg, q w H2 G2 (x1.trans x2) rw'⟩
  · cases h
theorem isS {o : Option V} {r : Option D} (l1 : ∀ d, r = some d → ∃ v, o = some v ∧ Rp C G v d) (l2 : r = none → o = none) : o.isSome = r.isSome := by
  cases r with
  | none => rw [l2 rfl]; rfl
  | some d =>
    obtain ⟨v, h, _⟩ := l1 d rfl
    rw [h]
    rfl
theorem de_din (hy : DE C fr ty fy) (hd : DE C fr td fd) : DE C fr (tDIn ty td) (m2 (gDIn false) fy fd) := fun B σ H G ρ bf k d h Q q => by
  obtain ⟨y, e2, h⟩ := obind h
  obtain ⟨x, e1, h⟩ := obind h
  refine hy B σ H G ρ bf k y e2 _ fun u H1 G1 x1 r1 => hd B σ H1 G1 ρ bf (k.ext x1) x e1 _ fun v H2 G2 x2 r2 => ?_
  unfold gDIn at h
  split at h
  · obtain ⟨kk, h1, h⟩ := obind h
    cases h
    obtain ⟨a, o, rfl, _, hg, l1, l2⟩ := get_ok x2.sub r2 (r1.mono x2.grow) h1
    exact ⟨a, o, rfl, hg, q _ H2 G2 (x1.trans x2) (by rw [isS l1 l2, Bool.false_xor]; exact .bl _)⟩
  · cases h
theorem de_dnotin (hy : DE C fr ty fy) (hd : DE C fr td fd) : DE C fr (tDNotIn ty td) (m2 (gDIn true) fy fd) := fun B σ H G ρ bf k d h Q q => by
  obtain ⟨y, e2, h⟩ := obind h
  obtain ⟨x, e1, h⟩ := obind h
  refine hy B σ H G ρ bf k y e2 _ fun u H1 G1 x1 r1 => hd B σ H1 G1 ρ bf (k.ext x1) x e1 _ fun v H2 G2 x2 r2 => ?_
  unfold gDIn at h
  split at h
  · obtain ⟨kk, h1, h⟩ := obind h
    cases h
    obtain ⟨a, o, rfl, _, hg, l1, l2⟩ := get_ok x2.sub r2 (r1.mono x2.grow) h1
    exact ⟨a, o, rfl, hg, q _ H2 G2 (x1.trans x2) (by rw [isS l1 l2, Bool.true_xor]; exact .bl _)⟩
  · cases h
def mGet2 (fd fy fx : FE) : FE := fun ρ => (fd ρ).bind fun x => (fy ρ).bind fun d => (fx ρ).bind fun z => match x with
  | .dic t ks vs => (kof t d).bind fun k => some ((lkD t ks vs k).getD z)
  | _ => none
theorem rp_isD {x : V} {t : Bool} {ks vs : List D} (s : Sub G H) (r : Rp C G x (.dic t ks vs)) : ∃ a, x = .ref a ∧ IsD H a := by
  cases r with
  | dK e _ => exact ⟨_, rfl, .inl ⟨_, s.rd e⟩⟩
  | dT e _ => exact ⟨_, rfl, .inr ⟨_, s.rd e⟩⟩
theorem de_dget2 (hd : DE C fr td fd) (hy : DE C fr ty fy) (hx : DE C fr tx fx) : DE C fr (tDGet2 td ty tx) (mGet2 fd fy fx) := fun B σ H G ρ bf k d h Q q => by
  obtain ⟨x, e1, h⟩ := obind h
  obtain ⟨y, e2, h⟩ := obind h
  obtain ⟨z, e3, h⟩ := obind h
  split at h
  · obtain ⟨kk, h1, h⟩ := obind h
    cases h
    refine hd B σ H G ρ bf k _ e1 _ fun v H1 G1 x1 r1 => ?_
    obtain ⟨a, rfl, ia⟩ := rp_isD x1.sub r1
    refine ⟨a, rfl, ia, hy B σ H1 G1 ρ bf (k.ext x1) y e2 _ fun u H2 G2 x2 r2 => hx B σ H2 G2 ρ bf ((k.ext x1).ext x2) z e3 _ fun u3 H3 G3 x3 r3 => ?_⟩
    obtain ⟨a', o, ea, _, hg, l1, l2⟩ := get_ok x3.sub ((r1.mono x2.grow).mono x3.grow) (r2.mono x3.grow) h1
    cases ea
    refine ⟨o, hg, q _ H3 G3 ((x1.trans x2).trans x3) ?_⟩
    cases e : lkD _ _ _ kk with
    | none =>
      rw [l2 e]
      exact r3
    | some d =>
      obtain ⟨v, rfl, rv⟩ := l1 d e
      exact rv
  · cases h
/-- a dict that one name alone holds -/
theorem ok_ownD {σ : L2.St} {ρ : En} (k : Ok B C σ H G ρ) {i : Nat} {x : Bool × List D × List D} (h : ownDc i ρ = some x) :
    ∃ a, σ[i]? = some (some (.ref a)) ∧ G a = none ∧ ((x.1 = false ∧ ∃ kvs : List (L2.Key × V), H a = some (.dK kvs) ∧ x.2.1 = kvs.map (fun p => keyD p.1) ∧ Rps C G (kvs.map (·.2)) x.2.2) ∨ (x.1 = true ∧ ∃ kvs : List (List L2.Key × V), H a = some (.dT kvs) ∧ x.2.1 = kvs.map (fun p => keyT p.1) ∧ Rps C G (kvs.map (·.2)) x.2.2)) := by
  have e := ownD_eq h
  obtain ⟨oa, w⟩ := k
  obtain ⟨v, h1, h2⟩ := w.sl i _ e
  have h3 : ∀ a, a ∈ oa i → G a = none := fun a m => (w.hid i _ a e m).1
  obtain ⟨t, ks, vs⟩ := x
  generalize oa i = l at h2 h3
  cases h2 with
  | dK ea r => exact ⟨_, h1, h3 _ (List.mem_singleton_self _), .inl ⟨rfl, _, ea, rfl, r⟩⟩
  | dT ea r => exact ⟨_, h1, h3 _ (List.mem_singleton_self _), .inr ⟨rfl, _, ea, rfl, r⟩⟩
def mOwnGet (i : Nat) (fy : FE) : FE := fun ρ => (fy ρ).bind fun d => (ownDc i ρ).bind fun x => (kof x.1 d).bind fun k => lkD x.1 x.2.1 x.2.2 k
theorem de_dgetOwn (i : Nat) (hy : DE C fr ty fy) : DE C fr (tDGet (tVar i) ty) (mOwnGet i fy) := fun B σ H G ρ bf k d h Q q => by
  obtain ⟨y, e1, h⟩ := obind h
  obtain ⟨x, e2, h⟩ := obind h
  obtain ⟨kk, e3, h5⟩ := obind h
  obtain ⟨a, h1, _⟩ := ok_ownD k e2
  refine ⟨_, h1, hy B σ H G ρ bf k y e1 _ fun u H2 G2 x2 r2 => ?_⟩
  obtain ⟨a', h1', _, h3⟩ := ok_ownD (k.ext x2) e2
  rw [h1] at h1'
  cases h1'
  obtain ⟨t, ks, vs⟩ := x
  rcases h3 with ⟨rfl, kvs, ha, rfl, r⟩ | ⟨rfl, kvs, ha, rfl, r⟩
  · obtain ⟨k', rfl, hk⟩ := kof_inK e3
    obtain ⟨v, hv, rv⟩ := (lk_val kof_K k' r).1 d h5
    exact ⟨a, v, rfl, by rw [key_V r2 hk, ← hv]; exact DGet.k ha, q v H2 G2 x2 rv⟩
  · obtain ⟨ds, rfl, hk⟩ := kof_inT e3
    obtain ⟨v, hv, rv⟩ := (lk_val kof_T kk r).1 d h5
    obtain ⟨b, ys, rfl, hb, rb⟩ := rp_tup r2
    rw [keys_V rb hk] at hb
    exact ⟨a, v, rfl, by rw [← hv]; exact DGet.t ha (x2.sub.tup hb), q v H2 G2 x2 rv⟩
/-- d[k] = v -/
def sPut (i : Nat) (fy fv : FE) : FS := fun ρ => (fv ρ).bind fun v => (fy ρ).bind fun d => (ownDc i ρ).bind fun x => (kof x.1 d).bind fun k => if okSize x.2.1.length then some (.nx, ρ.set i (some (.own (putD x.1 x.2.1 x.2.2 k d v)))) else none
theorem ds_put (i : Nat) (hy : DE C fr ty fy) (hv : DE C fr tv fv) : DS C fr (sDPut (tVar i) ty tv) (sPut i fy fv) := fun B σ H G ρ bf k r h E z => by
  obtain ⟨dv, e0, h⟩ := obind h
  obtain ⟨y, e1, h⟩ := obind h
  obtain ⟨x, e2, h⟩ := obind h
  obtain ⟨kk, e3, h⟩ := obind h
  obtain ⟨sz, rfl⟩ := oif h
  refine hv B σ H G ρ bf k dv e0 _ fun v H1 G1 x1 r1 => ?_
  have k1 := k.ext x1
  obtain ⟨a, h1, _⟩ := ok_ownD k1 e2
  refine ⟨_, h1, hy B σ H1 G1 ρ bf k1 y e1 _ fun u H2 G2 x2 r2 => ?_⟩
  have k2 := k1.ext x2
  obtain ⟨a', h1', _, h3⟩ := ok_ownD k2 e2
  rw [h1] at h1'
  cases h1'
  have hi := ownD_eq e2
  obtain ⟨t, ks, vs⟩ := x
  have sg := x1.grow.trans x2.grow
  rcases h3 with ⟨rfl, kvs, ha, rfl, rr⟩ | ⟨rfl, kvs, ha, rfl, rr⟩
  · obtain ⟨k', rfl, hk⟩ := kof_inK e3
    obtain ⟨vs', ep, rp⟩ := put_val kof_K k' (r1.mono x2.grow) rr
    have ed := key_D hk
    subst ed
    refine ⟨a, _, rfl, by rw [key_V r2 hk]; exact DPut.k ha (by have := okSize_lt sz; rw [List.length_map] at this; exact this), z σ _ G2 ?_ sg⟩
    show Ok B C σ _ G2 (ρ.set i (some (.own (putD false (kvs.map fun p => keyD p.1) vs [k'] (keyD k') dv))))
    rw [ep]
    exact k2.putOwn hi h1 rfl (.dK upd_same rp)
  · obtain ⟨ds, rfl, hk⟩ := kof_inT e3
    obtain ⟨vs', ep, rp⟩ := put_val kof_T kk (r1.mono x2.grow) rr
    have ed := keys_D hk
    subst ed
    obtain ⟨b, ys, rfl, hb, rb⟩ := rp_tup r2
    rw [keys_V rb hk] at hb
    refine ⟨a, _, rfl, DPut.t ha (x2.sub.tup hb) (by have := okSize_lt sz; rw [List.length_map] at this; exact this), z σ _ G2 ?_ sg⟩
    show Ok B C σ _ G2 (ρ.set i (some (.own (putD true (kvs.map fun p => keyT p.1) vs kk (keyT kk) dv))))
    rw [ep]
    exact k2.putOwn hi h1 rfl (.dT upd_same rp)
end
def spD (C : Cl) (fr : Bool) (m : List D → Option D) : Sp := fun vs H Q _ => ∃ (G : Hp) (ds : List D) (d : D), SubM C G H ∧ (fr = true → ∀ b o, G b = some o → tblO o = false → H b = some o) ∧ Rps C G vs ds ∧ m ds = some d ∧ ∀ v H' G', Ext H G H' G' → Rp C G' v d → Q v H'
def mRun (np n : Nat) (p : FS) : List D → Option D := fun ds => if ds.length = np then (p (ds.map (fun d => some (.shr d)) ++ List.replicate (n - np) none)).bind fun r => match r.1 with
  | .rt d => some d
  | .nx => some .non
  | _ => none else none
section
variable {C : Cl} {fr fc : Bool} {K : PySem.W.Frag} {B : Bs} {P : Program} {w : World} {mg : Str → Option Value} {base : Heap} {ta : TE} {f : FE} {t : TA} {fs : En → Option (List D)} {m : List D → Option D}
theorem ok_start {N : List Str} {vs : List V} {ds : List D} {H G : Hp} {np : Nat} (sm : SubM C G H) (ex : fr = true → ∀ b o, G b = some o → tblO o = false → H b = some o) (r : Rps C G vs ds) (hl : ds.length = np) :
    Ok ⟨H, G, fun _ => False, fr, (0, 0)⟩ C (start N vs) H G (ds.map (fun d => some (.shr d)) ++ List.replicate (N.length - np) none) := by
  subst hl
  have s := sm.sub
  have key : ∀ (i : Nat) s, ((ds.map fun d => some (Sl.shr d)) ++ List.replicate (N.length - ds.length) none)[i]? = some (some s) → ∃ d, ds[i]? = some d ∧ s = .shr d := fun i s h => by
    rcases Nat.lt_or_ge i ds.length with z | z
    · rw [List.getElem?_append_left (by rw [List.length_map]; exact z), List.getElem?_map] at h
      cases e : ds[i]? with
      | none => rw [e] at h; cases h
      | some d =>
        rw [e] at h
        cases h
        exact ⟨d, rfl, rfl⟩
    · rw [List.getElem?_append_right (by rw [List.length_map]; exact z), List.getElem?_replicate] at h
      split at h <;> cases h
  refine ⟨fun _ => [], { sub := s, same := fun _ _ h _ _ => h, tbl := fun _ ps h => ⟨ps, h⟩, grow := Same.refl _, hid0 := fun _ _ _ _ h => h, tp := (fun _ _ _ h => h.elim), unl := ex, fz := fun b o h n => ?_, th := (fun _ _ _ h => h.elim), mks := fun _ _ h _ => h, len := ?_, sl := fun i s h => ?_, hid := (fun _ _ _ _ m => nomatch m), frs := (fun _ _ _ _ m => nomatch m), dj := (fun _ _ _ _ _ _ _ _ m => nomatch m), mkC := sm.mk' }⟩
  · rcases s.at_ b o h n with z | ⟨d, ob, z⟩
    · exact .inl z
    · exact .inr ⟨ob, d, z, fun h => h, z⟩
  · unfold L2.start
    rw [List.length_append, List.length_append, List.length_map, List.length_map, List.length_replicate, List.length_replicate, r.len]
  · obtain ⟨d, h1, rfl⟩ := key i s h
    obtain ⟨v, h2, h3⟩ := r.get h1
    refine ⟨v, ?_, .shr h3⟩
    unfold L2.start
    rw [List.getElem?_append_left (by rw [List.length_map]; exact (List.getElem?_eq_some_iff.mp h2).1), List.getElem?_map, h2]
    rfl
theorem ext_of {H G H' G' : Hp} (k : Bok ⟨H, G, fun _ => False, fr, (0, 0)⟩ H' G') : Ext H G H' G' :=
  ⟨fun b o h n => k.same b o h id n, k.tbl, k.grow, k.sub, k.hid0, fun b o h => by
    cases n : tblO o with
    | false =>
      rcases k.fz b o h n with z | ⟨ob, d, h0, _, _⟩
      · exact .inr ⟨z, rfl⟩
      · cases e : G b with
        | some o' =>
          have := k.grow b o' e
          rw [h] at this
          cases this
          exact .inl rfl
        | none =>
          have := k.hid0 b _ h0 rfl e
          rw [h] at this
          cases this
    | true =>
      cases e : G b with
      | some o' =>
        have := k.grow b o' e
        rw [h] at this
        cases this
        exact .inl rfl
      | none => exact absurd (k.mks b o h n) (by show ¬ G b = _; rw [e]; exact fun z => nomatch z)⟩
theorem fn_ok {x qual : Str} {st : Stmt} {g : Addr} {fd : FuncData} {N ps : List Str} {k : Nat} {p : FS} (F : Fun K x qual st g fd) (S : FnScope N ps (defScope st)) (np n : Nat) (hn : N.length = n) (hp : ps.length = np)
    (body : ∀ (cdv : Value) (A : Around) (outer : List Env) (s : Shared) (H : Hp) (E : XK), Room k (A.deeper (PyProof.Rows.envOfC qual (defScope st) s.heap.objs.size g cdv)) → ∃ t, PSs (cxOf CX0 P w K mg base N qual (defScope st) g cdv A outer s H E).nox (defBody st) t ∧ DS C fr t p) :
    FnOk P w K mg base CX0 (k + 1) g fd ps (spD C fr (mRun np n p)) := by
  refine F.ok S (fun vs H Q E h => ?_) fun cdv A outer s H vs Q E hr h => ?_
  · obtain ⟨G, ds, d, _, _, r, hm, _⟩ := h
    unfold mRun at hm
    split at hm
    · rename_i e
      rw [r.len, e, hp]
    · cases hm
  · obtain ⟨G, ds, d, sb, ex, r, hm, q⟩ := h
    unfold mRun at hm
    split at hm
    · rename_i e
      obtain ⟨res, h1, h2⟩ := obind hm
      obtain ⟨t, ht, hd⟩ := body cdv A outer s H E hr
      subst hn
      refine ⟨t, ht, hd ⟨H, G, fun _ => False, fr, (0, 0)⟩ _ H G _ id (ok_start (N := N) sb ex r e) res h1 _ ?_⟩
      obtain ⟨fl, ρ⟩ := res
      cases fl with
      | nx =>
        cases h2
        exact fun σ1 H1 G1 k1 s1 => q _ H1 G1 (ext_of k1.bok) .non
      | rt d =>
        cases h2
        exact fun v σ1 H1 G1 k1 s1 r1 => q v H1 G1 (ext_of k1.bok) r1
      | bk => cases h2
      | ct => cases h2
    · cases hm
theorem sp_use {σ : L2.St} {ρ : En} {vs : List V} {H G : Hp} {ds : List D} {d : D} {Q : VK} {E : XK} (k : Ok B C σ H G ρ) (bf : fr = true → B.free = true) (hfr : fc = true → fr = true) (r : Rps C G vs ds) (h : m ds = some d) (q : ∀ v H' G', Ext H G H' G' → Rp C G' v d → Q v H') : spD C fc m vs H Q E :=
  ⟨G, ds, d, k.subM, fun z b o h n => k.bok.unl (bf (hfr z)) b o h n, r, h, q⟩
theorem de_call {E : XK} (hfr : fc = true → fr = true) (ht : DA C fr t fs) : DE C fr (tCall (spD C fc m) [] E t) (mS m fs) := fun B σ H G ρ bf k d h Q q => by
  obtain ⟨ds, e1, h⟩ := obind h
  refine ht B σ H G ρ bf k ds e1 _ fun vs H1 G1 x1 r1 => ?_
  rw [List.append_nil]
  exact sp_use (k.ext x1) bf hfr r1 h fun v H' G' x r => q v H' G' (x1.trans x) r
/-- a property, a field -/
def gProp (c : Nat) (m : List D → Option D) (d : D) : Option D := match d with
  | .obj c' _ _ => if c' = c then m [d] else none
  | _ => none
theorem de_prop {E : XK} {c : Nat} (hfr : fc = true → fr = true) (ha : DE C fr ta f) : DE C fr (tProp (C c) (spD C fc m) [] E ta) (m1 (gProp c m) f) := fun B σ H G ρ bf k d h Q q => by
  obtain ⟨x, e1, h⟩ := obind h
  refine ha B σ H G ρ bf k x e1 _ fun v H1 G1 x1 r1 => ?_
  unfold gProp at h
  split at h
  · split at h
    · rename_i e
      subst e
      cases r1 with
      | obj e rs =>
        refine ⟨_, _, _, rfl, x1.sub.ins e, ?_⟩
        exact sp_use (k.ext x1) bf hfr (.cons (.obj (c2 := 0) e rs) .nil) h fun v H' G' x r => q v H' G' (x1.trans x) r
    · cases h
  · cases h
def fldD (f : Str) : List Str → List D → Option D
  | n :: ns, v :: vs => if n = f then some v else fldD f ns vs
  | _, _ => none
def gFld (c : Nat) (f : Str) (d : D) : Option D := match d with
  | .obj c' ns vs => if c' = c then fldD f ns vs else none
  | _ => none
theorem fld_look {G : Hp} {fn : Str} : ∀ {fs : List (Str × V)} {vs : List D} {d : D}, Rps C G (fs.map (·.2)) vs → fldD fn (fs.map (·.1)) vs = some d → ∃ v, fs.lookup fn = some v ∧ Rp C G v d
  | [], _, _, h, e => by cases h; cases e
  | p :: fs, _, d, h, e => by
    rw [List.map_cons] at h e
    cases h with
    | cons a b =>
      unfold fldD at e
      obtain ⟨n, v⟩ := p
      split at e
      · rename_i z
        cases e
        refine ⟨v, ?_, a⟩
        have z' : n = fn := z
        rw [List.lookup_cons, z']
        simp
      · rename_i z
        obtain ⟨v', h1, h2⟩ := fld_look b e
        refine ⟨v', ?_, h2⟩
        have z' : ¬ n = fn := z
        rw [List.lookup_cons]
        have : (fn == n) = false := by
          rw [beq_eq_false_iff_ne]
          exact fun y => z' y.symm
        rw [this]
        exact h1
theorem de_fld {c : Nat} {fn : Str} (cl : Cls K (C c)) (na : NoAttr K (C c) fn) (ha : DE C fr ta f) : DE C fr (tFld K ta fn) (m1 (gFld c fn) f) := fun B σ H G ρ bf k d h Q q => by
  obtain ⟨x, e1, h⟩ := obind h
  refine ha B σ H G ρ bf k x e1 _ fun v H1 G1 x1 r1 => ?_
  unfold gFld at h
  split at h
  · split at h
    · rename_i e
      subst e
      cases r1 with
      | obj e rs =>
        obtain ⟨v, h1, h2⟩ := fld_look rs h
        exact ⟨_, _, _, _, v, rfl, x1.sub.ins e, cl, na, h1, q v H1 G1 x1 h2⟩
    · cases h
  · cases h
end
end Wd
namespace Wd
open PySem L2 Wb
def insF {α : Type} (f : α → Int) (x : α) : List α → List α
  | [] => [x]
  | y :: ys => if f x ≤ f y then x :: y :: ys else y :: insF f x ys
def sortF {α : Type} (f : α → Int) : List α → List α
  | [] => []
  | x :: xs => insF f x (sortF f xs)
section
variable {α : Type} {f : α → Int}
theorem insF_perm (x : α) : ∀ l : List α, (insF f x l).Perm (x :: l)
  | [] => .refl _
  | y :: ys => by
    unfold insF
    split
    · exact .refl _
    · exact ((insF_perm x ys).cons y).trans (.swap x y ys)
theorem sortF_perm : ∀ l : List α, (sortF f l).Perm l
  | [] => .refl _
  | x :: xs => (insF_perm x _).trans ((sortF_perm xs).cons x)
theorem insF_pw (x : α) : ∀ {l : List α}, l.Pairwise (fun a b => f a ≤ f b) → (insF f x l).Pairwise (fun a b => f a ≤ f b)
  | [], _ => List.pairwise_singleton _ _
  | y :: ys, h => by
    rw [List.pairwise_cons] at h
    unfold insF
    split
    · rename_i e
      refine List.pairwise_cons.mpr ⟨fun z hz => ?_, List.pairwise_cons.mpr h⟩
      rcases List.mem_cons.mp hz with rfl | hz
      · exact e
      · have := h.1 z hz; omega
    · rename_i e
      refine List.pairwise_cons.mpr ⟨fun z hz => ?_, insF_pw x h.2⟩
      rcases List.mem_cons.mp ((insF_perm x ys).mem_iff.mp hz) with rfl | hz
      · omega
      · exact h.1 z hz
theorem sortF_pw : ∀ l : List α, (sortF f l).Pairwise (fun a b => f a ≤ f b)
  | [] => .nil
  | x :: xs => insF_pw x (sortF_pw xs)
theorem sortF_uniq {l m : List α} (p : l.Perm m) (pw : l.Pairwise (fun a b => f a ≤ f b)) (inj : ∀ a ∈ m, ∀ b ∈ m, f a = f b → a = b) : l = sortF f m := by
  refine List.Perm.eq_of_pairwise (le := fun a b => f a ≤ f b) (fun a b ha hb h1 h2 => ?_) pw (sortF_pw m) (p.trans (sortF_perm m).symm)
  exact inj a (p.mem_iff.mp ha) b ((sortF_perm m).mem_iff.mp hb) (Int.le_antisymm h1 h2)
def dd {α : Type} [DecidableEq α] : List α → List α
  | [] => []
  | x :: xs => if x ∈ dd xs then dd xs else x :: dd xs
theorem mem_dd [DecidableEq α] {x : α} : ∀ {l : List α}, x ∈ dd l ↔ x ∈ l
  | [] => Iff.rfl
  | y :: ys => by
    unfold dd
    split
    · rename_i h
      rw [mem_dd, List.mem_cons]
      exact ⟨.inr, fun z => z.elim (fun e => e ▸ mem_dd.mp h) id⟩
    · rw [List.mem_cons, List.mem_cons, mem_dd]
theorem nodup_dd [DecidableEq α] : ∀ l : List α, (dd l).Nodup
  | [] => .nil
  | y :: ys => by
    unfold dd
    split
    · exact nodup_dd ys
    · rename_i h
      exact List.nodup_cons.mpr ⟨h, nodup_dd ys⟩
theorem sortF_dd [DecidableEq α] {l m : List α} (nd : l.Nodup) (mem : ∀ a, a ∈ l ↔ a ∈ m) (pw : l.Pairwise (fun a b => f a ≤ f b)) (inj : ∀ a ∈ m, ∀ b ∈ m, f a = f b → a = b) : l = sortF f (dd m) :=
  sortF_uniq ((List.perm_ext_iff_of_nodup nd (nodup_dd m)).mpr fun a => (mem a).trans mem_dd.symm) pw fun a ha b hb => inj a (mem_dd.mp ha) b (mem_dd.mp hb)
end
theorem code_inj {B : Int} : ∀ {k l : List Int}, k.length = l.length → TS.Bd B k → TS.Bd B l → TS.code B k = TS.code B l → k = l
  | [], [], _, _, _, _ => rfl
  | [], _ :: _, h, _, _, _ => by cases h
  | _ :: _, [], h, _, _, _ => by cases h
  | d :: k, e :: l, h, b1, b2, hc => by
    have hl : k.length = l.length := Nat.succ.inj h
    rcases Int.lt_trichotomy d e with z | z | z
    · have := TS.code_lt hl b1.tail b2.tail z
      omega
    · subst z
      have e1 := TS.code_same (B := B) (d := d) hl
      have e2 := TS.code_same (B := B) (d := d) hl.symm
      have e3 : TS.code B k = TS.code B l := by
        rcases Int.lt_trichotomy (TS.code B k) (TS.code B l) with y | y | y
        · have := e1.mpr y; omega
        · exact y
        · have := e2.mpr y; omega
      rw [code_inj hl b1.tail b2.tail e3]
    · have := TS.code_lt hl.symm b2.tail b1.tail z
      omega
/-- tuples of numbers -/
def unT : D → Option (List Int)
  | .tup ds => unIs ds
  | _ => none
def unTs : List D → Option (List (List Int))
  | [] => some []
  | d :: ds => (unT d).bind fun i => (unTs ds).bind fun r => some (i :: r)
def tupI (k : List Int) : D := .tup (k.map D.int)
theorem unT_eq {d : D} {k : List Int} (h : unT d = some k) : d = tupI k := by
  cases d <;> simp only [unT] at h <;> first | cases h | (unfold tupI; rw [unIs_eq h])
theorem unTs_eq : ∀ {ds : List D} {ks : List (List Int)}, unTs ds = some ks → ds = ks.map tupI
  | [], _, h => by cases h; rfl
  | d :: ds, _, h => by
    unfold unTs at h
    obtain ⟨i, h1, h⟩ := obind h
    obtain ⟨r, h2, h⟩ := obind h
    cases h
    rw [unTs_eq h2, unT_eq h1, List.map_cons]
/-- fewer than 63 tuples of as many numbers from 0 to 999 -/
def kLen (ks : List (List Int)) : Nat := match ks with
  | [] => 1
  | k :: _ => k.length
def okKeys (ks : List (List Int)) : Bool := decide (ks.length < 63) && decide (1 ≤ kLen ks) && ks.all fun k => decide (k.length = kLen ks) && k.all fun i => decide (0 ≤ i) && decide (i < 1000)
theorem okKeys_of {ks : List (List Int)} (h : okKeys ks = true) : ks.length < 63 ∧ 1 ≤ kLen ks ∧ ∀ k ∈ ks, k.length = kLen ks ∧ TS.Bd 1000 k := by
  unfold okKeys at h
  simp only [Bool.and_eq_true, decide_eq_true_eq, List.all_eq_true] at h
  exact ⟨h.1.1, h.1.2, fun k hk => ⟨(h.2 k hk).1, fun m hm => (h.2 k hk).2 m hm⟩⟩
theorem okKeys_inj {ks : List (List Int)} (h : okKeys ks = true) : ∀ a ∈ ks, ∀ b ∈ ks, TS.code 1000 a = TS.code 1000 b → a = b := fun a ha b hb e => by
  obtain ⟨_, _, h3⟩ := okKeys_of h
  exact code_inj ((h3 a ha).1.trans (h3 b hb).1.symm) (h3 a ha).2 (h3 b hb).2 e
section
variable {C : Cl} {fr : Bool} {K : PySem.W.Frag} {B : Bs} {P : Program} {w : World} {ti ti1 : TI} {ta tb te tk tv : TE} {f f' fe fk fv : FE} {fi fi1 : En → Option (List D)} {t : TA} {fs : En → Option (List D)} {tt tt1 : TT} {ft ft1 : En → Option Bool}
theorem rps_tupI {G : Hp} : ∀ {L : List (Addr × List Int)}, (∀ q ∈ L, G q.1 = some (.tup (q.2.map V.int))) → Rps C G (L.map fun q => V.ref q.1) ((L.map (·.2)).map tupI)
  | [], _ => .nil
  | q :: L, h => .cons (.tup (h q List.mem_cons_self) rps_ints) (rps_tupI fun r hr => h r (List.mem_cons_of_mem _ hr))
/-- several tuples of the heap come into sight -/
theorem Ext.seeTs {H G : Hp} (s : Sub G H) : ∀ (L : List (Addr × List Int)), (∀ q ∈ L, H q.1 = some (.tup (q.2.map V.int))) → ∃ G', Ext H G H G' ∧ ∀ q ∈ L, G' q.1 = some (.tup (q.2.map V.int))
  | [], _ => ⟨G, Ext.refl s, fun _ h => nomatch h⟩
  | q :: L, h => by
    obtain ⟨G1, e1, h1⟩ := Ext.seeTs s L fun r hr => h r (List.mem_cons_of_mem _ hr)
    obtain ⟨G2, e2, h2⟩ := Ext.seeT e1.sub (h q List.mem_cons_self)
    refine ⟨G2, e1.trans e2, fun r hr => ?_⟩
    rcases List.mem_cons.mp hr with rfl | hr
    · exact h2
    · exact e2.grow _ _ (h1 r hr)
/-- sorted of a dict's keys -/
def gSortDI : List D → Option D
  | [.dic false ks _] => (unIs ks).bind fun ns => if decide (ns.length < 64) then some (.lst ((sortF id ns).map D.int)) else none
  | _ => none
theorem keysI : ∀ {kvs : List (L2.Key × V)} {ns : List Int}, kvs.map (fun p => keyD p.1) = ns.map D.int → kvs.map (·.1) = ns.map Sum.inl
  | [], [], _ => rfl
  | [], _ :: _, h => by cases h
  | _ :: _, [], h => by cases h
  | p :: kvs, n :: ns, h => by
    rw [List.map_cons, List.map_cons] at h ⊢
    obtain ⟨h1, h2⟩ := List.cons.inj h
    rw [keysI h2]
    congr 1
    obtain ⟨k, v⟩ := p
    cases k <;> cases h1
    rfl
theorem rd_sortDI : RDs C (fun xs H Q => ∃ (a : Addr) (kvs : List (L2.Key × V)) (ks : List Int), xs = [.ref a] ∧ Rd H a (.dK kvs) ∧ kvs.map (·.1) = ks.map Sum.inl ∧ ks.length < 64 ∧
    ∀ (ys : List Int) (p : Addr), ys.Perm ks → ys.Pairwise (· ≤ ·) → H p = none → Q (.ref p) (upd H p (.lst (ys.map V.int)))) gSortDI := fun H G xs ds z s r h Q q => by
  unfold gSortDI at h
  split at h
  · obtain ⟨ns, h1, h⟩ := obind h
    obtain ⟨sz, rfl⟩ := oif h
    obtain ⟨x, rfl, r1⟩ := rps1 r
    generalize ek : D.dic false _ _ = dk at r1
    cases r1 with
    | dK e rs =>
      cases ek
      refine ⟨_, _, ns, rfl, s.rd e, keysI (unIs_eq h1), of_decide_eq_true sz, fun ns' p pm pw hp => ?_⟩
      have e : ns' = sortF id ns := sortF_uniq pm pw fun _ _ _ _ e => e
      subst e
      exact q _ _ _ ((Ext.refl s).new hp _) (.lst upd_same rps_ints)
    | _ => cases ek
  · cases h
def gSortDT : List D → Option D
  | [.dic true ks _] => (unTs ks).bind fun ns => if okKeys ns then some (.lst ((sortF (TS.code 1000) ns).map tupI)) else none
  | _ => none
theorem keyI_inj {k : List L2.Key} {n : List Int} (h : k.map keyD = n.map D.int) : k = n.map Sum.inl := by
  induction k generalizing n with
  | nil => cases n <;> cases h; rfl
  | cons a k ih =>
    cases n with
    | nil => cases h
    | cons b n =>
      rw [List.map_cons, List.map_cons] at h
      obtain ⟨h1, h2⟩ := List.cons.inj h
      rw [ih h2, List.map_cons]
      congr 1
      cases a <;> cases h1
      rfl
theorem keysT : ∀ {kvs : List (List L2.Key × V)} {ns : List (List Int)}, kvs.map (fun p => keyT p.1) = ns.map tupI → intKeys kvs ns
  | [], [], _ => rfl
  | [], _ :: _, h => by cases h
  | _ :: _, [], h => by cases h
  | p :: kvs, n :: ns, h => by
    rw [List.map_cons, List.map_cons] at h
    obtain ⟨h1, h2⟩ := List.cons.inj h
    have ih := keysT h2
    unfold intKeys at ih ⊢
    rw [List.map_cons, List.map_cons, ih]
    congr 1
    exact keyI_inj (D.tup.inj h1)
theorem rd_sortDT : RDs C rSortedDT gSortDT := fun H G xs ds z s r h Q q => by
  unfold gSortDT at h
  split at h
  · obtain ⟨ns, h1, h⟩ := obind h
    obtain ⟨sz, rfl⟩ := oif h
    obtain ⟨x, rfl, r1⟩ := rps1 r
    obtain ⟨k1, k2, k3⟩ := okKeys_of sz
    generalize ek : D.dic true _ _ = dk at r1
    cases r1 with
    | dT e rs =>
      cases ek
      refine ⟨_, _, ns, kLen ns, 1000, rfl, s.rd e, keysT (unTs_eq h1), by omega, k2, k3, fun L p pm hL pw hp => ?_⟩
      have e : L.map (·.2) = sortF (TS.code 1000) ns := sortF_uniq pm (List.pairwise_map.mpr pw) (okKeys_inj sz)
      obtain ⟨G', e', hg⟩ := Ext.seeTs s L hL
      refine q _ _ _ (e'.new hp _) (.lst upd_same ?_)
      rw [← e]
      exact (rps_tupI hg).mono (same_newG (e'.sub.none hp) _)
    | _ => cases ek
  · cases h
end
end Wd
namespace Wd
open PySem L2 Wb
section
variable {C : Cl} {fr : Bool} {K : PySem.W.Frag} {B : Bs} {P : Program} {w : World} {ti ti1 : TI} {ta tb te tk tv : TE} {f f' fe fk fv : FE} {fi fi1 : En → Option (List D)} {t : TA} {fs : En → Option (List D)} {tt tt1 : TT} {ft ft1 : En → Option Bool} {g g1 : TG} {b b1 : D → En → Option En} {vs vs1 : List Nat}
theorem fresh_of {H G H1 G1 : Hp} {p : Addr} (e : Ext H G H1 G1) (h : H1 p = none) : H p = none := by
  exact e.free h
/-- a comprehension's list, held by none else -/
theorem df_lc (hi : DIE C fr ti fi) (hg : DG C g vs b) (ht : DT C fr tt ft) (he : DE C fr te fe) : DF C fr (tLc ti g tt te vs) (mLc fi b ft fe vs) := fun B σ H G ρ bf k d hd Q q => by
  obtain ⟨ds, h1, hd⟩ := obind hd
  obtain ⟨r, h2, hd⟩ := obind hd
  obtain ⟨sz, rfl⟩ := oif hd
  refine hi B σ H G ρ bf k ds h1 _ fun J H1 G1 e1 y => fun A hA => ?_
  refine ⟨fun i m H2 => m = ds.length - i ∧ i ≤ ds.length ∧ ∃ G2 acc rs, Ext H1 G1 H2 G2 ∧ G2 A = none ∧ H2 A = some (.lst acc) ∧ Rps C G2 acc rs ∧ ∃ r', lcD b ft fe (wipeD ρ vs) (ds.drop i) = some r' ∧ r = rs ++ r', ?_, ?_⟩
  · exact ⟨_, rfl, Nat.zero_le _, G1, [], [], (Ext.refl e1.sub).newH hA _, e1.sub.none hA, upd_same, .nil, r, by rw [List.drop_zero]; exact h2, rfl⟩
  · rintro i m H2 ⟨rfl, hi', G2, acc, rs, e2, gA2, hA2, ra, r', hr, rfl⟩
    obtain ⟨y1, y2⟩ := y H2 G2 e2 i
    rcases Nat.lt_or_ge i ds.length with hlt | hge
    · have hx : ds[i]? = some ds[i] := List.getElem?_eq_getElem hlt
      obtain ⟨go, yl⟩ := y1 _ hx
      refine .inr ⟨go, _, fun H' z => z, fun x H3 yy => ?_⟩
      obtain ⟨G3, e3, rx⟩ := yl x H3 yy
      have e23 := e2.trans e3
      rw [drop_get hx] at hr
      unfold lcD at hr
      obtain ⟨ρ', b1, hr⟩ := obind hr
      obtain ⟨tb, b2, hr⟩ := obind hr
      have k3 : Ok B C (wipe σ vs) H3 G3 (wipeD ρ vs) := ((k.ext e1).ext e23).wipe vs
      refine hg _ H3 G3 _ x _ e3.sub rx ρ' b1 _ fun σ' kk w' => ⟨by rw [w']; exact wipe_idem, ?_⟩
      have k' := kk B H3 G3 (Same.refl _) k3
      refine ht B σ' H3 G3 ρ' bf k' tb b2 _ fun H4 G4 e4 => ?_
      have a3 : H3 A = some (.lst acc) := e3.same _ _ hA2
      have g3 : G3 A = none := e3.hid _ _ hA2 rfl gA2
      have a4 : H4 A = some (.lst acc) := e4.same _ _ a3
      have g4 : G4 A = none := e4.hid _ _ a3 rfl g3
      cases tb with
      | false => exact ⟨ds.length - (i + 1), by omega, rfl, by omega, G4, acc, rs, e23.trans e4, g4, a4, ra.mono (e3.grow.trans e4.grow), r', hr, rfl⟩
      | true =>
        rw [if_pos rfl]
        rw [if_pos rfl] at hr
        obtain ⟨z, b3, hr⟩ := obind hr
        obtain ⟨r2, b4, hr⟩ := obind hr
        cases hr
        refine he B σ' H4 G4 ρ' bf (k'.ext e4) z b3 _ fun v H5 G5 e5 rv => ?_
        have a5 : H5 A = some (.lst acc) := e5.same _ _ a4
        have g5 : G5 A = none := e5.hid _ _ a4 rfl g4
        refine ⟨acc, a5, ?_, ds.length - (i + 1), by omega, rfl, by omega, G5, acc ++ [v], rs ++ [z], ((e23.trans e4).trans e5).put hA g5 a5 _, g5, upd_same, (ra.mono ((e3.grow.trans e4.grow).trans e5.grow)).snoc rv, r2, b4, by rw [List.append_assoc]; rfl⟩
        rw [ra.len]
        refine Nat.lt_of_lt_of_le ?_ (okSize_le sz)
        rw [List.length_append, List.length_cons]
        omega
    · have e : i = ds.length := by omega
      subst e
      rw [List.drop_length] at hr
      cases hr
      rw [List.append_nil] at q
      exact .inl ⟨y2 rfl, q A H2 G2 (e1.trans e2) (fresh_of e1 hA) gA2 (.lst hA2 ra)⟩
def lc2D (b : D → En → Option En) (ft : En → Option Bool) (fi1 : En → Option (List D)) (b1 : D → En → Option En) (ft1 : En → Option Bool) (fe : FE) (vs1 : List Nat) (ρ : En) : List D → Option (List D)
  | [] => some []
  | d :: ds => (b d ρ).bind fun ρ' => (ft ρ').bind fun c => if c then (fi1 ρ').bind fun es => (lcD b1 ft1 fe (wipeD ρ' vs1) es).bind fun r1 => (lc2D b ft fi1 b1 ft1 fe vs1 ρ ds).bind fun r => some (r1 ++ r) else lc2D b ft fi1 b1 ft1 fe vs1 ρ ds
def mLc2 (fi : En → Option (List D)) (b : D → En → Option En) (ft : En → Option Bool) (fi1 : En → Option (List D)) (b1 : D → En → Option En) (ft1 : En → Option Bool) (fe : FE) (vs vs1 : List Nat) : En → Option (List D) := fun ρ => (fi ρ).bind fun ds => (lc2D b ft fi1 b1 ft1 fe vs1 (wipeD ρ vs) ds).bind fun r => if okSize r.length then some r else none
theorem df_lc2 (hi : DIE C fr ti fi) (hg : DG C g vs b) (ht : DT C fr tt ft) (hi1 : DI C fr ti1 fi1) (hg1 : DG C g1 vs1 b1) (ht1 : DT C fr tt1 ft1) (he : DE C fr te fe) :
    DF C fr (tLc2 ti g tt ti1 g1 tt1 te vs vs1) (fun ρ => (mLc2 fi b ft fi1 b1 ft1 fe vs vs1 ρ).bind fun r => some (.lst r)) := fun B σ H G ρ bf k d hd Q q => by
  obtain ⟨r0, hm, h⟩ := obind hd
  cases h
  obtain ⟨ds, h1, hm1⟩ := obind hm
  obtain ⟨r, h2, hm2⟩ := obind hm1
  obtain ⟨sz, rfl⟩ := oif hm2
  refine hi B σ H G ρ bf k ds h1 _ fun J H1 G1 e1 y => fun A hA => ?_
  refine ⟨fun i m H2 => m = ds.length - i ∧ i ≤ ds.length ∧ ∃ G2 acc rs, Ext H1 G1 H2 G2 ∧ G2 A = none ∧ H2 A = some (.lst acc) ∧ Rps C G2 acc rs ∧ ∃ r', lc2D b ft fi1 b1 ft1 fe vs1 (wipeD ρ vs) (ds.drop i) = some r' ∧ r = rs ++ r', ?_, ?_⟩
  · exact ⟨_, rfl, Nat.zero_le _, G1, [], [], (Ext.refl e1.sub).newH hA _, e1.sub.none hA, upd_same, .nil, r, by rw [List.drop_zero]; exact h2, rfl⟩
  · rintro i m H2 ⟨rfl, hi', G2, acc, rs, e2, gA2, hA2, ra, r', hr, hrr⟩
    obtain ⟨y1, y2⟩ := y H2 G2 e2 i
    rcases Nat.lt_or_ge i ds.length with hlt | hge
    · have hx : ds[i]? = some ds[i] := List.getElem?_eq_getElem hlt
      obtain ⟨go, yl⟩ := y1 _ hx
      refine .inr ⟨go, _, fun H' z => z, fun x H3 yy => ?_⟩
      obtain ⟨G3, e3, rx⟩ := yl x H3 yy
      have e23 := e2.trans e3
      rw [drop_get hx] at hr
      unfold lc2D at hr
      obtain ⟨ρ', c1, hr⟩ := obind hr
      obtain ⟨tb, c2, hr⟩ := obind hr
      have k0 : ∀ {H6 G6 : Hp}, Ext H1 G1 H6 G6 → Ok B C (wipe σ vs) H6 G6 (wipeD ρ vs) := fun e => ((k.ext e1).ext e).wipe vs
      refine hg _ H3 G3 _ x _ e3.sub rx ρ' c1 _ fun σ' kk w' => ⟨by rw [w']; exact wipe_idem, ?_⟩
      have k' := kk B H3 G3 (Same.refl _) (k0 e23)
      refine ht B σ' H3 G3 ρ' bf k' tb c2 _ fun H4 G4 e4 => ?_
      have a3 : H3 A = some (.lst acc) := e3.same _ _ hA2
      have g3 : G3 A = none := e3.hid _ _ hA2 rfl gA2
      have a4 : H4 A = some (.lst acc) := e4.same _ _ a3
      have g4 : G4 A = none := e4.hid _ _ a3 rfl g3
      cases tb with
      | false => exact ⟨ds.length - (i + 1), by omega, rfl, by omega, G4, acc, rs, e23.trans e4, g4, a4, ra.mono (e3.grow.trans e4.grow), r', hr, hrr⟩
      | true =>
        rw [if_pos rfl]
        rw [if_pos rfl] at hr
        obtain ⟨es, c3, hr⟩ := obind hr
        obtain ⟨r1, c4, hr⟩ := obind hr
        obtain ⟨r2, c5, hr⟩ := obind hr
        cases hr
        refine hi1 B σ' H4 G4 ρ' bf (k'.ext e4) es c3 _ fun J1 H5 G5 e5 yi => ?_
        have a5 : H5 A = some (.lst acc) := e5.same _ _ a4
        have g5 : G5 A = none := e5.hid _ _ a4 rfl g4
        have ra5 := ra.mono ((e3.grow.trans e4.grow).trans e5.grow)
        have E5 := (e23.trans e4).trans e5
        refine ⟨fun j m H6 => m = es.length - j ∧ j ≤ es.length ∧ ∃ G6 acc6 rs6, Ext H1 G1 H6 G6 ∧ Same G5 G6 ∧ G6 A = none ∧ H6 A = some (.lst acc6) ∧ Rps C G6 acc6 (rs ++ rs6) ∧ ∃ r', lcD b1 ft1 fe (wipeD ρ' vs1) (es.drop j) = some r' ∧ r1 = rs6 ++ r', ?_, ?_⟩
        · exact ⟨_, rfl, Nat.zero_le _, G5, acc, [], E5, Same.refl _, g5, a5, by rw [List.append_nil]; exact ra5, r1, by rw [List.drop_zero]; exact c4, rfl⟩
        · rintro j m H6 ⟨rfl, hj', G6, acc6, rs6, E6, s56, g6, a6, r6, r', hr', rfl⟩
          have bk6 : Bok B H6 G6 := ((k.ext e1).ext E6).bok
          obtain ⟨z1, z2⟩ := yi H6 G6 bk6 s56 j
          rcases Nat.lt_or_ge j es.length with hlt' | hge'
          · have hx' : es[j]? = some es[j] := List.getElem?_eq_getElem hlt'
            obtain ⟨go', yl'⟩ := z1 _ hx'
            refine .inr ⟨go', _, fun H' z => z, fun x' H7 yy' => ?_⟩
            obtain ⟨G7, e7, rx'⟩ := yl' x' H7 yy'
            rw [drop_get hx'] at hr'
            unfold lcD at hr'
            obtain ⟨ρ'', d1, hr'⟩ := obind hr'
            obtain ⟨tb', d2, hr'⟩ := obind hr'
            have E7 := E6.trans e7
            have s37 : Same G3 G7 := ((e4.grow.trans e5.grow).trans s56).trans e7.grow
            refine hg1 _ H7 G7 _ x' _ e7.sub rx' ρ'' d1 _ fun σ'' kk' w'' => ⟨by rw [w'']; exact wipe_idem, ?_⟩
            have k'' := kk' B H7 G7 (Same.refl _) ((kk B H7 G7 s37 (k0 E7)).wipe vs1)
            refine ht1 B σ'' H7 G7 ρ'' bf k'' tb' d2 _ fun H8 G8 e8 => ?_
            have a7 : H7 A = some (.lst acc6) := e7.same _ _ a6
            have g7 : G7 A = none := e7.hid _ _ a6 rfl g6
            have a8 : H8 A = some (.lst acc6) := e8.same _ _ a7
            have g8 : G8 A = none := e8.hid _ _ a7 rfl g7
            cases tb' with
            | false => exact ⟨es.length - (j + 1), by omega, rfl, by omega, G8, acc6, rs6, E7.trans e8, (s56.trans e7.grow).trans e8.grow, g8, a8, r6.mono (e7.grow.trans e8.grow), r', hr', rfl⟩
            | true =>
              rw [if_pos rfl]
              rw [if_pos rfl] at hr'
              obtain ⟨z, d3, hr'⟩ := obind hr'
              obtain ⟨r3, d4, hr'⟩ := obind hr'
              cases hr'
              refine he B σ'' H8 G8 ρ'' bf (k''.ext e8) z d3 _ fun v H9 G9 e9 rv => ?_
              have a9 : H9 A = some (.lst acc6) := e9.same _ _ a8
              have g9 : G9 A = none := e9.hid _ _ a8 rfl g8
              refine ⟨acc6, a9, ?_, es.length - (j + 1), by omega, rfl, by omega, G9, acc6 ++ [v], rs6 ++ [z], ((E7.trans e8).trans e9).put hA g9 a9 _, ((s56.trans e7.grow).trans e8.grow).trans e9.grow, g9, upd_same, ?_, r3, d4, by rw [List.append_assoc]; rfl⟩
              · rw [r6.len]
                refine Nat.lt_of_lt_of_le ?_ (okSize_le sz)
                rw [hrr]
                simp only [List.length_append, List.length_cons]
                omega
              · rw [← List.append_assoc]
                exact (r6.mono ((e7.grow.trans e8.grow).trans e9.grow)).snoc rv
          · have e : j = es.length := by omega
            subst e
            rw [List.drop_length] at hr'
            cases hr'
            rw [List.append_nil] at hrr
            exact .inl ⟨z2 rfl, ds.length - (i + 1), by omega, rfl, by omega, G6, acc6, rs ++ rs6, E6, g6, a6, r6, r2, c5, by rw [hrr, List.append_assoc]⟩
    · have e : i = ds.length := by omega
      subst e
      rw [List.drop_length] at hr
      cases hr
      rw [List.append_nil] at hrr
      subst hrr
      exact .inl ⟨y2 rfl, q A H2 G2 (e1.trans e2) (fresh_of e1 hA) gA2 (.lst hA2 ra)⟩
end
end Wd
namespace Wd
open PySem L2 Wb
def dcD (t : Bool) (b : D → En → Option En) (ft : En → Option Bool) (fk fv : FE) (ρ : En) : List D → List D → List D → Option D
  | [], ks, vs => some (.dic t ks vs)
  | d :: ds, ks, vs => (b d ρ).bind fun ρ' => (ft ρ').bind fun c => if c then (fk ρ').bind fun y => (fv ρ').bind fun z => (kof t y).bind fun k => if okSize ks.length then (match putD t ks vs k y z with
    | .dic _ ks' vs' => dcD t b ft fk fv ρ ds ks' vs'
    | _ => none) else none else dcD t b ft fk fv ρ ds ks vs
def mDc (t : Bool) (fi : En → Option (List D)) (b : D → En → Option En) (ft : En → Option Bool) (fk fv : FE) (vs : List Nat) : FE := fun ρ => (fi ρ).bind fun ds => dcD t b ft fk fv (wipeD ρ vs) ds [] []
section
variable {C : Cl} {fr : Bool} {K : PySem.W.Frag} {B : Bs} {P : Program} {w : World} {ti ti1 : TI} {ta tb te tk tv : TE} {f f' fe fk fv : FE} {fi fi1 : En → Option (List D)} {t : TA} {fs : En → Option (List D)} {tt tt1 : TT} {ft ft1 : En → Option Bool} {g g1 : TG} {b b1 : D → En → Option En} {vs vs1 : List Nat}
/-- a dict comprehension -/
theorem df_dcT (hi : DIE C fr ti fi) (hg : DG C g vs b) (ht : DT C fr tt ft) (hk : DE C fr tk fk) (hv : DE C fr tv fv) : DF C fr (tDcT ti g tt tk tv vs) (mDc true fi b ft fk fv vs) := fun B σ H G ρ bf k d hd Q q => by
  obtain ⟨ds, h1, hd⟩ := obind hd
  refine hi B σ H G ρ bf k ds h1 _ fun J H1 G1 e1 y => fun A hA => ?_
  refine ⟨fun i m H2 => m = ds.length - i ∧ i ≤ ds.length ∧ ∃ (G2 : Hp) (kvs : List (List L2.Key × V)) (us : List D), Ext H1 G1 H2 G2 ∧ G2 A = none ∧ H2 A = some (.dT kvs) ∧ Rps C G2 (kvs.map (·.2)) us ∧ dcD true b ft fk fv (wipeD ρ vs) (ds.drop i) (kvs.map fun p => keyT p.1) us = some d, ?_, ?_⟩
  · exact ⟨_, rfl, Nat.zero_le _, G1, [], [], (Ext.refl e1.sub).newH hA _, e1.sub.none hA, upd_same, .nil, by rw [List.drop_zero]; exact hd⟩
  · rintro i m H2 ⟨rfl, hi', G2, kvs, us, e2, gA2, hA2, ra, hr⟩
    obtain ⟨y1, y2⟩ := y H2 G2 e2 i
    rcases Nat.lt_or_ge i ds.length with hlt | hge
    · have hx : ds[i]? = some ds[i] := List.getElem?_eq_getElem hlt
      obtain ⟨go, yl⟩ := y1 _ hx
      refine .inr ⟨go, _, fun H' z => z, fun x H3 yy => ?_⟩
      obtain ⟨G3, e3, rx⟩ := yl x H3 yy
      have e23 := e2.trans e3
      rw [drop_get hx] at hr
      unfold dcD at hr
      obtain ⟨ρ', b1, hr⟩ := obind hr
      obtain ⟨tb, b2, hr⟩ := obind hr
      refine hg _ H3 G3 _ x _ e3.sub rx ρ' b1 _ fun σ' kk w' => ⟨by rw [w']; exact wipe_idem, ?_⟩
      have k' := kk B H3 G3 (Same.refl _) (((k.ext e1).ext e23).wipe vs)
      refine ht B σ' H3 G3 ρ' bf k' tb b2 _ fun H4 G4 e4 => ?_
      have a3 := e3.same _ _ hA2
      have g3 := e3.hid _ _ hA2 rfl gA2
      have a4 := e4.same _ _ a3
      have g4 := e4.hid _ _ a3 rfl g3
      cases tb with
      | false => exact ⟨ds.length - (i + 1), by omega, rfl, by omega, G4, kvs, us, e23.trans e4, g4, a4, ra.mono (e3.grow.trans e4.grow), hr⟩
      | true =>
        rw [if_pos rfl]
        rw [if_pos rfl] at hr
        obtain ⟨y, b3, hr⟩ := obind hr
        obtain ⟨z, b4, hr⟩ := obind hr
        obtain ⟨kx, b5, hr⟩ := obind hr
        split at hr
        · rename_i sz
          refine hk B σ' H4 G4 ρ' bf (k'.ext e4) y b3 _ fun yv H5 G5 e5 ry => hv B σ' H5 G5 ρ' bf ((k'.ext e4).ext e5) z b4 _ fun v H6 G6 e6 rv => ?_
          have a6 := e6.same _ _ (e5.same _ _ a4)
          have g6 := e6.hid _ _ (e5.same _ _ a4) rfl (e5.hid _ _ a4 rfl g4)
          have sz' : kvs.length < sizeLine := by
            have := okSize_lt sz
            rw [List.length_map] at this
            exact this
          have ra6 := ra.mono (((e3.grow.trans e4.grow).trans e5.grow).trans e6.grow)
          have E6 := ((e23.trans e4).trans e5).trans e6
          obtain ⟨ds', rfl, hk'⟩ := kof_inT b5
          obtain ⟨bb, ys, rfl, hb, rb⟩ := rp_tup ry
          rw [keys_V rb hk'] at hb
          have ed := keys_D hk'
          subst ed
          obtain ⟨vs', ep, rp⟩ := put_val kof_T kx rv ra6
          have ep' : putD true (kvs.map fun p => keyT p.1) us kx (.tup (kx.map keyD)) z = _ := ep
          rw [ep'] at hr
          exact ⟨kvs, kx, bb, rfl, e6.sub.tup (e6.grow _ _ hb), a6, sz', ds.length - (i + 1), by omega, rfl, by omega, G6, _, vs', E6.put hA g6 a6 _, g6, upd_same, rp, hr⟩
        · cases hr
    · have e : i = ds.length := by omega
      subst e
      rw [List.drop_length] at hr
      cases hr
      exact .inl ⟨y2 rfl, q A H2 G2 (e1.trans e2) (fresh_of e1 hA) gA2 (.dT hA2 ra)⟩
/-- a dict comprehension -/
theorem df_dcK (hi : DIE C fr ti fi) (hg : DG C g vs b) (ht : DT C fr tt ft) (hk : DE C fr tk fk) (hv : DE C fr tv fv) : DF C fr (tDc ti g tt tk tv vs) (mDc false fi b ft fk fv vs) := fun B σ H G ρ bf k d hd Q q => by
  obtain ⟨ds, h1, hd⟩ := obind hd
  refine hi B σ H G ρ bf k ds h1 _ fun J H1 G1 e1 y => fun A hA => ?_
  refine ⟨fun i m H2 => m = ds.length - i ∧ i ≤ ds.length ∧ ∃ (G2 : Hp) (kvs : List (L2.Key × V)) (us : List D), Ext H1 G1 H2 G2 ∧ G2 A = none ∧ H2 A = some (.dK kvs) ∧ Rps C G2 (kvs.map (·.2)) us ∧ dcD false b ft fk fv (wipeD ρ vs) (ds.drop i) (kvs.map fun p => keyD p.1) us = some d, ?_, ?_⟩
  · exact ⟨_, rfl, Nat.zero_le _, G1, [], [], (Ext.refl e1.sub).newH hA _, e1.sub.none hA, upd_same, .nil, by rw [List.drop_zero]; exact hd⟩
  · rintro i m H2 ⟨rfl, hi', G2, kvs, us, e2, gA2, hA2, ra, hr⟩
    obtain ⟨y1, y2⟩ := y H2 G2 e2 i
    rcases Nat.lt_or_ge i ds.length with hlt | hge
    · have hx : ds[i]? = some ds[i] := List.getElem?_eq_getElem hlt
      obtain ⟨go, yl⟩ := y1 _ hx
      refine .inr ⟨go, _, fun H' z => z, fun x H3 yy => ?_⟩
      obtain ⟨G3, e3, rx⟩ := yl x H3 yy
      have e23 := e2.trans e3
      rw [drop_get hx] at hr
      unfold dcD at hr
      obtain ⟨ρ', b1, hr⟩ := obind hr
      obtain ⟨tb, b2, hr⟩ := obind hr
      refine hg _ H3 G3 _ x _ e3.sub rx ρ' b1 _ fun σ' kk w' => ⟨by rw [w']; exact wipe_idem, ?_⟩
      have k' := kk B H3 G3 (Same.refl _) (((k.ext e1).ext e23).wipe vs)
      refine ht B σ' H3 G3 ρ' bf k' tb b2 _ fun H4 G4 e4 => ?_
      have a3 := e3.same _ _ hA2
      have g3 := e3.hid _ _ hA2 rfl gA2
      have a4 := e4.same _ _ a3
      have g4 := e4.hid _ _ a3 rfl g3
      cases tb with
      | false => exact ⟨ds.length - (i + 1), by omega, rfl, by omega, G4, kvs, us, e23.trans e4, g4, a4, ra.mono (e3.grow.trans e4.grow), hr⟩
      | true =>
        rw [if_pos rfl]
        rw [if_pos rfl] at hr
        obtain ⟨y, b3, hr⟩ := obind hr
        obtain ⟨z, b4, hr⟩ := obind hr
        obtain ⟨kx, b5, hr⟩ := obind hr
        split at hr
        · rename_i sz
          refine hk B σ' H4 G4 ρ' bf (k'.ext e4) y b3 _ fun yv H5 G5 e5 ry => hv B σ' H5 G5 ρ' bf ((k'.ext e4).ext e5) z b4 _ fun v H6 G6 e6 rv => ?_
          have a6 := e6.same _ _ (e5.same _ _ a4)
          have g6 := e6.hid _ _ (e5.same _ _ a4) rfl (e5.hid _ _ a4 rfl g4)
          have sz' : kvs.length < sizeLine := by
            have := okSize_lt sz
            rw [List.length_map] at this
            exact this
          have ra6 := ra.mono (((e3.grow.trans e4.grow).trans e5.grow).trans e6.grow)
          have E6 := ((e23.trans e4).trans e5).trans e6
          obtain ⟨k1, rfl, hk'⟩ := kof_inK b5
          have ev := key_V ry hk'
          have ed := key_D hk'
          subst ed
          obtain ⟨vs', ep, rp⟩ := put_val kof_K k1 rv ra6
          rw [ep] at hr
          exact ⟨kvs, k1, ev, a6, sz', ds.length - (i + 1), by omega, rfl, by omega, G6, _, vs', E6.put hA g6 a6 _, g6, upd_same, rp, hr⟩
        · cases hr
    · have e : i = ds.length := by omega
      subst e
      rw [List.drop_length] at hr
      cases hr
      exact .inl ⟨y2 rfl, q A H2 G2 (e1.trans e2) (fresh_of e1 hA) gA2 (.dK hA2 ra)⟩
def gSortST (rs : List D) : Option D := (unTs rs).bind fun ks => if okKeys ks then some (.lst ((sortF (TS.code 1000) (dd ks)).map tupI)) else none
end
end Wd
namespace Wd
open PySem L2 Wb
section
variable {C : Cl} {fr : Bool} {K : PySem.W.Frag} {B : Bs} {P : Program} {w : World} {ti ti1 : TI} {ta tb te tk tv td : TE} {f f' fe fk fv fd : FE} {fi fi1 : En → Option (List D)} {t : TA} {fs : En → Option (List D)} {tt tt1 : TT} {ft ft1 : En → Option Bool} {g g1 : TG} {b b1 : D → En → Option En} {vs vs1 : List Nat}
theorem unTs_app : ∀ {a c : List D} {k : List (List Int)}, unTs (a ++ c) = some k → ∃ ka kc, unTs a = some ka ∧ unTs c = some kc ∧ k = ka ++ kc
  | [], c, k, h => ⟨[], k, rfl, h, rfl⟩
  | d :: a, c, k, h => by
    rw [List.cons_append] at h
    unfold unTs at h
    obtain ⟨i, h1, h⟩ := obind h
    obtain ⟨r, h2, h⟩ := obind h
    cases h
    obtain ⟨ka, kc, e1, e2, e3⟩ := unTs_app h2
    refine ⟨i :: ka, kc, ?_, e2, by rw [e3]; rfl⟩
    unfold unTs
    rw [h1, e1]
    rfl
/-- a set of tuples in the making -/
theorem setTO_ncode {P : Program} {w : World} {a c : Addr} {L : List (Addr × List Int)} {q : Str} : SetTO P w a L ≠ LamX.CodeO c q := fun z => by
  have e := HO.ext.inj z
  obtain ⟨ob, eo⟩ : ∃ ob : Obj, ob = ⟨.none, none, .fields #[.none, .str q 0], #[]⟩ := ⟨_, rfl⟩
  obtain ⟨h0, eh⟩ : ∃ h0 : Heap, h0 = ⟨Array.replicate (a + c + 1) ob, {}⟩ := ⟨_, rfl⟩
  have at0 : ∀ b, b ≤ a + c → h0.get? b = some ob := fun b hb => by
    have : h0.objs[b]? = some ob := by
      rw [eh]
      show (Array.replicate (a + c + 1) ob)[b]? = _
      rw [Array.getElem?_replicate, if_pos (show b < a + c + 1 from Nat.lt_succ_of_le hb)]
    unfold Heap.get?
    rw [this, eo]
  have h1 : SetT0 P w h0 a L := by
    have : (fun h => SetT0 P w h a L) h0 := by
      rw [e]
      exact ⟨ob, #[.none, .str q 0], 0, at0 c (Nat.le_add_left c a), by rw [eo], rfl⟩
    exact this
  obtain ⟨es, ep, tb, ⟨o, ho, hc, hd⟩, rest⟩ := h1.ex
  rw [at0 a (Nat.le_add_right a c)] at ho
  cases ho
  rw [eo] at hd
  cases hd
structure SetIn (P : Program) (w : World) (A : Addr) (H G : Hp) (L : List (Addr × List Int)) (ks : List (List Int)) : Prop where
  at_ : H A = some (SetTO P w A L)
  seen : ∀ p ∈ L, G p.1 = some (.tup (p.2.map V.int))
  nd : (L.map (·.2)).Nodup
  mem : ∀ k, k ∈ L.map (·.2) ↔ k ∈ ks
  few : L.length ≤ ks.length
theorem SetIn.put {A x : Addr} {H G H' : Hp} {L L' : List (Addr × List Int)} {ks : List (List Int)} {k : List Int} (s : SetIn P w A H G L ks) (p : PutIn L x k L') (hx : G x = some (.tup (k.map V.int))) (h : H' A = some (SetTO P w A L')) : SetIn P w A H' G L' (ks ++ [k]) := by
  by_cases hk : k ∈ L.map (·.2)
  · have e := p.1 hk
    subst e
    refine ⟨h, s.seen, s.nd, fun k' => ?_, by rw [List.length_append]; have := s.few; omega⟩
    rw [s.mem, List.mem_append, List.mem_singleton]
    exact ⟨.inl, fun z => z.elim id fun e => by rw [e]; exact (s.mem k).mp hk⟩
  · have pm := p.2 hk
    have pm2 := pm.map (·.2)
    refine ⟨h, fun q hq => ?_, pm2.nodup_iff.mpr (List.nodup_cons.mpr ⟨hk, s.nd⟩), fun k' => ?_, ?_⟩
    · rcases List.mem_cons.mp (pm.mem_iff.mp hq) with rfl | hq
      · exact hx
      · exact s.seen q hq
    · rw [pm2.mem_iff, List.map_cons, List.mem_cons, List.mem_append, List.mem_singleton, s.mem]
      exact Or.comm
    · rw [pm.length_eq, List.length_append, List.length_cons]
      have := s.few
      simp
      omega
theorem SetIn.mono {A : Addr} {H G H' G' : Hp} {L : List (Addr × List Int)} {ks : List (List Int)} (s : SetIn P w A H G L ks) (e : Ext H G H' G') : SetIn P w A H' G' L ks := ⟨e.same _ _ s.at_, fun p hp => e.grow _ _ (s.seen p hp), s.nd, s.mem, s.few⟩
theorem unT_ref {H G : Hp} {v : V} {d : D} {k : List Int} (r : Rp C G v d) (h : unT d = some k) : ∃ x, v = .ref x ∧ G x = some (.tup (k.map V.int)) := by
  rw [unT_eq h] at r
  obtain ⟨a, xs, rfl, hx, rs⟩ := rp_tup r
  rw [rs.ints] at hx
  exact ⟨a, rfl, hx⟩
theorem unTs_one {d : D} {ds : List D} {k : List (List Int)} (h : unTs (d :: ds) = some k) : ∃ i r, unT d = some i ∧ unTs ds = some r ∧ k = i :: r := by
  unfold unTs at h
  obtain ⟨i, h1, h⟩ := obind h
  obtain ⟨r, h2, h⟩ := obind h
  cases h
  exact ⟨i, r, h1, h2, rfl⟩
theorem de_sortSc2 (hi : DIE C fr ti fi) (hg : DG C g vs b) (ht : DT C fr tt ft) (hi1 : DI C fr ti1 fi1) (hg1 : DG C g1 vs1 b1) (ht1 : DT C fr tt1 ft1) (he : DE C fr te fe) :
    DE C fr (tCB (rSortedT K P w) (tCons (tSc2 P w K ti g tt ti1 g1 tt1 te vs vs1) tNil)) (fun ρ => (mLc2 fi b ft fi1 b1 ft1 fe vs vs1 ρ).bind gSortST) := fun B σ H G ρ bf k d hd Q q => by
  obtain ⟨r0, hm, h⟩ := obind hd
  obtain ⟨kall, hk, h⟩ := obind h
  obtain ⟨okk, rfl⟩ := oif h
  obtain ⟨k1, k2, k3⟩ := okKeys_of okk
  obtain ⟨ds, h1, hm1⟩ := obind hm
  obtain ⟨r, h2, hm2⟩ := obind hm1
  obtain ⟨sz, rfl⟩ := oif hm2
  refine hi B σ H G ρ bf k ds h1 _ fun J H1 G1 e1 y => fun A hA => ?_
  refine ⟨fun i m H2 => m = ds.length - i ∧ i ≤ ds.length ∧ ∃ G2 L ks, Ext H1 G1 H2 G2 ∧ G2 A = none ∧ SetIn P w A H2 G2 L ks ∧ ∃ r' kr, lc2D b ft fi1 b1 ft1 fe vs1 (wipeD ρ vs) (ds.drop i) = some r' ∧ unTs r' = some kr ∧ kall = ks ++ kr, ?_, ?_⟩
  · exact ⟨_, rfl, Nat.zero_le _, G1, [], [], (Ext.refl e1.sub).newH hA _, e1.sub.none hA, ⟨upd_same, fun _ h => (nomatch h), .nil, fun _ => Iff.rfl, Nat.le_refl _⟩, r, kall, by rw [List.drop_zero]; exact h2, hk, rfl⟩
  · rintro i m H2 ⟨rfl, hi', G2, L, ks, e2, gA2, sA2, r', kr, hr, hkr, rfl⟩
    obtain ⟨y1, y2⟩ := y H2 G2 e2 i
    rcases Nat.lt_or_ge i ds.length with hlt | hge
    · have hx : ds[i]? = some ds[i] := List.getElem?_eq_getElem hlt
      obtain ⟨go, yl⟩ := y1 _ hx
      refine .inr ⟨go, _, fun H' z => z, fun x H3 yy => ?_⟩
      obtain ⟨G3, e3, rx⟩ := yl x H3 yy
      have e23 := e2.trans e3
      rw [drop_get hx] at hr
      unfold lc2D at hr
      obtain ⟨ρ', c1, hr⟩ := obind hr
      obtain ⟨tb, c2, hr⟩ := obind hr
      have k0 : ∀ {H6 G6 : Hp}, Ext H1 G1 H6 G6 → Ok B C (wipe σ vs) H6 G6 (wipeD ρ vs) := fun e => ((k.ext e1).ext e).wipe vs
      refine hg _ H3 G3 _ x _ e3.sub rx ρ' c1 _ fun σ' kk w' => ⟨by rw [w']; exact wipe_idem, ?_⟩
      have k' := kk B H3 G3 (Same.refl _) (k0 e23)
      refine ht B σ' H3 G3 ρ' bf k' tb c2 _ fun H4 G4 e4 => ?_
      have g3 : G3 A = none := e3.hid _ _ sA2.at_ rfl gA2
      have s3 := sA2.mono e3
      have g4 : G4 A = none := e4.hid _ _ s3.at_ rfl g3
      have s4 := s3.mono e4
      cases tb with
      | false => exact ⟨ds.length - (i + 1), by omega, rfl, by omega, G4, L, ks, e23.trans e4, g4, s4, r', kr, hr, hkr, rfl⟩
      | true =>
        rw [if_pos rfl]
        rw [if_pos rfl] at hr
        obtain ⟨es, c3, hr⟩ := obind hr
        obtain ⟨r1, c4, hr⟩ := obind hr
        obtain ⟨r2, c5, hr⟩ := obind hr
        cases hr
        obtain ⟨ka, kc, u1, u2, rfl⟩ := unTs_app hkr
        refine hi1 B σ' H4 G4 ρ' bf (k'.ext e4) es c3 _ fun J1 H5 G5 e5 yi => ?_
        have g5 : G5 A = none := e5.hid _ _ s4.at_ rfl g4
        have s5 := s4.mono e5
        have E5 := (e23.trans e4).trans e5
        refine ⟨fun j m H6 => m = es.length - j ∧ j ≤ es.length ∧ ∃ G6 L6 k6, Ext H1 G1 H6 G6 ∧ Same G5 G6 ∧ G6 A = none ∧ SetIn P w A H6 G6 L6 (ks ++ k6) ∧ ∃ r' kr', lcD b1 ft1 fe (wipeD ρ' vs1) (es.drop j) = some r' ∧ unTs r' = some kr' ∧ ka = k6 ++ kr', ?_, ?_⟩
        · exact ⟨_, rfl, Nat.zero_le _, G5, L, [], E5, Same.refl _, g5, by rw [List.append_nil]; exact s5, r1, ka, by rw [List.drop_zero]; exact c4, u1, rfl⟩
        · rintro j m H6 ⟨rfl, hj', G6, L6, k6, E6, s56, g6, s6, r', kr', hr', hkr', rfl⟩
          have bk6 : Bok B H6 G6 := ((k.ext e1).ext E6).bok
          obtain ⟨z1, z2⟩ := yi H6 G6 bk6 s56 j
          rcases Nat.lt_or_ge j es.length with hlt' | hge'
          · have hx' : es[j]? = some es[j] := List.getElem?_eq_getElem hlt'
            obtain ⟨go', yl'⟩ := z1 _ hx'
            refine .inr ⟨go', _, fun H' z => z, fun x' H7 yy' => ?_⟩
            obtain ⟨G7, e7, rx'⟩ := yl' x' H7 yy'
            rw [drop_get hx'] at hr'
            unfold lcD at hr'
            obtain ⟨ρ'', d1, hr'⟩ := obind hr'
            obtain ⟨tb', d2, hr'⟩ := obind hr'
            have E7 := E6.trans e7
            have s37 : Same G3 G7 := ((e4.grow.trans e5.grow).trans s56).trans e7.grow
            refine hg1 _ H7 G7 _ x' _ e7.sub rx' ρ'' d1 _ fun σ'' kk' w'' => ⟨by rw [w'']; exact wipe_idem, ?_⟩
            have k'' := kk' B H7 G7 (Same.refl _) ((kk B H7 G7 s37 (k0 E7)).wipe vs1)
            refine ht1 B σ'' H7 G7 ρ'' bf k'' tb' d2 _ fun H8 G8 e8 => ?_
            have g7 : G7 A = none := e7.hid _ _ s6.at_ rfl g6
            have s7 := s6.mono e7
            have g8 : G8 A = none := e8.hid _ _ s7.at_ rfl g7
            have s8 := s7.mono e8
            cases tb' with
            | false => exact ⟨es.length - (j + 1), by omega, rfl, by omega, G8, L6, k6, E7.trans e8, (s56.trans e7.grow).trans e8.grow, g8, s8, r', kr', hr', hkr', rfl⟩
            | true =>
              rw [if_pos rfl]
              rw [if_pos rfl] at hr'
              obtain ⟨z, d3, hr'⟩ := obind hr'
              obtain ⟨r3, d4, hr'⟩ := obind hr'
              cases hr'
              obtain ⟨kz, kr3, v1, v2, rfl⟩ := unTs_one hkr'
              refine he B σ'' H8 G8 ρ'' bf (k''.ext e8) z d3 _ fun v H9 G9 e9 rv => ?_
              have g9 : G9 A = none := e9.hid _ _ s8.at_ rfl g8
              have s9 := s8.mono e9
              obtain ⟨x9, rfl, hx9⟩ := unT_ref (H := H9) rv v1
              have lk : L6.length + 1 < 64 := by
                have := s9.few
                simp only [List.length_append, List.length_cons] at k1 this
                omega
              refine ⟨L6, x9, kz, rfl, s9.at_, fun p hp => SqT.of (e9.sub.tup (s9.seen p hp)), SqT.of (e9.sub.tup hx9), lk, fun L' hL' => ?_⟩
              exact ⟨es.length - (j + 1), by omega, rfl, by omega, G9, L', k6 ++ [kz], ((E7.trans e8).trans e9).put' hA g9 s9.at_ _ (fun _ _ => setTO_ncode), ((s56.trans e7.grow).trans e8.grow).trans e9.grow, g9, by rw [← List.append_assoc]; exact s9.put hL' hx9 upd_same, r3, kr3, d4, v2, by rw [List.append_assoc]; rfl⟩
          · have e : j = es.length := by omega
            subst e
            rw [List.drop_length] at hr'
            cases hr'
            cases hkr'
            exact .inl ⟨z2 rfl, ds.length - (i + 1), by omega, rfl, by omega, G6, L6, ks ++ k6, E6, g6, s6, r2, kc, c5, u2, by rw [List.append_nil, List.append_assoc]⟩
    · have e : i = ds.length := by omega
      subst e
      rw [List.drop_length] at hr
      cases hr
      cases hkr
      refine .inl ⟨y2 rfl, A, L, kLen (ks ++ []), 1000, rfl, sA2.at_, fun p hp => SqT.of (e2.sub.tup (sA2.seen p hp)), k2, fun p hp => ?_, fun L' p pm nd few pw hp => ?_⟩
      · exact k3 _ (List.mem_append_left _ ((sA2.mem _).mp (List.mem_map.mpr ⟨p, hp, rfl⟩)))
      · have E2 := e1.trans e2
        have pm2 := pm.map (·.2)
        have e := sortF_dd (m := ks ++ []) nd (fun a => by rw [List.append_nil, pm2.mem_iff]; exact sA2.mem a) (List.pairwise_map.mpr pw) (okKeys_inj okk)
        rw [← e] at q
        refine q _ _ _ (E2.new hp _) (.lst upd_same ?_)
        exact (rps_tupI fun z hz => sA2.seen z (pm.mem_iff.mp hz)).mono (same_newG (E2.sub.none hp) _)
end
end Wd
namespace Wd
open PySem L2 Wb
section
variable {C : Cl} {fr : Bool} {K : PySem.W.Frag} {B : Bs} {P : Program} {w : World} {ti ti1 : TI} {ta tb te tk tv td : TE} {f f' fe fk fv fd : FE} {fi fi1 : En → Option (List D)} {t : TA} {fs : En → Option (List D)} {tt tt1 : TT} {ft ft1 : En → Option Bool} {g g1 : TG} {b b1 : D → En → Option En} {vs vs1 : List Nat}
def D.tru : D → Option Bool
  | .non => some false
  | .bl b => some b
  | .int i => some (i != 0)
  | .tup ds => some (!ds.isEmpty)
  | .lst ds => some (!ds.isEmpty)
  | _ => none
theorem Rps.emp {G : Hp} {xs : List V} {ds : List D} (h : Rps C G xs ds) : xs.isEmpty = ds.isEmpty := by
  cases h <;> rfl
theorem Rp.tru {G H : Hp} (s : Sub G H) {v : V} {d : D} {k : Bool} (r : Rp C G v d) (h : d.tru = some k) : TruV K v H k := by
  cases r with
  | non => cases h; exact rfl
  | bl b => cases h; exact rfl
  | int i => cases h; exact rfl
  | str x => cases h
  | tup e r =>
    cases h
    exact .inr (.inl ⟨_, SqT.of (s.tup e), by rw [r.emp]⟩)
  | lst e r =>
    cases h
    exact .inl ⟨_, SqL.of (s.lst e), by rw [r.emp]⟩
  | dK _ _ => cases h
  | dT _ _ => cases h
  | dX _ _ _ _ _ => cases h
  | ctt _ _ _ => cases h
  | obj _ _ => cases h
def mTru (f : FE) : En → Option Bool := fun ρ => (f ρ).bind D.tru
theorem dt_tru (h : DE C fr ta f) : DT C fr (fun σ H Q => ta σ H fun x H' => ∃ k, TruV K x H' k ∧ Q k H') (mTru f) := fun B σ H G ρ bf k b hb Q q => by
  obtain ⟨x, h1, hx⟩ := obind hb
  exact h B σ H G ρ bf k x h1 _ fun v H1 G1 e1 r1 => ⟨b, r1.tru e1.sub hx, q H1 G1 e1⟩
def mTruT (f : FE) : En → Option Bool := fun ρ => (f ρ).bind fun d => match d with
  | .dic true ks _ => some (!ks.isEmpty)
  | _ => none
theorem dt_truT (hf : fr = true) (h : DE C fr ta f) : DT C fr (fun σ H Q => ta σ H fun x H' => rTruT x H' Q) (mTruT f) := fun B σ H G ρ bf k b hb Q q => by
  obtain ⟨x, h1, hx⟩ := obind hb
  refine h B σ H G ρ bf k x h1 _ fun v H1 G1 e1 r1 => ?_
  split at hx
  · cases hx
    generalize ek : D.dic true _ _ = dk at r1
    cases r1 with
    | dT e rs =>
      cases ek
      rename_i kvs
      refine ⟨_, _, rfl, (k.ext e1).bok.unl (bf hf) _ _ e, ?_⟩
      have : (!kvs.isEmpty) = !(kvs.map fun p => keyT p.1).isEmpty := by cases kvs <;> rfl
      rw [this]
      exact q H1 G1 e1
    | _ => cases ek
  · cases hx
/-- isinstance -/
def mIsi (T : String) (f : FE) : FE := fun ρ => (f ρ).bind fun d => if d.plain then some (.bl (isA d.py T)) else none
theorem de_isi {T : String} (hT : T = "int" ∨ T = "bool" ∨ T = "str" ∨ T = "tuple" ∨ T = "list") (ha : DE C fr ta f) : DE C fr (tCB (rIsi K) (tCons ta (tCons (tC (.ty T)) tNil))) (mIsi T f) := fun B σ H G ρ bf k d hd Q q => by
  obtain ⟨x, h1, hx⟩ := obind hd
  obtain ⟨pl, rfl⟩ := oif hx
  refine ha B σ H G ρ bf k x h1 _ fun v H1 G1 e1 r1 => ?_
  exact rd_isi (r1.py e1.sub pl) hT (q _ H1 G1 e1 (.bl _))
def mIsi2 (T T' : String) (f : FE) : FE := fun ρ => (f ρ).bind fun d => if d.plain then some (.bl (isA d.py T || isA d.py T')) else none
theorem de_isi2 {T T' : String} (hT : T = "int" ∨ T = "bool" ∨ T = "str" ∨ T = "tuple" ∨ T = "list") (hT' : T' = "int" ∨ T' = "bool" ∨ T' = "str" ∨ T' = "tuple" ∨ T' = "list") (ha : DE C fr ta f) :
    DE C fr (tCB (rIsiT K) (tCons ta (tCons (tTup (tCons (tC (.ty T)) (tCons (tC (.ty T')) tNil))) tNil))) (mIsi2 T T' f) := fun B σ H G ρ bf k d hd Q q => by
  obtain ⟨x, h1, hx⟩ := obind hd
  obtain ⟨pl, rfl⟩ := oif hx
  refine ha B σ H G ρ bf k x h1 _ fun v H1 G1 e1 r1 => ⟨by show 2 ≤ sizeLine; decide, fun p hp => ?_⟩
  have x2 := e1.newH hp (.tup [.ty T, .ty T'])
  refine ⟨v, p, _, _, [.type T, .type T'], _, rfl, upd_same, .cons (.ty T) (.cons (.ty T') .nil), dp_ty (r1.py x2.sub pl), ?_, q _ _ G1 x2 (.bl _)⟩
  refine kitAny_cons (isA_eq hT) (fun e => ?_) (fun e => by rw [e]; rfl)
  rw [e, Bool.false_or]
  exact kitAny_cons (isA_eq hT') (fun e => by rw [e, kitAny_nil]) id
def DO (C : Cl) (fr : Bool) (to : TO) (f : En → Option (Option Int)) : Prop := ∀ (B : Bs) (σ : L2.St) (H G : Hp) (ρ : En), (fr = true → B.free = true) → Ok B C σ H G ρ → ∀ o, f ρ = some o → ∀ Q : Option Int → Hp → Prop, (∀ H' G', Ext H G H' G' → Q o H') → to σ H Q
def mNoP : En → Option (Option Int) := fun _ => some none
def mPart (f : FE) : En → Option (Option Int) := fun ρ => (f ρ).bind fun d => (unI d).bind fun i => some (some i)
theorem do_none : DO C fr tNoPart mNoP := fun B σ H G ρ bf k o h Q q => by
  cases h
  exact q H G (Ext.refl k.sub)
theorem do_some (ha : DE C fr ta f) : DO C fr (tPart ta) (mPart f) := fun B σ H G ρ bf k o h Q q => by
  obtain ⟨x, h1, hx⟩ := obind h
  obtain ⟨i, h2, hx⟩ := obind hx
  cases hx
  refine ha B σ H G ρ bf k x h1 _ fun v H1 G1 e1 r1 => ?_
  cases x <;> cases h2
  cases r1
  exact ⟨_, rfl, q H1 G1 e1⟩
def cutD {α : Type} (xs : List α) (lo hi : Option Int) : List α := (xs.drop (HT.sIx xs.length 0 lo)).take (HT.sIx xs.length xs.length hi - HT.sIx xs.length 0 lo)
theorem Rps.cut {G : Hp} {xs : List V} {ds : List D} {lo hi : Option Int} (r : Rps C G xs ds) : Rps C G (cutV xs lo hi) (cutD ds lo hi) := by
  unfold cutV cutD
  rw [r.len]
  exact (r.drop _).take _
def mSlT (f : FE) (fl fh : En → Option (Option Int)) : FE := fun ρ => (f ρ).bind fun d => (fl ρ).bind fun lo => (fh ρ).bind fun hi => match d with
  | .tup ds => some (.tup (cutD ds lo hi))
  | _ => none
def mSlL (f : FE) (fl fh : En → Option (Option Int)) : FE := fun ρ => (f ρ).bind fun d => (fl ρ).bind fun lo => (fh ρ).bind fun hi => match d with
  | .lst ds => some (.lst (cutD ds lo hi))
  | _ => none
theorem de_slL {tl th : TO} {fl fh : En → Option (Option Int)} (ha : DE C fr ta f) (hl : DO C fr tl fl) (hh : DO C fr th fh) : DE C fr (tSl (rSlL K) ta tl th) (mSlL f fl fh) := fun B σ H G ρ bf k d h Q q => by
  obtain ⟨x, h1, h⟩ := obind h
  obtain ⟨lo, h2, h⟩ := obind h
  obtain ⟨hi, h3, h⟩ := obind h
  split at h
  · cases h
    refine ha B σ H G ρ bf k _ h1 _ fun v H1 G1 e1 r1 => hl B σ H1 G1 ρ bf (k.ext e1) lo h2 _ fun H2 G2 e2 => hh B σ H2 G2 ρ bf ((k.ext e1).ext e2) hi h3 _ fun H3 G3 e3 => ?_
    obtain ⟨a, xs, rfl, hx, rs⟩ := rp_lst ((r1.mono e2.grow).mono e3.grow)
    have E := (e1.trans e2).trans e3
    exact ⟨a, xs, rfl, SqL.of (e3.sub.lst hx), fun p hp => q _ _ _ (E.new hp _) (.lst upd_same (rs.cut.mono (same_newG (E.sub.none hp) _)))⟩
  · cases h
theorem cutV_all {xs : List V} {lo hi : Option Int} (h : HT.sIx xs.length 0 lo = 0 ∧ HT.sIx xs.length xs.length hi = xs.length) : cutV xs lo hi = xs := by
  unfold cutV
  rw [h.1, h.2, List.drop_zero, Nat.sub_zero, List.take_length]
theorem de_slT {tl th : TO} {fl fh : En → Option (Option Int)} (ha : DE C fr ta f) (hl : DO C fr tl fl) (hh : DO C fr th fh) : DE C fr (tSl (rSlA K) ta tl th) (mSlT f fl fh) := fun B σ H G ρ bf k d h Q q => by
  obtain ⟨x, h1, h⟩ := obind h
  obtain ⟨lo, h2, h⟩ := obind h
  obtain ⟨hi, h3, h⟩ := obind h
  split at h
  · cases h
    refine ha B σ H G ρ bf k _ h1 _ fun v H1 G1 e1 r1 => hl B σ H1 G1 ρ bf (k.ext e1) lo h2 _ fun H2 G2 e2 => hh B σ H2 G2 ρ bf ((k.ext e1).ext e2) hi h3 _ fun H3 G3 e3 => ?_
    obtain ⟨a, xs, rfl, hx, rs⟩ := rp_tup ((r1.mono e2.grow).mono e3.grow)
    have E := (e1.trans e2).trans e3
    refine ⟨a, xs, rfl, SqT.of (e3.sub.tup hx), fun z => ?_, fun _ p hp => q _ _ _ (E.new hp _) (.tup upd_same (rs.cut.mono (same_newG (E.sub.none hp) _)))⟩
    have rc := rs.cut (lo := lo) (hi := hi)
    rw [cutV_all z] at rc
    exact q _ H3 G3 E (.tup hx rc)
  · cases h
def mLock (i : Nat) (f : FE) : FE := fun ρ => (lockE i ρ).bind f
theorem de_lockE (i : Nat) (he : DE C false te f) : DE C true (tLockE te) (mLock i f) := fun B σ H G ρ bf k d h Q q => by
  obtain ⟨ρ1, e1, h⟩ := obind h
  unfold lockE at e1
  split at e1
  · rename_i t ks vs hi
    cases e1
    have hv : mVar i ρ = some (.dic t ks vs) := by unfold mVar; rw [hi]
    obtain ⟨v, hs, r⟩ := ok_var k hv
    have fin : ∀ (a : Addr) (u : HO), v = .ref a → DictO u → G a = some u → tLockE te σ H Q := fun a u ev du ga => by
      subst ev
      have ha := k.bok.unl (bf rfl) a u ga (tbl_dic du)
      refine ⟨a, u, ha, dict_mut du, fun ob => ?_⟩
      have kl := lock_ok (ob := ob) k (bf rfl) hs ⟨_, hi⟩ du ga r
      refine he (lockB B a ob u) σ _ G _ (fun f => nomatch f) kl d h _ fun v1 H1 G1 x1 r1 => ?_
      have hfz : H1 a = some (.frz ob u) := x1.same a _ upd_same
      exact ⟨hfz, q v1 _ G1 (x1.unfrz ha ga du) r1⟩
    cases r with
    | dK e _ => exact fin _ _ rfl (by exact True.intro) e
    | dT e _ => exact fin _ _ rfl (by exact True.intro) e
  · cases e1
theorem rd_neg : RD1 C (rU fun i => .int (-i)) (fun d => (unI d).bind fun i => some (.int (-i))) := fun H G x d z s r h Q q => by
  obtain ⟨i, h1, h⟩ := obind h
  cases h
  cases d <;> cases h1
  cases r
  exact ⟨_, rfl, q _ H G (Ext.refl s) (.int _)⟩
end
end Wd
namespace Wd
open PySem L2 Wb
section
variable {C : Cl} {fr : Bool} {ta tb tc : TE} {f f' f3 : FE}
def mChain (g g' : D → D → Option D) (f f' f3 : FE) : FE := fun ρ => (f ρ).bind fun a => (f' ρ).bind fun b => (g a b).bind fun z => match z with
  | .bl true => (f3 ρ).bind fun c => g' b c
  | .bl false => some (.bl false)
  | _ => none
theorem de_chain {r r' : R2} {g g' : D → D → Option D} (h1 : RD2 C r g) (h2 : RD2 C r' g') (ha : DE C fr ta f) (hb : DE C fr tb f') (hc : DE C fr tc f3) : DE C fr (tChain r r' ta tb tc) (mChain g g' f f' f3) := fun B σ H G ρ bf k d h Q q => by
  obtain ⟨a, e1, h⟩ := obind h
  obtain ⟨b, e2, h⟩ := obind h
  obtain ⟨z, e3, h⟩ := obind h
  refine ha B σ H G ρ bf k a e1 _ fun x H1 G1 x1 r1 => hb B σ H1 G1 ρ bf (k.ext x1) b e2 _ fun y H2 G2 x2 r2 => ?_
  refine h1 H2 G2 x y a b z x2.sub (r1.mono x2.grow) r2 e3 _ fun u H3 G3 x3 r3 => ?_
  cases z with
  | bl c =>
    cases r3
    refine ⟨_, rfl, ?_⟩
    have E := (x1.trans x2).trans x3
    cases c with
    | true =>
      rw [if_pos rfl]
      obtain ⟨c, e4, h⟩ := obind h
      exact hc B σ H3 G3 ρ bf (k.ext E) c e4 _ fun w H4 G4 x4 r4 => h2 H4 G4 y w b c d x4.sub ((r2.mono x3.grow).mono x4.grow) r4 h Q fun v H5 G5 x5 r5 => q v H5 G5 ((E.trans x4).trans x5) r5
    | false =>
      rw [if_neg Bool.false_ne_true]
      cases h
      exact q _ H3 G3 E (.bl false)
  | _ => cases h
/-- a, b = [..], [..], each held by its name alone -/
def sParOO (i j : Nat) (f f' : FE) : FS := fun ρ => (f ρ).bind fun a => (f' ρ).bind fun b => some (.nx, (ρ.set i (some (.own a))).set j (some (.own b)))
theorem ds_parOO (i j : Nat) (ha : DF C fr ta f) (hb : DF C fr tb f') : Wd.DS C fr (tPar i j (tCons ta (tCons tb tNil))) (sParOO i j f f') := fun B σ H G ρ bf k r h E z => by
  obtain ⟨a, e1, h⟩ := obind h
  obtain ⟨b, e2, h⟩ := obind h
  cases h
  refine ha B σ H G ρ bf k a e1 _ fun p H1 G1 x1 hp gp r1 => hb B σ H1 G1 ρ bf (k.ext x1) b e2 _ fun q H2 G2 x2 hq gq r2 => ?_
  refine ⟨_, _, rfl, z _ H2 G2 ?_ (x1.grow.trans x2.grow)⟩
  exact (k.setOwn i x1 hp gp r1).setOwn j x2 hq gq r2
end
end Wd
namespace Wd
open PySem L2 Wb
def SrcAt (H : Hp) (h l : Addr) (s : Src) : Prop := h ≠ l ∧ H h = some (.lst [.int s.st, .ref l, .int s.ix]) ∧ H l = some (.lst (s.cs.map V.int)) ∧ s.cs.length ≤ 63
structure ExtS (h l : Addr) (H G H' G' : Hp) : Prop where
  same : ∀ b o, H b = some o → b ≠ h → b ≠ l → (n : tblO o = false := by rfl) → H' b = some o
  tbl : ∀ b ps, H b = some (.tbl ps) → b ≠ h → b ≠ l → ∃ ps', H' b = some (.tbl ps')
  grow : Same G G'
  sub : Sub G' H'
  hid : ∀ b o, H b = some o → tupO o = false → G b = none → G' b = none
  ex : ∀ b o, G' b = some o → G b = some o ∨ (H' b = some o ∧ tblO o = false)
abbrev MS := Src → List D → Option (D × Src)
def spS (C : Cl) (fr : Bool) (m : MS) : Sp := fun vs H Q _ => ∃ (h l : Addr) (s : Src) (G : Hp) (rest : List V) (ds : List D) (d : D) (s' : Src), vs = .ref h :: rest ∧ SrcAt H h l s ∧ G h = none ∧ G l = none ∧ SubM C G H ∧ (fr = true → ∀ b o, G b = some o → tblO o = false → H b = some o) ∧ Rps C G rest ds ∧ m s ds = some (d, s') ∧
  ∀ v H' G', ExtS h l H G H' G' → SrcAt H' h l s' → Rp C G' v d → Q v H'
def withS (i : Nat) (s : Src) (ρ : En) : En := ρ.set i (some (.src s))
section
variable {C : Cl} {B : Bs} {i : Nat}
/-- the source as a name holds it -/
theorem ok_srcAt {σ : L2.St} {H G : Hp} {ρ : En} {s : Src} (k : Ok B C σ H G ρ) (hi : ρ[i]? = some (some (.src s))) : ∃ h l, σ[i]? = some (some (.ref h)) ∧ SrcAt H h l s ∧ B.sr = (h, l) ∧ G h = none ∧ G l = none ∧
    ∀ H' G' s', ExtS h l H G H' G' → SrcAt H' h l s' → Ok B C σ H' G' (ρ.set i (some (.src s'))) := by
  obtain ⟨oa, w⟩ := k
  obtain ⟨v, hs, h2⟩ := w.sl i _ hi
  have hh : ∀ a, a ∈ oa i → G a = none ∧ (B.H0 a = none ∨ B.T a) := fun a m => w.hid i _ a hi m
  have hd : ∀ j t a, j ≠ i → ρ[j]? = some (some t) → a ∈ oa j → a ∉ oa i := fun j t a n q m => w.dj j i t _ a n q hi m
  generalize oa i = li at h2 hh hd
  cases h2 with
  | @src h l _ n0 ne e1 e2 z =>
    obtain ⟨gh, wh⟩ := hh h List.mem_cons_self
    obtain ⟨gl, wl⟩ := hh l (List.mem_cons_of_mem _ (List.mem_singleton_self _))
    refine ⟨h, l, hs, ⟨ne, e1, e2, z⟩, n0, gh, gl, fun H' G' s' e sa => ?_⟩
    obtain ⟨_, a1, a2, z'⟩ := sa
    have nh : ∀ b o, B.H0 b = some o → ¬ B.T b → b ≠ h ∧ b ≠ l := fun b o h0 t => ⟨(fun q => by subst q; exact wh.elim (fun x => by rw [x] at h0; cases h0) t), fun q => by subst q; exact wl.elim (fun x => by rw [x] at h0; cases h0) t⟩
    have ng : ∀ b o, G b = some o → b ≠ h ∧ b ≠ l := fun b o hb => ⟨(fun q => by rw [q, gh] at hb; cases hb), fun q => by rw [q, gl] at hb; cases hb⟩
    have g'h : G' h = none := e.hid h _ e1 rfl gh
    have g'l : G' l = none := e.hid l _ e2 rfl gl
    have bk : Bok B H' G' := by
      refine ⟨e.sub, fun b o h0 t n => e.same b o (w.same b o h0 t n) (nh b o h0 t).1 (nh b o h0 t).2 n, fun b ps h0 => ?_, w.grow.trans e.grow, fun b o h0 t g => ?_, fun b o h0 t => ?_, fun f b o hb n => ?_, fun b o hb n => ?_, fun b o h0 t => ?_, fun b o z n => (e.ex b o z).elim (fun z => w.mks b o z n) fun z => by rw [n] at z; cases z.2⟩
      · obtain ⟨ps', z⟩ := w.tbl b ps h0
        exact e.tbl b ps' z (fun q => by rw [q, e1] at z; cases z) fun q => by rw [q, e2] at z; cases z
      · have g1 := w.hid0 b o h0 t g
        by_cases tb : B.T b
        · obtain ⟨u, hu, tu⟩ := w.tp b o h0 tb
          exact e.hid b u hu tu g1
        · exact e.hid b o (w.same b o h0 tb (tbl_tup t)) t g1
      · obtain ⟨u, hu, tu⟩ := w.tp b o h0 t
        by_cases q1 : b = h
        · subst q1
          exact ⟨_, a1, rfl⟩
        · by_cases q2 : b = l
          · subst q2
            exact ⟨_, a2, rfl⟩
          · exact ⟨u, e.same b u hu q1 q2 (tbl_tup tu), tu⟩
      · rcases e.ex b o hb with z | z
        · exact e.same b o (w.unl f b o z n) (ng b o z).1 (ng b o z).2 n
        · exact z.1
      · rcases e.ex b o hb with z | z
        · rcases w.fz b o z n with y | ⟨ob, dd, h0, t, h1⟩
          · exact .inl (e.same b o y (ng b o z).1 (ng b o z).2 n)
          · exact .inr ⟨ob, dd, h0, t, e.same b _ h1 (ng b o z).1 (ng b o z).2 rfl⟩
        · exact .inl z.1
      · obtain ⟨u, hu, tu⟩ := w.tp b o h0 t
        exact e.hid b u hu tu (w.th b o h0 t)
    have res := w.upd1 (H' := H') (G' := G') (i := i) (v := .ref h) (s := .src s') (l := [h, l]) bk (fun j t u n q z => ?_) (fun j t b n q m => ?_) (.src n0 ne a1 a2 z') (fun b m => ?_) (fun _ z => nomatch z) (fun j t b n q m => hd j t b n q m) e.grow
    · rw [set_self hs] at res
      exact res
    · refine z.mono (fun b o m y => by
        obtain ⟨u', hu', tu'⟩ := z.there m
        rw [hu'] at y
        cases y
        refine e.same b _ hu' (fun x => ?_) (fun x => ?_) (tbl_tup tu')
        · exact hd j t b n q m (by rw [x]; exact List.mem_cons_self)
        · exact hd j t b n q m (by rw [x]; exact List.mem_cons_of_mem _ (List.mem_singleton_self _))) (fun c q' y => e.same c _ y (fun x => by rw [x, e1] at y; cases y) (fun x => by rw [x, e2] at y; cases y) rfl) e.grow
    · obtain ⟨u, h1, h2⟩ := w.sl j t q
      obtain ⟨o, ho, to⟩ := h2.there m
      exact e.hid b o ho to (w.hid j t b q m).1
    · rcases List.mem_cons.mp m with rfl | m
      · exact ⟨g'h, wh⟩
      · rw [List.mem_singleton.mp m]
        exact ⟨g'l, wl⟩
theorem withS_withS {s s' : Src} {ρ : En} : withS i s' (withS i s ρ) = withS i s' ρ := by unfold withS; rw [List.set_set]
theorem withS_get {s : Src} {ρ : En} (hi : i < ρ.length) : (withS i s ρ)[i]? = some (some (.src s)) := List.getElem?_set_self hi
/-- the names, and the source among them -/
structure AtS (B : Bs) (C : Cl) (σ : L2.St) (H G : Hp) (ρ : En) (i : Nat) (s : Src) (h l : Addr) : Prop where
  ok : Ok B C σ H G (withS i s ρ)
  lt : i < ρ.length
  at_ : σ[i]? = some (some (.ref h))
  src : SrcAt H h l s
theorem AtS.step {σ : L2.St} {H G H' G' : Hp} {ρ : En} {s s' : Src} {h l : Addr} (a : AtS B C σ H G ρ i s h l) (e : ExtS h l H G H' G') (sa : SrcAt H' h l s') : AtS B C σ H' G' ρ i s' h l := by
  obtain ⟨h', l', hs, sa0, _, gh, gl, kk⟩ := ok_srcAt a.ok (withS_get a.lt)
  have e1 := a.at_
  rw [hs] at e1
  cases e1
  have e2 : l' = l := by
    have h1 := sa0.2.1
    rw [a.src.2.1] at h1
    cases h1
    rfl
  subst e2
  have k2 := kk H' G' s' e sa
  have : (withS i s ρ).set i (some (.src s')) = withS i s' ρ := withS_withS
  rw [this] at k2
  exact ⟨k2, a.lt, a.at_, sa⟩
theorem AtS.mk' {σ : L2.St} {H G : Hp} {ρ : En} {s : Src} (k : Ok B C σ H G (withS i s ρ)) (hi : i < ρ.length) : ∃ h l, AtS B C σ H G ρ i s h l := by
  obtain ⟨h', l', hs, sa0, _, gh, gl, kk⟩ := ok_srcAt k (withS_get hi)
  exact ⟨h', l', k, hi, hs, sa0⟩
theorem AtS.hid {σ : L2.St} {H G : Hp} {ρ : En} {s : Src} {h l : Addr} (a : AtS B C σ H G ρ i s h l) : G h = none ∧ G l = none := by
  obtain ⟨h', l', hs, sa0, _, gh, gl, kk⟩ := ok_srcAt a.ok (withS_get a.lt)
  have e1 := a.at_
  rw [hs] at e1
  cases e1
  have e2 : l' = l := by
    have h1 := sa0.2.1
    rw [a.src.2.1] at h1
    cases h1
    rfl
  subst e2
  exact ⟨gh, gl⟩
end
theorem ExtS.of {h l : Addr} {H G H' G' : Hp} (e : Ext H G H' G') : ExtS h l H G H' G' := ⟨fun b o z _ _ n => e.same b o z n, fun b ps z _ _ => e.tbl b ps z, e.grow, e.sub, e.hid, e.ex⟩
theorem ExtS.refl {h l : Addr} {H G : Hp} (s : Sub G H) : ExtS h l H G H G := .of (Ext.refl s)
theorem SrcAt.ext {h l : Addr} {s : Src} {H G H' G' : Hp} (sa : SrcAt H h l s) (e : Ext H G H' G') : SrcAt H' h l s := ⟨sa.1, e.same _ _ sa.2.1, e.same _ _ sa.2.2.1, sa.2.2.2⟩
/-- two steps; the source stands at both its ends -/
theorem ExtS.trans {h l : Addr} {s1 : Src} {H G H1 G1 H2 G2 : Hp} (a : ExtS h l H G H1 G1) (b : ExtS h l H1 G1 H2 G2) (s0 : ∃ s, SrcAt H h l s) (sa : SrcAt H1 h l s1) (gh : G1 h = none) (gl : G1 l = none) : ExtS h l H G H2 G2 := by
  refine ⟨fun b' o z n1 n2 n => b.same b' o (a.same b' o z n1 n2 n) n1 n2 n, fun b' ps z n1 n2 => (a.tbl b' ps z n1 n2).elim fun ps' z' => b.tbl b' ps' z' n1 n2, a.grow.trans b.grow, b.sub, fun b' o z t g => ?_, fun b' o z => ?_⟩
  · have g1 := a.hid b' o z t g
    by_cases n1 : b' = h
    · subst n1
      exact b.hid _ _ sa.2.1 rfl g1
    · by_cases n2 : b' = l
      · subst n2
        exact b.hid _ _ sa.2.2.1 rfl g1
      · exact b.hid b' o (a.same b' o z n1 n2 (tbl_tup t)) t g1
  · have g2h : G2 h = none := b.hid _ _ sa.2.1 rfl gh
    have g2l : G2 l = none := b.hid _ _ sa.2.2.1 rfl gl
    rcases b.ex b' o z with y | y
    · rcases a.ex b' o y with x | x
      · exact .inl x
      · exact .inr ⟨b.same b' o x.1 (fun q => by rw [q, gh] at y; cases y) (fun q => by rw [q, gl] at y; cases y) x.2, x.2⟩
    · exact .inr y
abbrev FX := Src → En → Option (D × Src)
def DX (C : Cl) (fr : Bool) (i : Nat) (te : TE) (F : FX) : Prop := ∀ (B : Bs) (σ : L2.St) (H G : Hp) (ρ : En) (s : Src) (h l : Addr), (fr = true → B.free = true) → AtS B C σ H G ρ i s h l → ∀ d s', F s ρ = some (d, s') → ∀ Q : VK, (∀ v H' G', ExtS h l H G H' G' → AtS B C σ H' G' ρ i s' h l → Rp C G' v d → Q v H') → te σ H Q
abbrev FXA := Src → En → Option (List D × Src)
def DXA (C : Cl) (fr : Bool) (i : Nat) (ta : TA) (F : FXA) : Prop := ∀ (B : Bs) (σ : L2.St) (H G : Hp) (ρ : En) (s : Src) (h l : Addr), (fr = true → B.free = true) → AtS B C σ H G ρ i s h l → ∀ ds s', F s ρ = some (ds, s') → ∀ Q : List V → Hp → Prop, (∀ vs H' G', ExtS h l H G H' G' → AtS B C σ H' G' ρ i s' h l → Rps C G' vs ds → Q vs H') → ta σ H Q
abbrev FXT := Src → En → Option (Bool × Src)
def DXT (C : Cl) (fr : Bool) (i : Nat) (tt : TT) (F : FXT) : Prop := ∀ (B : Bs) (σ : L2.St) (H G : Hp) (ρ : En) (s : Src) (h l : Addr), (fr = true → B.free = true) → AtS B C σ H G ρ i s h l → ∀ b s', F s ρ = some (b, s') → ∀ Q : Bool → Hp → Prop, (∀ H' G', ExtS h l H G H' G' → AtS B C σ H' G' ρ i s' h l → Q b H') → tt σ H Q
theorem AtS.ext {C : Cl} {B : Bs} {i : Nat} {σ : L2.St} {H G H' G' : Hp} {ρ : En} {s : Src} {h l : Addr} (a : AtS B C σ H G ρ i s h l) (e : Ext H G H' G') : AtS B C σ H' G' ρ i s h l := ⟨a.ok.ext e, a.lt, a.at_, a.src.ext e⟩
theorem AtS.tr {C : Cl} {B : Bs} {i : Nat} {σ : L2.St} {H G H1 G1 H2 G2 : Hp} {ρ : En} {s s1 : Src} {h l : Addr} (a : AtS B C σ H G ρ i s h l) (e1 : ExtS h l H G H1 G1) (a1 : AtS B C σ H1 G1 ρ i s1 h l) (e2 : ExtS h l H1 G1 H2 G2) : ExtS h l H G H2 G2 := e1.trans e2 ⟨s, a.src⟩ a1.src a1.hid.1 a1.hid.2
section
variable {C : Cl} {fr fc : Bool} {K : PySem.W.Frag} {B : Bs} {i : Nat} {ta tb te tc : TE} {f f' : FE} {F F' : FX} {t : TA} {fs : En → Option (List D)} {Fs : FXA} {tt : TT} {ft : En → Option Bool} {Ft : FXT} {ts us : L2.TS} {p q : FS} {m : MS} {mp : List D → Option D}
/-- what the pure part sees -/
def mX (f : FE) : FX := fun s ρ => (f (withS i s ρ)).bind fun d => some (d, s)
theorem dx_pure (he : DE C fr te f) : DX C fr i te (mX (i := i) f) := fun B σ H G ρ s h l bf a d s' hd Q q => by
  obtain ⟨x, h1, h2⟩ := obind hd
  cases h2
  exact he B σ H G _ bf a.ok d h1 Q fun v H' G' e r => q v H' G' (.of e) (a.ext e) r
def mXA (fs : En → Option (List D)) : FXA := fun s ρ => (fs (withS i s ρ)).bind fun d => some (d, s)
theorem dxa_pure (he : DA C fr t fs) : DXA C fr i t (mXA (i := i) fs) := fun B σ H G ρ s h l bf a d s' hd Q q => by
  obtain ⟨x, h1, h2⟩ := obind hd
  cases h2
  exact he B σ H G _ bf a.ok d h1 Q fun v H' G' e r => q v H' G' (.of e) (a.ext e) r
def mXT (ft : En → Option Bool) : FXT := fun s ρ => (ft (withS i s ρ)).bind fun d => some (d, s)
theorem dxt_pure (he : DT C fr tt ft) : DXT C fr i tt (mXT (i := i) ft) := fun B σ H G ρ s h l bf a d s' hd Q q => by
  obtain ⟨x, h1, h2⟩ := obind hd
  cases h2
  exact he B σ H G _ bf a.ok d h1 Q fun H' G' e => q H' G' (.of e) (a.ext e)
def mXcons (F : FX) (Fs : FXA) : FXA := fun s ρ => (F s ρ).bind fun r => (Fs r.2 ρ).bind fun q => some (r.1 :: q.1, q.2)
theorem dxa_cons (h1 : DX C fr i ta F) (h2 : DXA C fr i t Fs) : DXA C fr i (tCons ta t) (mXcons F Fs) := fun B σ H G ρ s h l bf a d s' hd Q q => by
  obtain ⟨⟨x, s1⟩, e1, hd⟩ := obind hd
  obtain ⟨⟨y, s2⟩, e2, hd⟩ := obind hd
  cases hd
  exact h1 B σ H G ρ s h l bf a x s1 e1 _ fun v H1 G1 g1 a1 r1 => h2 B σ H1 G1 ρ s1 h l bf a1 y s2 e2 _ fun vs H2 G2 g2 a2 r2 => q _ H2 G2 (a.tr g1 a1 g2) a2 (.cons (r1.mono g2.grow) r2)
def mXop (g : D → D → Option D) (F F' : FX) : FX := fun s ρ => (F s ρ).bind fun r => (F' r.2 ρ).bind fun q => (g r.1 q.1).bind fun d => some (d, q.2)
theorem dx_op {r : R2} {g : D → D → Option D} (hr : RD2 C r g) (h1 : DX C fr i ta F) (h2 : DX C fr i tb F') : DX C fr i (tOp r ta tb) (mXop g F F') := fun B σ H G ρ s h l bf a d s' hd Q q => by
  obtain ⟨⟨x, s1⟩, e1, hd⟩ := obind hd
  obtain ⟨⟨y, s2⟩, e2, hd⟩ := obind hd
  obtain ⟨z, e3, hd⟩ := obind hd
  cases hd
  exact h1 B σ H G ρ s h l bf a x s1 e1 _ fun v H1 G1 g1 a1 r1 => h2 B σ H1 G1 ρ s1 h l bf a1 y s2 e2 _ fun u H2 G2 g2 a2 r2 =>
    hr H2 G2 v u x y d a2.ok.sub (r1.mono g2.grow) r2 e3 Q fun w H3 G3 e r3 => q w H3 G3 (a.tr (a.tr g1 a1 g2) a2 (.of e)) (a2.ext e) r3
def mXs (g : List D → Option D) (Fs : FXA) : FX := fun s ρ => (Fs s ρ).bind fun r => (g r.1).bind fun d => some (d, r.2)
theorem dx_tup (ht : DXA C fr i t Fs) : DX C fr i (tTup t) (mXs (fun ds => if okSize ds.length then some (.tup ds) else none) Fs) := fun B σ H G ρ s h l bf a d s' hd Q q => by
  obtain ⟨⟨x, s1⟩, e1, hd⟩ := obind hd
  obtain ⟨z, e3, hd⟩ := obind hd
  cases hd
  obtain ⟨sz, rfl⟩ := oif e3
  refine ht B σ H G ρ s h l bf a x s1 e1 _ fun vs H1 G1 g1 a1 r1 => ⟨by rw [r1.len]; exact okSize_le sz, fun p hp => ?_⟩
  have e := (Ext.refl a1.ok.sub).new hp (.tup vs)
  exact q _ _ _ (a.tr g1 a1 (.of e)) (a1.ext e) (.tup upd_same (r1.mono e.grow))
def mXif (Ft : FXT) (F F' : FX) : FX := fun s ρ => (Ft s ρ).bind fun r => if r.1 then F r.2 ρ else F' r.2 ρ
theorem dx_if (hc : DXT C fr i tt Ft) (h1 : DX C fr i ta F) (h2 : DX C fr i tb F') : DX C fr i (tIf tt ta tb) (mXif Ft F F') := fun B σ H G ρ s h l bf a d s' hd Q q => by
  obtain ⟨⟨x, s1⟩, e1, hd⟩ := obind hd
  refine hc B σ H G ρ s h l bf a x s1 e1 _ fun H1 G1 g1 a1 => ?_
  cases x with
  | true => exact h1 B σ H1 G1 ρ s1 h l bf a1 d s' hd Q fun v H2 G2 g2 a2 r => q v H2 G2 (a.tr g1 a1 g2) a2 r
  | false => exact h2 B σ H1 G1 ρ s1 h l bf a1 d s' hd Q fun v H2 G2 g2 a2 r => q v H2 G2 (a.tr g1 a1 g2) a2 r
/-- f(h, ..), f a def that draws -/
def mXcall (m : MS) (Fs : FXA) : FX := fun s ρ => (Fs s ρ).bind fun r => m r.2 r.1
theorem dx_callS {E : XK} (hfr : fc = true → fr = true) (ht : DXA C fr i t Fs) : DX C fr i (tCall (spS C fc m) [] E (tCons (tVar i) t)) (mXcall m Fs) := fun B σ H G ρ s h l bf a d s' hd Q q => by
  obtain ⟨⟨x, s1⟩, e1, hd⟩ := obind hd
  refine ⟨_, a.at_, ht B σ H G ρ s h l bf a x s1 e1 _ fun vs H1 G1 g1 a1 r1 => ?_⟩
  show spS C fc m (V.ref h :: vs ++ []) H1 Q E
  rw [List.append_nil]
  exact ⟨h, l, s1, G1, vs, x, d, s', rfl, a1.src, a1.hid.1, a1.hid.2, a1.ok.subM, fun z b o h n => a1.ok.bok.unl (bf (hfr z)) b o h n, r1, hd, fun v H2 G2 e sa' r => q v H2 G2 (a.tr g1 a1 e) (a1.step e sa') r⟩
def srcOf (i : Nat) (ρ : En) : Option Src := match ρ[i]? with
  | some (some (.src s)) => some s
  | _ => none
theorem srcOf_eq {ρ : En} {s : Src} (h : srcOf i ρ = some s) : ρ[i]? = some (some (.src s)) := by
  unfold srcOf at h
  split at h
  · rename_i e
    cases h
    exact e
  · cases h
theorem withS_self {ρ : En} {s : Src} (h : ρ[i]? = some (some (.src s))) : withS i s ρ = ρ := set_self h
theorem lt_of_get {α : Type} {l : List α} {x : α} (h : l[i]? = some x) : i < l.length := (List.getElem?_eq_some_iff.mp h).1
def sSetX (i j : Nat) (F : FX) : FS := fun ρ => (srcOf i ρ).bind fun s => (F s ρ).bind fun r => some (.nx, (withS i r.2 ρ).set j (some (.shr r.1)))
theorem ds_setX (j : Nat) (he : DX C fr i te F) : DS C fr (tAsg te (gName j)) (sSetX i j F) := fun B σ H G ρ bf k r h E z => by
  obtain ⟨s, e1, h⟩ := obind h
  obtain ⟨⟨d, s'⟩, e2, h⟩ := obind h
  cases h
  have hs := srcOf_eq e1
  obtain ⟨h', l', a⟩ := AtS.mk' (i := i) (s := s) (ρ := ρ) (by rw [withS_self hs]; exact k) (lt_of_get hs)
  exact he B σ H G ρ s h' l' bf a d s' e2 _ fun v H1 G1 g1 a1 r1 => z _ H1 G1 (a1.ok.set j r1) g1.grow
def sParX (i j l : Nat) (Fs : FXA) : FS := fun ρ => (srcOf i ρ).bind fun s => (Fs s ρ).bind fun r => match r.1 with
  | [a, b] => some (.nx, ((withS i r.2 ρ).set j (some (.shr a))).set l (some (.shr b)))
  | _ => none
theorem ds_parX (j l : Nat) (he : DXA C fr i t Fs) : DS C fr (tPar j l t) (sParX i j l Fs) := fun B σ H G ρ bf k r h E z => by
  obtain ⟨s, e1, h⟩ := obind h
  obtain ⟨⟨d, s'⟩, e2, h⟩ := obind h
  have hs := srcOf_eq e1
  split at h
  · rename_i a b ed
    cases h
    have ed' : d = [a, b] := ed
    subst ed'
    obtain ⟨h', l', a0⟩ := AtS.mk' (i := i) (s := s) (ρ := ρ) (by rw [withS_self hs]; exact k) (lt_of_get hs)
    refine he B σ H G ρ s h' l' bf a0 _ s' e2 _ fun vs H1 G1 g1 a1 r1 => ?_
    have k1 := a1.ok
    obtain ⟨x, y, rfl, r2, r3⟩ := rps2 r1
    exact ⟨x, y, rfl, z _ H1 G1 ((k1.set j r2).set l r3) g1.grow⟩
  · cases h
def sRetX (i : Nat) (F : FX) : FS := fun ρ => (srcOf i ρ).bind fun s => (F s ρ).bind fun r => some (.rt r.1, thaw (withS i r.2 ρ))
theorem ds_retX (he : DX C fr i te F) : DS C fr (tRet te) (sRetX i F) := fun B σ H G ρ bf k r h E z => by
  obtain ⟨s, e1, h⟩ := obind h
  obtain ⟨⟨d, s'⟩, e2, h⟩ := obind h
  cases h
  have hs := srcOf_eq e1
  obtain ⟨h', l', a0⟩ := AtS.mk' (i := i) (s := s) (ρ := ρ) (by rw [withS_self hs]; exact k) (lt_of_get hs)
  refine he B σ H G ρ s h' l' bf a0 d s' e2 _ fun v H1 G1 g1 a1 r1 => ?_
  have k1 := a1.ok
  obtain ⟨G2, k2, g2⟩ := k1.thaw
  exact z v σ H1 G2 k2 (g1.grow.trans g2) (r1.mono g2)
abbrev FXI := Src → En → Option (List D × Src)
def DXI (C : Cl) (fr : Bool) (i : Nat) (ti : TI) (F : FXI) : Prop := ∀ (B : Bs) (σ : L2.St) (H G : Hp) (ρ : En) (s : Src) (h l : Addr), (fr = true → B.free = true) → AtS B C σ H G ρ i s h l → ∀ ds s', F s ρ = some (ds, s') → ∀ R : It → Hp → Prop, (∀ J H1 G1, ExtS h l H G H1 G1 → AtS B C σ H1 G1 ρ i s' h l → YlB C B J G1 ds → R J H1) → ti σ H R
theorem dxi_pure {ti : TI} {fi : En → Option (List D)} (hi : DI C fr ti fi) : DXI C fr i ti (mXA (i := i) fi) := fun B σ H G ρ s h l bf a d s' hd Q q => by
  obtain ⟨x, h1, h2⟩ := obind hd
  cases h2
  exact hi B σ H G _ bf a.ok d h1 Q fun J H1 G1 e y => q J H1 G1 (.of e) (a.ext e) y
theorem wipeD_withS {s : Src} {ρ : En} : ∀ {vs : List Nat}, i ∉ vs → wipeD (withS i s ρ) vs = withS i s (wipeD ρ vs)
  | [], _ => rfl
  | v :: vs, h => by
    unfold wipeD
    rw [wipeD_withS (fun m => h (List.mem_cons_of_mem _ m))]
    unfold withS
    rw [List.set_comm _ _ (fun e => h (by rw [e]; exact List.mem_cons_self))]
theorem wipeD_len {ρ : En} : ∀ {vs : List Nat}, (wipeD ρ vs).length = ρ.length
  | [] => rfl
  | v :: vs => by unfold wipeD; rw [List.length_set, wipeD_len]
def lcX (i : Nat) (b : D → En → Option En) (Fe : FX) : List D → Src → En → Option (List D × Src)
  | [], s, _ => some ([], s)
  | d :: ds, s, ρ => (b d ρ).bind fun ρ' => (Fe s ρ').bind fun r => (lcX i b Fe ds r.2 ρ).bind fun q => some (r.1 :: q.1, q.2)
def mXlc (i : Nat) (Fi : FXI) (b : D → En → Option En) (Fe : FX) (vs : List Nat) : FX := fun s ρ => (Fi s ρ).bind fun r => (lcX i b Fe r.1 r.2 (wipeD ρ vs)).bind fun q => if okSize q.1.length then some (.lst q.1, q.2) else none
theorem wipe_at {σ : L2.St} {vs : List Nat} {x : V} (h : i ∉ vs) (e : σ[i]? = some (some x)) : (wipe σ vs)[i]? = some (some x) := by rw [wipe_out h]; exact e
theorem dx_lc {ti : TI} {Fi : FXI} {g : TG} (j : Nat) {vs : List Nat} (hv : j ∈ vs) (hiv : i ∉ vs) (hi : DXI C fr i ti Fi) (he : DX C fr i te F) : DX C fr i (tLc ti (gName j) tYes te vs) (mXlc i Fi (bName j) F vs) := fun B σ H G ρ s h l bf a d s' hd Q q => by
  obtain ⟨⟨ds, s1⟩, h1, hd⟩ := obind hd
  obtain ⟨⟨r, s2⟩, h2, hd⟩ := obind hd
  obtain ⟨sz, e0⟩ := oif hd
  cases e0
  refine hi B σ H G ρ s h l bf a ds s1 h1 _ fun J H1 G1 e1 a1 y => fun A hA => ?_
  have nA : A ≠ h ∧ A ≠ l := ⟨(fun z => by rw [z, a1.src.2.1] at hA; cases hA), fun z => by rw [z, a1.src.2.2.1] at hA; cases hA⟩
  have putA : ∀ {H2 G2 : Hp} {o : HO}, ExtS h l H1 G1 H2 G2 → G2 A = none → (H2 A = none ∨ ∃ u, H2 A = some u ∧ extO u = false) → ExtS h l H1 G1 (upd H2 A o) G2 := fun e g2 hp => ⟨fun b o z n1 n2 n => by rw [upd_ne (ne_of_none z hA)]; exact e.same b o z n1 n2 n, fun b ps z n1 n2 => by rw [upd_ne (ne_of_none z hA)]; exact e.tbl b ps z n1 n2, e.grow, e.sub.put g2 _ fun b q hb t => tab_put2 t hb hp, e.hid, fun b o z => (e.ex b o z).elim .inl fun z' => .inr (by rw [upd_ne (fun w => by rw [w, g2] at z; cases z)]; exact z')⟩
  have srcA : ∀ {H2 : Hp} {o : HO} {s : Src}, SrcAt H2 h l s → SrcAt (upd H2 A o) h l s := fun sa => ⟨sa.1, by rw [upd_ne nA.1.symm]; exact sa.2.1, by rw [upd_ne nA.2.symm]; exact sa.2.2.1, sa.2.2.2⟩
  refine ⟨fun i' m H2 => m = ds.length - i' ∧ i' ≤ ds.length ∧ ∃ G2 acc rs s3, ExtS h l H1 G1 H2 G2 ∧ SrcAt H2 h l s3 ∧ G2 A = none ∧ H2 A = some (.lst acc) ∧ Rps C G2 acc rs ∧ ∃ r', lcX i (bName j) F (ds.drop i') s3 (wipeD ρ vs) = some (r', s2) ∧ r = rs ++ r', ?_, ?_⟩
  · exact ⟨_, rfl, Nat.zero_le _, G1, [], [], s1, putA (ExtS.refl a1.ok.sub) (a1.ok.sub.none hA) (.inl hA), srcA a1.src, a1.ok.sub.none hA, upd_same, .nil, r, by rw [List.drop_zero]; exact h2, rfl⟩
  · rintro i' m H2 ⟨rfl, hi', G2, acc, rs, s3, e2, sa2, gA2, hA2, ra, r', hr, rfl⟩
    have a2 := a1.step e2 sa2
    obtain ⟨y1, y2⟩ := y H2 G2 a2.ok.bok e2.grow i'
    rcases Nat.lt_or_ge i' ds.length with hlt | hge
    · have hx : ds[i']? = some ds[i'] := List.getElem?_eq_getElem hlt
      obtain ⟨go, yl⟩ := y1 _ hx
      refine .inr ⟨go, _, fun H' z => z, fun x H3 yy => ?_⟩
      obtain ⟨G3, e3, rx⟩ := yl x H3 yy
      rw [drop_get hx] at hr
      unfold lcX at hr
      obtain ⟨ρ', b1, hr⟩ := obind hr
      cases b1
      obtain ⟨⟨z, s4⟩, b3, hr⟩ := obind hr
      obtain ⟨⟨r2, s5⟩, b4, hr⟩ := obind hr
      cases hr
      have a3 := a2.ext e3
      have aw : AtS B C ((wipe σ vs).set j (some x)) H3 G3 ((wipeD ρ vs).set j (some (.shr ds[i']))) i s3 h l := by
        have ij : i ≠ j := fun q => hiv (q ▸ hv)
        have kw := a3.ok.wipe vs
        rw [wipeD_withS hiv] at kw
        have kw2 := kw.set j rx
        refine ⟨?_, by rw [List.length_set, wipeD_len]; exact a3.lt, by rw [List.getElem?_set_ne ij.symm]; exact wipe_at hiv a3.at_, a3.src⟩
        unfold withS at kw2 ⊢
        rw [List.set_comm _ _ ij] at kw2
        exact kw2
      refine ⟨by rw [wipe_set hv]; exact wipe_idem, ?_⟩
      refine he B _ H3 G3 _ s3 h l bf aw z s4 b3 _ fun v H4 G4 e4 a4 rv => ?_
      have E3 := a1.tr e2 a2 (.of e3)
      have E4 := a1.tr E3 a3 e4
      have h3A : H3 A = some (.lst acc) := e3.same _ _ hA2
      have g3A : G3 A = none := e3.hid _ _ hA2 rfl gA2
      have h4A : H4 A = some (.lst acc) := e4.same _ _ h3A nA.1 nA.2
      have g4A : G4 A = none := e4.hid _ _ h3A rfl g3A
      refine ⟨acc, h4A, ?_, ds.length - (i' + 1), by omega, rfl, by omega, G4, acc ++ [v], rs ++ [z], s4, putA E4 g4A (.inr ⟨_, h4A, rfl⟩), srcA a4.src, g4A, upd_same, (ra.mono (e3.grow.trans e4.grow)).snoc rv, r2, b4, by rw [List.append_assoc]; rfl⟩
      rw [ra.len]
      refine Nat.lt_of_lt_of_le ?_ (okSize_le sz)
      rw [List.length_append, List.length_cons]
      omega
    · have e : i' = ds.length := by omega
      subst e
      rw [List.drop_length] at hr
      cases hr
      rw [List.append_nil] at q
      have seen : Ext H2 G2 H2 (upd G2 A (.lst acc)) → True := fun _ => trivial
      have sg := same_newG gA2 (.lst acc)
      have E : ExtS h l H1 G1 H2 (upd G2 A (.lst acc)) := ⟨fun b o z n1 n2 n => e2.same b o z n1 n2 n, e2.tbl, e2.grow.trans sg, ⟨fun b o z n => ?_, fun b o z n => ?_⟩, fun b o z t g => ?_, fun b o z => ?_⟩
      · refine .inl ⟨y2 rfl, q _ H2 _ (a.tr e1 a1 E) (a1.step E sa2) (.lst upd_same (ra.mono sg))⟩
      · by_cases hb : b = A
        · subst hb
          rw [upd_same] at z
          cases z
          exact .inl hA2
        · rw [upd_ne hb] at z
          exact e2.sub.at_ b o z n
      · by_cases hb : b = A
        · subst hb
          rw [upd_same] at z
          cases z
          cases n
        · rw [upd_ne hb] at z
          exact e2.sub.tb b o z n
      · rw [upd_ne (ne_of_none z hA)]
        exact e2.hid b o z t g
      · by_cases hb : b = A
        · subst hb
          rw [upd_same] at z
          cases z
          exact .inr ⟨hA2, rfl⟩
        · rw [upd_ne hb] at z
          exact e2.ex b o z
end
def mRunS (np n : Nat) (p : FS) : MS := fun s ds => if ds.length + 1 = np then (p (some (.src s) :: ds.map (fun d => some (.shr d)) ++ List.replicate (n - np) none)).bind fun r => (srcOf 0 r.2).bind fun s' => match r.1 with
  | .rt d => some (d, s')
  | .nx => some (.non, s')
  | _ => none else none
section
variable {C : Cl} {fr : Bool} {K : PySem.W.Frag} {P : Program} {w : World} {mg : Str → Option Value} {base : Heap}
theorem fnS_ok {x qual : Str} {st : Stmt} {g : Addr} {fd : FuncData} {N ps : List Str} {k : Nat} {p : FS} (F : Fun K x qual st g fd) (S : FnScope N ps (defScope st)) (np n : Nat) (hn : N.length = n) (hp : ps.length = np)
    (body : ∀ (cdv : Value) (A : Around) (outer : List PySem.Env) (s : Shared) (H : Hp) (E : XK), Room k (A.deeper (PyProof.Rows.envOfC qual (defScope st) s.heap.objs.size g cdv)) → ∃ t, PSs (cxOf CX0 P w K mg base N qual (defScope st) g cdv A outer s H E).nox (defBody st) t ∧ DS C fr t p) :
    FnOk P w K mg base CX0 (k + 1) g fd ps (spS C fr (mRunS np n p)) := by
  refine F.ok S (fun vs H Q E h => ?_) fun cdv A outer s H vs Q E hr h => ?_
  · obtain ⟨h', l, s0, G, rest, ds, d, s', rfl, _, _, _, _, _, r, hm, _⟩ := h
    unfold mRunS at hm
    split at hm
    · rename_i e
      rw [List.length_cons, r.len, e, hp]
    · cases hm
  · obtain ⟨h', l, s0, G, rest, ds, d, s', rfl, sa, gh, gl, ⟨sb, mkc⟩, ex, r, hm, q⟩ := h
    unfold mRunS at hm
    split at hm
    · rename_i e
      obtain ⟨res, h1, h2⟩ := obind hm
      obtain ⟨s2, h3, h2⟩ := obind h2
      obtain ⟨t, ht, hd⟩ := body cdv A outer s H E hr
      subst hn
      have k0 : Ok ⟨H, G, fun b => b = h' ∨ b = l, fr, (h', l)⟩ C (L2.start N (.ref h' :: rest)) H G (some (.src s0) :: ds.map (fun d => some (.shr d)) ++ List.replicate (N.length - np) none) := by
        have key : ∀ (i : Nat) t, (some (Sl.src s0) :: ds.map (fun d => some (Sl.shr d)) ++ List.replicate (N.length - np) none)[i]? = some (some t) → (i = 0 ∧ t = .src s0) ∨ ∃ j d, i = j + 1 ∧ ds[j]? = some d ∧ t = .shr d := fun i t z => by
          cases i with
          | zero =>
            cases z
            exact .inl ⟨rfl, rfl⟩
          | succ j =>
            have z' : (ds.map (fun d => some (Sl.shr d)) ++ List.replicate (N.length - np) none)[j]? = some (some t) := z
            rcases Nat.lt_or_ge j ds.length with y | y
            · rw [List.getElem?_append_left (by rw [List.length_map]; exact y), List.getElem?_map] at z'
              cases e' : ds[j]? with
              | none => rw [e'] at z'; cases z'
              | some d' =>
                rw [e'] at z'
                cases z'
                exact .inr ⟨j, d', rfl, e', rfl⟩
            · rw [List.getElem?_append_right (by rw [List.length_map]; exact y), List.getElem?_replicate] at z'
              split at z' <;> cases z'
        refine ⟨fun i => if i = 0 then [h', l] else [], { sub := sb, same := fun _ _ h _ _ => h, tbl := fun _ ps h => ⟨ps, h⟩, grow := Same.refl _, hid0 := fun _ _ _ _ h => h, tp := fun b o h0 t => ?_, unl := ex, fz := fun b o h n => ?_, th := fun b o h0 t => ?_, mks := fun _ _ h _ => h, len := ?_, sl := fun i t z => ?_, hid := fun i t a z m => ?_, frs := fun i d a z m => ?_, dj := fun i j t t' a n z z' m m' => ?_, mkC := mkc }⟩
        · rcases t with rfl | rfl
          · exact ⟨_, sa.2.1, rfl⟩
          · exact ⟨_, sa.2.2.1, rfl⟩
        · rcases sb.at_ b o h n with z | ⟨dd, ob, z⟩
          · exact .inl z
          · refine .inr ⟨ob, dd, z, fun t => ?_, z⟩
            rcases t with rfl | rfl
            · rw [sa.2.1] at z
              cases z
            · rw [sa.2.2.1] at z
              cases z
        · rcases t with rfl | rfl
          · exact gh
          · exact gl
        · unfold L2.start
          simp only [List.length_append, List.length_cons, List.length_map, List.length_replicate, r.len]
          omega
        · rcases key i t z with ⟨rfl, rfl⟩ | ⟨j, d', rfl, hj, rfl⟩
          · exact ⟨.ref h', rfl, by rw [if_pos rfl]; exact .src rfl sa.1 sa.2.1 sa.2.2.1 sa.2.2.2⟩
          · obtain ⟨v, h2, h3⟩ := r.get hj
            refine ⟨v, ?_, by rw [if_neg (by omega)]; exact .shr h3⟩
            unfold L2.start
            rw [List.getElem?_append_left (by rw [List.length_map, List.length_cons]; have := (List.getElem?_eq_some_iff.mp h2).1; omega), List.getElem?_map, List.getElem?_cons_succ, h2]
            rfl
        · rcases key i t z with ⟨rfl, rfl⟩ | ⟨j, d', rfl, hj, rfl⟩
          · rw [if_pos rfl] at m
            rcases List.mem_cons.mp m with rfl | m
            · exact ⟨gh, .inr (.inl rfl)⟩
            · rw [List.mem_singleton.mp m]
              exact ⟨gl, .inr (.inr rfl)⟩
          · rw [if_neg (by omega)] at m
            cases m
        · rcases key i _ z with ⟨rfl, z'⟩ | ⟨j, d', rfl, hj, z'⟩
          · cases z'
          · rw [if_neg (by omega)] at m
            cases m
        · by_cases hi : i = 0
          · by_cases hj : j = 0
            · exact n (hi.trans hj.symm)
            · rw [if_neg hj] at m'
              cases m'
          · rw [if_neg hi] at m
            cases m
      have fin : ∀ (v : V) (σ1 : L2.St) (H1 G1 : Hp), Ok ⟨H, G, fun b => b = h' ∨ b = l, fr, (h', l)⟩ C σ1 H1 G1 res.2 → Rp C G1 v d → s2 = s' → Q v H1 := fun v σ1 H1 G1 k1 r1 e => by
        subst e
        have bk := k1.bok
        obtain ⟨h1, l1, hs1, sa1, esr, gh1, gl1, _⟩ := ok_srcAt k1 (srcOf_eq h3)
        cases esr
        refine q v H1 G1 ⟨fun b o z n1 n2 n => bk.same b o z (fun t => t.elim n1 n2) n, fun b ps z _ _ => bk.tbl b ps z, bk.grow, bk.sub, bk.hid0, fun b o z => ?_⟩ sa1 r1
        cases n : tblO o with
        | true => exact .inl (bk.mks b o z n)
        | false => ?_
        rcases bk.fz b o z n with y | ⟨ob, dd, h0, t, _⟩
        · exact .inr ⟨y, rfl⟩
        · cases e : G b with
          | some o' =>
            have := bk.grow b o' e
            rw [z] at this
            cases this
            exact .inl rfl
          | none =>
            have := bk.hid0 b _ h0 rfl e
            rw [z] at this
            cases this
      refine ⟨t, ht, hd _ _ H G _ id k0 res h1 _ ?_⟩
      obtain ⟨fl, ρ⟩ := res
      cases fl with
      | nx =>
        cases h2
        exact fun σ1 H1 G1 k1 s1 => fin _ σ1 H1 G1 k1 .non rfl
      | rt d =>
        cases h2
        exact fun v σ1 H1 G1 k1 s1 r1 => fin v σ1 H1 G1 k1 r1 rfl
      | bk => cases h2
      | ct => cases h2
    · cases hm
end
end Wd
namespace Wd
open PySem L2 Wb
mutual
def D.eqb : D → D → Bool
  | .non, .non => true
  | .bl a, .bl b => a == b
  | .int a, .int b => decide (a = b)
  | .str a, .str b => decide (a = b)
  | .tup a, .tup b => D.eqbs a b
  | .lst a, .lst b => D.eqbs a b
  | _, _ => false
def D.eqbs : List D → List D → Bool
  | [], [] => true
  | a :: as, b :: bs => D.eqb a b && D.eqbs as bs
  | _, _ => false
end
theorem pys_map : ∀ ds : List D, D.pys ds = ds.map D.py
  | [] => rfl
  | d :: ds => by unfold D.pys; rw [pys_map ds]; rfl
section
variable {C : Cl} {fr : Bool} {K : PySem.W.Frag} {P : Program} {w : World} {mg : Str → Option Value} {base : Heap}
def spKeep (C : Cl) (c : Nat) (fn : Str) (fr : Bool) (m : List D → Option D) : Sp := fun vs H Q _ => ∃ (x dx : Addr) (v : V) (G : Hp) (d e : D), vs = [.ref x, v] ∧ H x = some (.ins (C c) dx []) ∧ G x = none ∧ SubM C G H ∧ (fr = true → ∀ b o, G b = some o → tblO o = false → H b = some o) ∧ Rp C G v d ∧ m [d] = some e ∧
  ∀ H' G', Ext H G H' G' → Q .non (upd H' x (.ins (C c) dx [(fn, v)]))
variable {fc : Bool} {m : List D → Option D} {t : TA} {fs : En → Option (List D)} {i : Nat} {Fs : FXA}
def gMake (c : Nat) (fn : Str) (m : List D → Option D) : List D → Option D
  | [d] => (m [d]).bind fun _ => some (.obj c [fn] [d])
  | _ => none
theorem made_ext {H G H2 G2 : Hp} {x dx Cc : Addr} {fs : List (Str × V)} (s : Sub G H) (nx : H x = none) (ndx : H dx = none) (ne : dx ≠ x) (e : Ext (upd (upd H dx (.own x)) x (.ins Cc dx [])) G H2 G2) : Ext H G (upd H2 x (.ins Cc dx fs)) (upd G2 x (.ins Cc dx fs)) := by
  have gx : G x = none := s.none nx
  have h2x : H2 x = some (.ins Cc dx []) := e.same _ _ upd_same
  have g2x : G2 x = none := e.hid x _ upd_same rfl gx
  refine ⟨fun b o h n => ?_, fun b ps h => ?_, e.grow.trans (same_newG g2x _), ⟨fun b o h n => ?_, fun b o h n => ?_⟩, fun b o h t g => ?_, fun b o h => ?_⟩
  · rw [upd_ne (ne_of_none h nx)]
    exact e.same b o (by rw [upd_ne (ne_of_none h nx), upd_ne (ne_of_none h ndx)]; exact h) n
  · rw [upd_ne (ne_of_none h nx)]
    exact e.tbl b ps (by rw [upd_ne (ne_of_none h nx), upd_ne (ne_of_none h ndx)]; exact h)
  · by_cases q : b = x
    · subst q
      rw [upd_same] at h ⊢
      exact .inl h
    · rw [upd_ne q] at h ⊢
      exact e.sub.at_ b o h n
  · by_cases q : b = x
    · subst q
      rw [upd_same] at h
      cases h
      cases n
    · rw [upd_ne q] at h
      obtain ⟨r, er, t⟩ := e.sub.tb b o h n
      exact ⟨r, er, tab_put t q h2x rfl⟩
  · rw [upd_ne (ne_of_none h nx)]
    exact e.hid b o (by rw [upd_ne (ne_of_none h nx), upd_ne (ne_of_none h ndx)]; exact h) t g
  · by_cases q : b = x
    · subst q
      rw [upd_same] at h ⊢
      cases h
      exact .inr ⟨rfl, rfl⟩
    · rw [upd_ne q] at h ⊢
      exact e.ex b o h
theorem rd_make {c : Nat} {fn : Str} {E : XK} (hfr : fc = true → fr = true) {B : Bs} {σ0 : L2.St} {ρ0 : En} {H G : Hp} (k : Ok B C σ0 H G ρ0) (bf : fr = true → B.free = true) {vs : List V} {ds : List D} {d : D} (r : Rps C G vs ds) (h : gMake c fn m ds = some d) {Q : VK} (q : ∀ v H' G', Ext H G H' G' → Rp C G' v d → Q v H') :
    ∀ x dx, H x = none → H dx = none → dx ≠ x → spKeep C c fn fc m (.ref x :: (vs ++ [])) (upd (upd H dx (.own x)) x (.ins (C c) dx [])) (fun v H2 => v = .non ∧ Q (.ref x) H2) E := fun x dx nx ndx ne => by
  unfold gMake at h
  split at h
  · obtain ⟨e, h1, h⟩ := obind h
    cases h
    obtain ⟨v, rfl, rv⟩ := rps1 r
    have gx : G x = none := k.sub.none nx
    have gdx : G dx = none := k.sub.none ndx
    refine ⟨x, dx, v, G, _, e, rfl, upd_same, gx, ⟨(k.sub.put gdx _ fun b q hb t => tab_put2 t hb (.inl ndx)).put gx _ (fun b q hb t => tab_put2 t hb (.inl (by rw [upd_ne ne.symm]; exact nx))), k.mkC⟩, fun f b o hb n => ?_, rv, h1, fun H2 G2 x2 => ⟨rfl, ?_⟩⟩
    · have := k.bok.unl (bf (hfr f)) b o hb n
      rw [upd_ne (fun z => by rw [z, gx] at hb; cases hb), upd_ne (fun z => by rw [z, gdx] at hb; cases hb)]
      exact this
    · have E2 := made_ext (fs := [(fn, v)]) k.sub nx ndx ne x2
      have g2x : G2 x = none := x2.hid x _ upd_same rfl gx
      exact q _ _ _ E2 (.obj (c2 := 0) (fs := [(fn, v)]) upd_same (.cons ((rv.mono x2.grow).mono (same_newG g2x _)) .nil))
  · cases h
theorem de_make {c : Nat} {fn : Str} {E : XK} (hfr : fc = true → fr = true) (ht : DA C fr t fs) : DE C fr (tMake (C c) (spKeep C c fn fc m) [] E t) (mS (gMake c fn m) fs) := fun B σ H G ρ bf k d h Q q => by
  obtain ⟨ds, e1, h⟩ := obind h
  exact ht B σ H G ρ bf k ds e1 _ fun vs H1 G1 x1 r1 => rd_make hfr (k.ext x1) bf r1 h fun v H' G' x r => q v H' G' (x1.trans x) r
theorem dx_make {c : Nat} {fn : Str} {E : XK} (hfr : fc = true → fr = true) (ht : DXA C fr i t Fs) : DX C fr i (tMake (C c) (spKeep C c fn fc m) [] E t) (mXs (gMake c fn m) Fs) := fun B σ H G ρ s h l bf a d s' hd Q q => by
  obtain ⟨⟨x, s1⟩, e1, hd⟩ := obind hd
  obtain ⟨z, e3, hd⟩ := obind hd
  cases hd
  exact ht B σ H G ρ s h l bf a x s1 e1 _ fun vs H1 G1 g1 a1 r1 => rd_make hfr a1.ok bf r1 e3 fun v H' G' x r => q v H' G' (a.tr g1 a1 (.of x)) (a1.ext x) r
theorem ok_lawG {G0 : Hp} {σ : L2.St} {H : Hp} {h l : Addr} {n : Nat} {s : Src} (hi : i < n) (hl : σ.length = n) (hs : σ[i]? = some (some (.ref h))) (sa : SrcAt H h l s) (hG : ∀ b o, G0 b = some o → tblO o = true ∧ MarkOk H b o) (g0 : G0 h = none ∧ G0 l = none) (hM : Mk C G0) :
    Ok ⟨fun _ => none, G0, fun _ => False, true, (h, l)⟩ C σ H G0 (withS i s (List.replicate n none)) := by
  have key : ∀ (j : Nat) (t : Sl), (withS i s (List.replicate n none))[j]? = some (some t) → j = i ∧ t = .src s := fun j t q => by
    unfold withS at q
    by_cases e : i = j
    · subst e
      rw [List.getElem?_set_self (by rw [List.length_replicate]; exact hi)] at q
      cases q
      exact ⟨rfl, rfl⟩
    · rw [List.getElem?_set_ne e, List.getElem?_replicate] at q
      split at q <;> cases q
  refine ⟨fun j => if j = i then [h, l] else [], { sub := ⟨(fun b o e n => absurd n (by rw [(hG b o e).1]; exact fun z => nomatch z)), fun b o e _ => (hG b o e).2⟩, same := (fun _ _ e => nomatch e), tbl := (fun _ _ e => nomatch e), grow := Same.refl _, hid0 := fun _ _ e => (nomatch e), tp := fun _ _ e => (nomatch e), unl := (fun _ b o e n => absurd n (by rw [(hG b o e).1]; exact fun z => nomatch z)), fz := (fun b o e n => absurd n (by rw [(hG b o e).1]; exact fun z => nomatch z)), th := fun _ _ e => (nomatch e), mks := fun _ _ e _ => e, len := ?_, sl := fun j t q => ?_, hid := fun j t a q m => ?_, frs := fun j d a q m => rfl, dj := fun j k t t' a n q q' m m' => ?_, mkC := hM }⟩
  · unfold withS
    rw [List.length_set, List.length_replicate]
    exact hl
  · obtain ⟨rfl, rfl⟩ := key j t q
    exact ⟨_, hs, by rw [if_pos rfl]; exact .src rfl sa.1 sa.2.1 sa.2.2.1 sa.2.2.2⟩
  · obtain ⟨rfl, rfl⟩ := key j t q
    rw [if_pos rfl] at m
    refine ⟨?_, .inl rfl⟩
    rcases List.mem_cons.mp m with rfl | m
    · exact g0.1
    · rw [List.mem_singleton.mp m]
      exact g0.2
  · exact n ((key j t q).1.trans (key k t' q').1.symm)
theorem ok_law0 {σ : L2.St} {H : Hp} {h l : Addr} {n : Nat} {s : Src} (hi : i < n) (hl : σ.length = n) (hs : σ[i]? = some (some (.ref h))) (sa : SrcAt H h l s) (hM : C.tb = []) :
    Ok ⟨fun _ => none, fun _ => none, fun _ => False, true, (h, l)⟩ C σ H (fun _ => none) (withS i s (List.replicate n none)) := ok_lawG hi hl hs sa (fun _ _ e => nomatch e) ⟨rfl, rfl⟩ (fun p hp => by rw [hM] at hp; cases hp)
theorem law_run {ts : L2.TS} {p : FS} {E : Ends} {σ : L2.St} {H : Hp} {h l : Addr} {n : Nat} {s : Src} {ρ : En} (hi : i < n) (hl : σ.length = n) (hs : σ[i]? = some (some (.ref h))) (sa : SrcAt H h l s) (hp : p (withS i s (List.replicate n none)) = some (.rt (.bl true), ρ)) (q : ∀ H', E.rt (.bl true) H') (D : DS C true ts p) (hM : C.tb = [] := by rfl) : ts E σ H := by
  refine D _ σ H _ _ (fun _ => rfl) (ok_law0 hi hl hs sa hM) _ hp E ?_
  intro v σ1 H1 G1 k1 s1 r1
  cases r1
  exact q H1
end
end Wd
namespace Wb
/-- the stands that are come to -/
inductive Come (t : Tab) (n : Nat) : Nat → Prop
  | zero : Come t n 0
  | step {s a : Nat} (h : Come t n s) (ha : a < n) : Come t n (stp t s a).1
variable {t : Tab} {n : Nat}
theorem Come.lt (g : Good t n) {s : Nat} (h : Come t n s) : s < t.length := by
  induction h with
  | zero => exact g.len1
  | step _ ha ih => exact (g.stp ih ha).1
open Classical in
open Classical in
/-- rows of k letters, written alike from two stands -/
def Two2 (t : Tab) (n k x y : Nat) : Prop := ∃ r r' : List Nat, r.length = k ∧ r'.length = k ∧ (∀ a ∈ r, a < n) ∧ (∀ a ∈ r', a < n) ∧ runW t x r = runW t y r'
theorem Two2.swap {k x y : Nat} (h : Two2 t n k x y) : Two2 t n k y x := by
  obtain ⟨r, r', a, b, c, d, e⟩ := h
  exact ⟨r', r, b, a, d, c, e.symm⟩
end Wb
namespace Wb
/-- come to from the starts -/
inductive Rc {α : Type} (st : List α) (nb : α → List α) : α → Prop
  | start {x : α} (h : x ∈ st) : Rc st nb x
  | step {x y : α} (h : Rc st nb x) (hy : y ∈ nb x) : Rc st nb y
structure Clo {α : Type} (st : List α) (nb : α → List α) (F left : List α) : Prop where
  hs : ∀ x ∈ st, x ∈ F ∨ x ∈ left
  hn : ∀ x ∈ F, ∀ y ∈ nb x, y ∈ F ∨ y ∈ left
  sound : ∀ x, x ∈ F ∨ x ∈ left → Rc st nb x
  nd : F.Nodup
variable {α : Type} {st : List α} {nb : α → List α} {F l : List α} {x : α}
theorem Clo.skip (c : Clo st nb F (l ++ [x])) (h : x ∈ F) : Clo st nb F l := by
  have m : ∀ y, y ∈ F ∨ y ∈ l ++ [x] → y ∈ F ∨ y ∈ l := fun y hy => by
    rcases hy with hy | hy
    · exact .inl hy
    · rcases List.mem_append.mp hy with hy | hy
      · exact .inr hy
      · rw [List.mem_singleton.mp hy]
        exact .inl h
  exact ⟨fun y hy => m y (c.hs y hy), fun y hy z hz => m z (c.hn y hy z hz), fun y hy => c.sound y (hy.imp id fun z => List.mem_append_left _ z), c.nd⟩
theorem Clo.take (c : Clo st nb F (l ++ [x])) (h : x ∉ F) : Clo st nb (F ++ [x]) (l ++ nb x) := by
  have m : ∀ y, y ∈ F ∨ y ∈ l ++ [x] → y ∈ F ++ [x] ∨ y ∈ l ++ nb x := fun y hy => by
    rcases hy with hy | hy
    · exact .inl (List.mem_append_left _ hy)
    · rcases List.mem_append.mp hy with hy | hy
      · exact .inr (List.mem_append_left _ hy)
      · exact .inl (List.mem_append_right _ hy)
  refine ⟨fun y hy => m y (c.hs y hy), fun y hy z hz => ?_, fun y hy => ?_, ?_⟩
  · rcases List.mem_append.mp hy with hy | hy
    · exact m z (c.hn y hy z hz)
    · rw [List.mem_singleton.mp hy] at hz
      exact .inr (List.mem_append_right _ hz)
  · rcases hy with hy | hy
    · rcases List.mem_append.mp hy with hy | hy
      · exact c.sound y (.inl hy)
      · exact c.sound y (.inr (List.mem_append_right _ hy))
    · rcases List.mem_append.mp hy with hy | hy
      · exact c.sound y (.inr (List.mem_append_left _ hy))
      · exact .step (c.sound x (.inr (by simp))) hy
  · refine List.nodup_append.mpr ⟨c.nd, by simp, fun a ha b hb e => ?_⟩
    rw [List.mem_singleton.mp hb] at e
    exact h (e ▸ ha)
theorem Clo.done (c : Clo st nb F []) (y : α) : y ∈ F ↔ Rc st nb y := by
  refine ⟨fun h => c.sound y (.inl h), fun h => ?_⟩
  induction h with
  | start hs =>
    rcases c.hs _ hs with z | z
    · exact z
    · cases z
  | step _ hy ih =>
    rcases c.hn _ ih _ hy with z | z
    · exact z
    · cases z
end Wb
namespace Wd
open PySem L2 Wb
section
variable {α β : Type} {e : α → D}
theorem lcD_map {b : D → En → Option En} {ft : En → Option Bool} {fe : FE} {ρ : En} (ρx : α → En) (pb : α → Bool) (g : α → D) : ∀ {xs : List α}, (∀ x ∈ xs, b (e x) ρ = some (ρx x) ∧ ft (ρx x) = some (pb x) ∧ (pb x = true → fe (ρx x) = some (g x))) →
    lcD b ft fe ρ (xs.map e) = some ((xs.filter pb).map g)
  | [], _ => rfl
  | x :: xs, h => by
    obtain ⟨h1, h2, h3⟩ := h x List.mem_cons_self
    have ih := lcD_map (b := b) (ft := ft) (fe := fe) (ρ := ρ) ρx pb g (xs := xs) fun y hy => h y (List.mem_cons_of_mem _ hy)
    rw [List.map_cons]
    unfold lcD
    rw [h1, Option.bind_some, h2, Option.bind_some]
    cases hp : pb x with
    | true =>
      rw [if_pos rfl, h3 hp, Option.bind_some, ih, Option.bind_some, List.filter_cons_of_pos hp, List.map_cons]
    | false =>
      rw [if_neg Bool.false_ne_true, ih, List.filter_cons_of_neg (by rw [hp]; exact Bool.false_ne_true)]
theorem filter_all {xs : List α} {p : α → Bool} (h : ∀ x ∈ xs, p x = true) : xs.filter p = xs := List.filter_eq_self.mpr h
/-- without a test -/
theorem lcD_all {b : D → En → Option En} {fe : FE} {ρ : En} (ρx : α → En) (g : α → D) {xs : List α} (h : ∀ x ∈ xs, b (e x) ρ = some (ρx x) ∧ fe (ρx x) = some (g x)) : lcD b mYes fe ρ (xs.map e) = some (xs.map g) := by
  rw [lcD_map ρx (fun _ => true) g fun x hx => ⟨(h x hx).1, rfl, fun _ => (h x hx).2⟩, filter_all fun _ _ => rfl]
theorem forD_inv {b : D → En → Option En} {p : FS} (P : List α → En → Prop) : ∀ {xs pre : List α} {ρ : En}, P pre ρ → (∀ pre' x post ρ, pre ++ xs = pre' ++ x :: post → P pre' ρ → ∃ ρ1 ρ2, b (e x) ρ = some ρ1 ∧ p ρ1 = some (.nx, ρ2) ∧ P (pre' ++ [x]) ρ2) →
    ∃ ρ', forD b p (xs.map e) ρ = some (.nx, ρ') ∧ P (pre ++ xs) ρ'
  | [], pre, ρ, h0, _ => ⟨ρ, rfl, by rw [List.append_nil]; exact h0⟩
  | x :: xs, pre, ρ, h0, hs => by
    obtain ⟨ρ1, ρ2, h1, h2, h3⟩ := hs pre x xs ρ rfl h0
    obtain ⟨ρ', h4, h5⟩ := forD_inv (b := b) (p := p) P (xs := xs) (pre := pre ++ [x]) h3 fun pre' y post ρ hy hp => hs pre' y post ρ (by rw [← hy, List.append_assoc]; rfl) hp
    refine ⟨ρ', ?_, by rw [List.append_assoc] at h5; exact h5⟩
    rw [List.map_cons]
    show (b (e x) ρ).bind _ = _
    rw [h1, Option.bind_some, h2, Option.bind_some]
    exact h4
variable {t : Bool} {c : α → List L2.Key}
end
def nE (n : Nat) : D := .int (n : Int)
def prE (p : Nat × Nat) : D := .tup [.int (p.1 : Int), .int (p.2 : Int)]
def rowE (r : List (Nat × Nat)) : D := .tup (r.map prE)
def tabE (t : Tab) : D := .tup (t.map rowE)
theorem ixT_map {α : Type} {e : α → D} {l : List α} {i : Nat} {x : α} (h : l[i]? = some x) : gIxT (.tup (l.map e)) (.int (i : Int)) = some (e x) := by
  show atI (l.map e) (i : Int) = some (e x)
  exact atI_nat (by rw [List.getElem?_map, h]; rfl)
theorem ixL_map {α : Type} {e : α → D} {l : List α} {i : Nat} {x : α} (h : l[i]? = some x) : gIxL (.lst (l.map e)) (.int (i : Int)) = some (e x) := by
  show atI (l.map e) (i : Int) = some (e x)
  exact atI_nat (by rw [List.getElem?_map, h]; rfl)
theorem ix_tab {t : Tab} {s : Nat} (h : s < t.length) : gIxT (tabE t) (.int (s : Int)) = some (rowE (t.getD s [])) := by
  have e : t[s]? = some (t.getD s []) := by rw [List.getD_eq_getElem?_getD, List.getElem?_eq_getElem h]; rfl
  exact ixT_map e
theorem enumP_map {α : Type} {e : α → D} (l : List α) : (enumP (l.map e)).map (fun p => D.tup [p.1, p.2]) = l.zipIdx.map fun p => .tup [.int (p.2 : Nat), e p.1] := by
  unfold enumP
  rw [List.zipIdx_map, List.map_map, List.map_map]
  rfl
end Wd
namespace Wb
open PySem L2
section
variable {X : Cx}
def rCntV (K : PySem.W.Frag) : V → List V → Hp → VK → Prop := fun x xs H Q => ∃ (p : Addr) (ys : List V) (k : V), x = .ref p ∧ xs = [k] ∧ SqL K H p ys ∧ flatV k = true ∧ ys.all flatV = true ∧ Q (.int (ys.countP (fun y => eqV y k) : Nat)) H
theorem countP_eqU {x : V} : ∀ {xs : List V} {us : List Value}, Vals xs us → xs.all flatV = true → us.countP (eqU x) = xs.countP fun y => eqV y x
  | _, _, .nil, _ => rfl
  | y :: xs, u :: us, .cons r t, f => by
    rw [List.all_cons, Bool.and_eq_true] at f
    rw [List.countP_cons, List.countP_cons, eqU_of r f.1, countP_eqU t f.2]
theorem mt_lcountV : MtR X "list.count" (rCntV X.K) := by
  intro pins s σ H x xs v us Q I rx rxs h
  obtain ⟨p, ys, k, rfl, rfl, hs, fk, fs, q⟩ := h
  cases rx
  obtain ⟨u, rfl, ru⟩ := rxs.one
  obtain ⟨its, rv, ⟨⟨cls, dd, data, sl⟩, n, ho, hc, hdn, hd⟩, hlen⟩ := I.list hs
  simp only at hc hd
  subst hc hd
  refine call_meets PySem.F.slot_list_count ⟨_, ho, rfl⟩ PySem.F.entry_list_count (PySem.F.args_list_count_2 _ _)
    (SeqAt.list_countAt p its.toArray n dd sl u (eqU k)) ⟨ho, fun y hy => mem_eqAt ru fk rv fs y (by simpa using hy), ?_⟩
  have ec : its.toArray.toList.countP (eqU k) = ys.countP (fun y => eqV y k) := countP_eqU rv fs
  refine ⟨.int (ys.countP (fun y => eqV y k) : Nat), H, I.tok _, ⟨s.toks, ?_⟩, q⟩
  show Value.int ((its.toArray.toList.countP (eqU k) : Nat) : Int) s.toks = Value.int ((ys.countP (fun y => eqV y k) : Nat) : Int) s.toks
  rw [ec]
theorem pa_starK {K : PySem.W.Frag} {e : Expr} {p : Pos} {es : List Expr} {te : TE} {t : TA} (hK : X.K = K) (he : PE X e te) (hr : PA X es t) : PA X (.Starred e p :: es) (StX.tStar K te t) := hK ▸ StX.pa_star he hr rfl
end
end Wb
namespace Wd
open PySem L2 Wb StX
section
variable {C : Cl} {fr : Bool} {K : PySem.W.Frag} {ta tb : TE} {f f' : FE} {t : TA} {fs : En → Option (List D)}
/-- xs.count(x) -/
def gCnt (x d : D) : Option D := match x with
  | .lst ds => if d.flat && ds.all D.flat then some (.int ((ds.map D.v).countP (fun y => eqV y d.v) : Nat)) else none
  | _ => none
theorem de_count (ha : DE C fr ta f) (hb : DE C fr tb f') : DE C fr (tBM K "list" (rCntV K) ta (tCons tb tNil)) (m2 gCnt f f') := fun B σ H G ρ bf k d h Q q => by
  obtain ⟨x, h1, h⟩ := obind h
  obtain ⟨y, h2, h⟩ := obind h
  refine ha B σ H G ρ bf k x h1 _ fun v H1 G1 e1 r1 => ?_
  unfold gCnt at h
  split at h
  · obtain ⟨h3, rfl⟩ := oif h
    rw [Bool.and_eq_true] at h3
    obtain ⟨a, xs, rfl, hx, rs⟩ := rp_lst r1
    refine ⟨.inl ⟨rfl, xs, SqL.of (e1.sub.lst hx)⟩, hb B σ H1 G1 ρ bf (k.ext e1) y h2 _ fun u H2 G2 e2 r2 => ?_⟩
    have rs2 := rs.mono e2.grow
    have eu := r2.v h3.1
    have ex := rs2.v h3.2
    subst eu
    subst ex
    refine ⟨a, _, _, rfl, rfl, SqL.of (e2.sub.lst (e2.grow _ _ hx)), flatV_v _, List.all_eq_true.mpr fun v hv => ?_, q _ H2 G2 (e1.trans e2) (.int _)⟩
    obtain ⟨d', _, rfl⟩ := List.mem_map.mp hv
    exact flatV_v _
  · cases h
/-- *xs in a display -/
def mStar (f : FE) (fs : En → Option (List D)) : En → Option (List D) := fun ρ => (f ρ).bind fun d => d.items.bind fun xs => (fs ρ).bind fun ys => some (xs ++ ys)
theorem da_star (ha : DE C fr ta f) (ht : DA C fr t fs) : DA C fr (tStar K ta t) (mStar f fs) := fun B σ H G ρ bf k ds h Q q => by
  obtain ⟨x, h1, h⟩ := obind h
  obtain ⟨xs, h2, h⟩ := obind h
  obtain ⟨ys, h3, h⟩ := obind h
  cases h
  refine ha B σ H G ρ bf k x h1 _ fun v H1 G1 e1 r1 => ?_
  obtain ⟨a, us, rfl, hs, rs⟩ := r1.items (K := K) e1.sub h2
  exact ⟨a, us, rfl, hs.symm, ht B σ H1 G1 ρ bf (k.ext e1) ys h3 _ fun ws H2 G2 e2 r2 => q _ H2 G2 (e1.trans e2) ((rs.mono e2.grow).app r2)⟩
end
end Wd
namespace Wb
open PySem L2
section
variable {X : Cx}
def rMinD (K : PySem.W.Frag) : List V → Hp → VK → Prop := fun vs H Q => ∃ (a : Addr) (xs : List V) (d : PyData) (ds : List PyData), vs = [.ref a] ∧ SqL K H a xs ∧ DpAll K H xs (d :: ds) ∧ PySem.W.AlikeAll (d :: ds) ∧ PyData.depthAll (d :: ds) ≤ 40 ∧
  ∀ (i : Nat) v, xs[i]? = some v → (d :: ds)[i]? = some (PySem.W.minD d ds) → Q v H
theorem cr_minD (hu : X.A.units + 64 < cLine) (hc : X.calm = true) : CallR X (.builtin "min") (rMinD X.K) := by
  intro pins s σ H vs us Q I r h
  obtain ⟨a, xs, d, ds, rfl, hs, hd, al, dep, q⟩ := h
  obtain ⟨its, rv, hl, _⟩ := I.list hs
  rw [Vals.ref1 r]
  obtain ⟨as, hr⟩ := Dp.readsAll I (d :: ds) xs its hd rv
  have ei : its.toArray.toList = its := by simp
  refine PySem.W.min_list_data (I.ok.hd hc) hl.isList (ei.symm ▸ hr) al (by omega) fun i v h' tk bs hv hrd hk => ?_
  have hv' : its[i]? = some v := by simpa using hv
  have hlt : i < its.length := (List.getElem?_eq_some_iff.mp hv').1
  have hx : xs[i]? = some (xs[i]'(by rw [rv.length]; exact hlt)) := List.getElem?_eq_getElem _
  obtain ⟨u, hu1, ru⟩ := rv.get hx
  rw [hv'] at hu1
  cases hu1
  obtain ⟨bs2, r2, lt2, _, _⟩ := PySem.W.readsAll_at hr i v hv'
  have e2 := (Reads.unique (PySem.W.reads_keeps hk r2) _ _ hrd).1
  refine ⟨_, H, I.kept hk, ru, q i _ hx ?_⟩
  rw [← e2, List.getD_eq_getElem?_getD, List.getElem?_eq_getElem lt2]
  rfl
end
end Wb
namespace Wd
open PySem L2 Wb
mutual
theorem py_inj : ∀ (a b : D), a.plain = true → b.plain = true → a.py = b.py → a = b
  | .non, b, _, hb, h => by cases b <;> first | rfl | (simp [D.py] at h; done) | (simp [D.plain] at hb)
  | .bl x, b, _, hb, h => by cases b <;> first | (simp [D.py] at h; rw [h]; done) | (simp [D.py] at h; done)
  | .int x, b, _, hb, h => by cases b <;> first | (simp [D.py] at h; rw [h]; done) | (simp [D.py] at h; done)
  | .str x, b, _, hb, h => by cases b <;> first | (simp [D.py] at h; rw [h]; done) | (simp [D.py] at h; done)
  | .tup x, b, ha, hb, h => by
    cases b with
    | tup y => rw [pys_inj x y (by unfold D.plain at ha; exact ha) (by unfold D.plain at hb; exact hb) (by simpa [D.py] using h)]
    | _ => simp [D.py] at h
  | .lst x, b, ha, hb, h => by
    cases b with
    | lst y => rw [pys_inj x y (by unfold D.plain at ha; exact ha) (by unfold D.plain at hb; exact hb) (by simpa [D.py] using h)]
    | _ => simp [D.py] at h
  | .dic _ _ _, _, ha, _, _ => by simp [D.plain] at ha
  | .obj _ _ _, _, ha, _, _ => by simp [D.plain] at ha
theorem pys_inj : ∀ (a b : List D), D.plains a = true → D.plains b = true → D.pys a = D.pys b → a = b
  | [], [], _, _, _ => rfl
  | [], _ :: _, _, _, h => by simp [D.pys] at h
  | _ :: _, [], _, _, h => by simp [D.pys] at h
  | a :: as, b :: bs, ha, hb, h => by
    unfold D.plains at ha hb
    rw [Bool.and_eq_true] at ha hb
    unfold D.pys at h
    injection h with h1 h2
    rw [py_inj a b ha.1 hb.1 h1, pys_inj as bs ha.2 hb.2 h2]
end
def minDD (d : D) (ds : List D) : D := ds.foldl (fun a y => if PySem.W.dataLt y.py a.py then y else a) d
theorem minDD_py : ∀ (ds : List D) (d : D), (minDD d ds).py = PySem.W.minD d.py (ds.map D.py)
  | [], d => rfl
  | y :: ds, d => by
    show (minDD (if PySem.W.dataLt y.py d.py then y else d) ds).py = PySem.W.minD (if PySem.W.dataLt y.py d.py then y.py else d.py) (ds.map D.py)
    rw [minDD_py ds]
    split <;> rfl
theorem minDD_mem : ∀ (ds : List D) (d : D), minDD d ds ∈ d :: ds
  | [], d => List.mem_singleton.mpr rfl
  | y :: ds, d => by
    have := minDD_mem ds (if PySem.W.dataLt y.py d.py then y else d)
    show minDD (if PySem.W.dataLt y.py d.py then y else d) ds ∈ d :: y :: ds
    rcases List.mem_cons.mp this with e | e
    · rw [e]
      split <;> simp
    · exact List.mem_cons_of_mem _ (List.mem_cons_of_mem _ e)
theorem plains_mem : ∀ {l : List D} {d : D}, D.plains l = true → d ∈ l → d.plain = true
  | x :: l, d, h, hd => by
    unfold D.plains at h
    rw [Bool.and_eq_true] at h
    rcases List.mem_cons.mp hd with rfl | hd
    · exact h.1
    · exact plains_mem h.2 hd
section
variable {C : Cl} {fr : Bool} {K : PySem.W.Frag} {ta tb : TE} {f f' : FE} {t : TA} {fs : En → Option (List D)}
def gMinD : List D → Option D
  | [.lst (d :: ds)] => if D.plains (d :: ds) && ((d :: ds).all fun x => !x.isN && (d :: ds).all fun y => PySem.W.alike x.py y.py) && decide (PyData.depthAll (D.pys (d :: ds)) ≤ 40) then some (minDD d ds) else none
  | _ => none
theorem rd_minD : RDs C (rMinD K) gMinD := fun H G xs ds z s r h Q q => by
  unfold gMinD at h
  split at h
  · rename_i d es
    obtain ⟨h1, rfl⟩ := oif h
    simp only [Bool.and_eq_true, List.all_eq_true, decide_eq_true_eq, Bool.not_eq_true'] at h1
    obtain ⟨⟨pl, al⟩, dp⟩ := h1
    obtain ⟨x, rfl, r1⟩ := rps1 r
    obtain ⟨a, us, rfl, hx, rs⟩ := rp_lst r1
    have hd := Rps.py (K := K) s rs pl
    have ep : D.pys (d :: es) = d.py :: es.map D.py := by rw [pys_map]; rfl
    rw [ep] at hd dp
    refine ⟨a, us, d.py, es.map D.py, rfl, SqL.of (s.lst hx), hd, ⟨fun x hx y hy => ?_, fun x hx e => ?_⟩, dp, fun i v hv hi => ?_⟩
    · have e1 : x ∈ (d :: es).map D.py := hx
      have e2 : y ∈ (d :: es).map D.py := hy
      obtain ⟨x', hx', rfl⟩ := List.mem_map.mp e1
      obtain ⟨y', hy', rfl⟩ := List.mem_map.mp e2
      exact (al x' hx').2 y' hy'
    · have e1 : x ∈ (d :: es).map D.py := hx
      obtain ⟨x', hx', rfl⟩ := List.mem_map.mp e1
      have p1 := plains_mem pl hx'
      have n1 := (al x' hx').1
      cases x' <;> simp [D.py, D.isN, D.plain] at e n1 p1
    · obtain ⟨di, hdi, rv⟩ := rs.getV hv
      have e1 : ((d :: es).map D.py)[i]? = some di.py := by rw [List.getElem?_map, hdi]; rfl
      have e2 : some di.py = some (PySem.W.minD d.py (es.map D.py)) := e1.symm.trans hi
      have e3 : di.py = (minDD d es).py := by rw [minDD_py]; exact Option.some.inj e2
      have m1 : di ∈ d :: es := List.mem_of_getElem? hdi
      have e4 := py_inj di (minDD d es) (plains_mem pl m1) (plains_mem pl (minDD_mem es d)) e3
      exact q v H G (Ext.refl s) (e4 ▸ rv)
  · cases h
end
end Wd
namespace Wd
open PySem L2 Wb RT
section
variable {C : Cl} {fr : Bool} {K : PySem.W.Frag} {ta tb : TE} {f f' : FE} {t : TA} {fs : En → Option (List D)}
/-- what is walked backwards -/
def mRev (f : FE) : En → Option (List D) := fun ρ => (f ρ).bind fun d => d.items.bind fun ds => some ds.reverse
theorem rev_at {α : Type} {l : List α} {i : Nat} {x : α} (h : l.reverse[i]? = some x) : i < l.length ∧ l[l.length - 1 - i]? = some x := by
  have hi : i < l.length := by
    have := (List.getElem?_eq_some_iff.mp h).1
    rw [List.length_reverse] at this
    exact this
  rw [List.getElem?_reverse hi] at h
  exact ⟨hi, h⟩
theorem yl_revL {H G : Hp} {a : Addr} {xs : List V} {ds : List D} (hs : SqL K H a xs) (s : Sub G H) (r : Rps C G xs ds) : Yl1 C (Itv K a xs.length) ds.reverse H G := fun i => by
  refine ⟨fun d hd => ?_, fun e => ?_⟩
  · obtain ⟨hi, hx⟩ := rev_at hd
    rw [← r.len] at hi hx
    obtain ⟨v, h1, h2⟩ := r.get hx
    refine ⟨⟨hi, xs, v, hs, h1⟩, ?_⟩
    rintro x H' ⟨rfl, h3⟩
    have := h3 xs hs
    rw [h1] at this
    cases this
    exact ⟨G, Ext.refl s, h2⟩
  · rw [List.length_reverse, ← r.len] at e
    exact Nat.le_of_eq e.symm
theorem yl_revT {H G : Hp} {a : Addr} {xs : List V} {ds : List D} (hs : SqT K H a xs) (s : Sub G H) (r : Rps C G xs ds) : Yl1 C (ItvT K a xs.length) ds.reverse H G := fun i => by
  refine ⟨fun d hd => ?_, fun e => ?_⟩
  · obtain ⟨hi, hx⟩ := rev_at hd
    rw [← r.len] at hi hx
    obtain ⟨v, h1, h2⟩ := r.get hx
    refine ⟨⟨hi, xs, v, hs, h1⟩, ?_⟩
    rintro x H' ⟨rfl, h3⟩
    have := h3 xs hs
    rw [h1] at this
    cases this
    exact ⟨G, Ext.refl s, h2⟩
  · rw [List.length_reverse, ← r.len] at e
    exact Nat.le_of_eq e.symm
theorem di_rev (ha : DE C fr ta f) : DI C fr (iRevA K ta) (mRev f) := fun B σ H G ρ bf k ds hd R q => by
  obtain ⟨x, h1, h⟩ := obind hd
  obtain ⟨es, h2, h⟩ := obind h
  cases h
  refine ha B σ H G ρ bf k x h1 _ fun v H1 G1 e1 r1 => ?_
  cases r1 with
  | lst hx rs =>
    cases h2
    exact ⟨_, _, rfl, .inl ⟨SqL.of (e1.sub.lst hx), q _ H1 G1 e1 fun H2 G2 b2 s2 => yl_revL (SqL.of (b2.sub.lst (s2 _ _ hx))) b2.sub (rs.mono s2)⟩⟩
  | tup hx rs =>
    cases h2
    exact ⟨_, _, rfl, .inr ⟨SqT.of (e1.sub.tup hx), q _ H1 G1 e1 fun H2 G2 b2 s2 => yl_revT (SqT.of (b2.sub.tup (s2 _ _ hx))) b2.sub (rs.mono s2)⟩⟩
  | _ => cases h2
/-- xs[::-1] -/
def gRevL (d : D) : Option D := match d with
  | .lst ds => some (.lst ds.reverse)
  | _ => none
theorem Rps.rev {G : Hp} : ∀ {xs : List V} {ds : List D}, Rps C G xs ds → Rps C G xs.reverse ds.reverse
  | _, _, .nil => .nil
  | _, _, .cons a b => by
    rw [List.reverse_cons, List.reverse_cons]
    exact (Rps.rev b).snoc a
theorem de_revL (ha : DE C fr ta f) : DE C fr (tRevL K ta) (m1 gRevL f) := fun B σ H G ρ bf k d h Q q => by
  obtain ⟨x, h1, h⟩ := obind h
  refine ha B σ H G ρ bf k x h1 _ fun v H1 G1 e1 r1 => ?_
  unfold gRevL at h
  split at h
  · cases h
    obtain ⟨a, xs, rfl, hx, rs⟩ := rp_lst r1
    exact ⟨a, xs, rfl, SqL.of (e1.sub.lst hx), fun p hp => q _ _ _ (e1.new hp (.lst xs.reverse)) (.lst upd_same (rs.rev.mono (same_newG (e1.sub.none hp) _)))⟩
  · cases h
end
end Wd
namespace Wb
open PySem PySem.Spec PyProof.Rows L2 PpSet
abbrev sc1E (elt t0 i0 : Expr) (c0 : List Expr) (scope : Scope) (pos : Pos) : Expr := .SetComp elt [⟨t0, i0, c0, 0⟩] scope pos
section
variable (elt t0 i0 : Expr) (c0 : List Expr) (scope : Scope) (pos : Pos) (it acc : Value) (env : Env)
theorem sc1_turn : compTurn (sc1E elt t0 i0 c0 scope pos) 0 it acc env = (do
    standAt i0.pos
    match ← pyNext it with
    | none => pure (.done .next)
    | some v =>
      letOwnedTupleGo t0 it v
      assign t0 env v
      let mut go := true
      for c in c0 do
        if go then go ← isTrue c env (eval c env)
      if go then
        (do let u ← eval elt env; standAt elt.pos; let _ ← call (.builtin "set.add") [acc, u])
      again (.compLoop (sc1E elt t0 i0 c0 scope pos) 0 it acc env)) := by rfl
end
section
variable {prog : Program} {w : World} {A : Around} {R : Result → Shared → Prop} {s : Shared} {elt t0 i0 : Expr} {c0 : List Expr} {scope : Scope} {pos : Pos} {it acc : Value} {env : Env}
theorem sc1_loop (I : Nat → Shared → Prop)
    (turn : ∀ n s, I n s → wpAny (model prog w) A (pyNext it) (fun r s1 => match r with
      | none => R (.ok .next) s1
      | some v => wpAny (model prog w) A (letOwnedTupleGo t0 it v) (fun _ s2 => wpAny (model prog w) A (assign t0 env v) (fun _ s3 => wpAny (model prog w) A (testsOf c0 env) (fun go s4 =>
          if go = true then wpAny (model prog w) A (eval elt env) (fun u s5 => wpAny (model prog w) A (call (.builtin "set.add") [acc, u]) (fun _ s6 => ∃ m, m < n ∧ I m s6) (Ers prog w A R env) s5) (Ers prog w A R env) s4
          else ∃ m, m < n ∧ I m s4) (Ers prog w A R env) s3) (Ers prog w A R env) s2) (Ers prog w A R env) s1) (Ers prog w A R env) s) (n : Nat) (h : I n s) :
    codeAny (model prog w) A (.compLoop (sc1E elt t0 i0 c0 scope pos) 0 it acc env) R s := by
  refine codeAny_loop rfl I (fun m s' hm => ?_) n h
  show wpAny _ A ((compTurn (sc1E elt t0 i0 c0 scope pos) 0 it acc env).onRaise (fun e => do noteFrame e env; theTreesLotGoes e)) _ _ s'
  refine wpAny_noted ?_
  rw [sc1_turn]
  refine wpAny_bind (wpAny_standAt (wpAny_bind (wpAny_mono (turn m s' hm) (fun r s1 h1 => ?_) fun _ _ z => z)))
  match r, h1 with
  | none, h1 => exact wpAny_pure h1
  | some v, h1 =>
    refine wpAny_bind (wpAny_mono h1 (fun _ s2 h2 => wpAny_bind (wpAny_mono h2 (fun _ s3 h3 => wpAny_bind (wpAny_mono h3 (fun go s4 h4 => ?_) fun _ _ z => z)) fun _ _ z => z)) fun _ _ z => z)
    match go, h4 with
    | false, h4 => exact wpAny_pure ⟨rfl, h4⟩
    | true, h4 => exact wpAny_bind (wpAny_bind (wpAny_mono h4 (fun u s5 h5 => wpAny_bind (wpAny_standAt (wpAny_bind (wpAny_mono h5 (fun _ s6 h6 => wpAny_pure (wpAny_pure ⟨rfl, h6⟩)) fun _ _ z => z)))) fun _ _ z => z))
end
section
variable {X : Cx}
def tSc1 (P : Program) (w : World) (K : PySem.W.Frag) (wi : TI) (g : TG) (tt : TT) (te : TE) (vs : List Nat) : TE := fun σ H Q => wi σ H fun J H1 => ∀ D, H1 D = none → ∃ W : Nat → Nat → Hp → Prop, (∃ m, W 0 m (upd H1 D (SetTO P w D []))) ∧ ∀ i m H, W i m H →
  (J.stop i H ∧ Q (.ref D) H) ∨ (J.go i H ∧ ∃ Nx : Hp → Prop, (∀ H', Nx H' → ∃ m', m' < m ∧ W (i + 1) m' H') ∧ ∀ x H', J.yld i H x H' → g x (wipe σ vs) H' fun σ2 H2 => wipe σ2 vs = wipe σ vs ∧ tt σ2 H2 fun b H3 =>
    if b = true then te σ2 H3 fun y H4 => putTo P w K D y H4 Nx else Nx H3)
theorem pe_sc1 {elt t0 i0 : Expr} {c0 : List Expr} {scope : Scope} {own : List (PySem.Str × Nat)} {pos : Pos} {wi : TI} {g : TG} {tt : TT} {te : TE} (hc : X.calm = true) (hu : X.A.units + 64 < cLine) (hN : X.N.Nodup) (hi : PI X t0 i0 wi)
    (ok : BlkOk X.N X.env.scope scope own) (hg : Blk X scope fun Y => PG Y t0 g) (ht : Blk X scope fun Y => PTs Y c0 tt) (he : Blk X scope fun Y => PE Y elt te) (hs : ∀ x, foldedSetIterable i0 X.env x = pure x := by intro _; rfl) :
    PE X (.SetComp elt [⟨t0, i0, c0, 0⟩] scope pos) (tSc1 X.prog X.w X.K wi g tt te (own.map (·.2))) := by
  refine ⟨fun pins s σ H Q I h => ?_⟩
  rw [eval_SetComp]
  have free : ∀ y ∈ scope.names, y.2 = .free → ∃ c, X.env.cells.lookup y.1 = some c := fun y hy e => (ok.free y hy e).elim (fun k => I.ok.has _ (.inl k)) fun k => I.ok.has _ (.inr k)
  refine wpAny_comprehension_free (use := none) rfl hs (closure_ok free) ok.kind (fun y hy e => by rw [ok.uniq y hy, e]) (thn (hi.run pins s σ H _ I h) fun xv sa ha => thn ha fun iv sb hb => ?_)
  obtain ⟨it, fp, tn, J, Hb, e, Ib, T, stb, fpb, q⟩ := hb
  subst e
  refine newSet_ok (newEnv_comp ?_)
  obtain ⟨D, hD⟩ : ∃ D, sb.heap.objs.size = D := ⟨_, rfl⟩
  rw [hD]
  have nD : Hb D = none := Ib.hok.fresh (Nat.le_of_eq hD)
  obtain ⟨W, ⟨mm, ww⟩, turn⟩ := q D nD
  generalize hsc : ({ sb with heap := sb.heap.push { cls := .type "set", dict := none, data := .set #[] 0 (.fresh 0 0 (!X.w.params.followText "set-order")) } } : Shared) = sc
  have heq : sc.heap = sb.heap.push { cls := .type "set", dict := none, data := .set #[] 0 (.fresh 0 0 (!X.w.params.followText "set-order")) } := by rw [← hsc]
  have Ic : Inv X pins σ (upd Hb D (SetTO X.prog X.w D [])) sc := by
    rw [← hsc]
    refine Ib.laid (t' := sb.toks) (fun b o e => Heap.get?_push_of_some _ e) (Nat.le_of_eq hD) (setTO_new (SetTR.t0 (setTR_fresh ?_)))
    rw [← hD]
    exact Heap.get?_push_size _ rfl
  have lt : ∀ b ∈ fp, b < sb.heap.objs.size := fun b hb => by
    obtain ⟨o, e, _⟩ := T.obj _ _ stb b hb
    exact Heap.lt_size e
  have fpc : ∀ b ∈ fp, FpOk X pins (upd Hb D (SetTO X.prog X.w D [])) b ∧ b < sc.heap.objs.size := fun b hb =>
    ⟨⟨by rw [upd_ne (by rw [← hD]; exact Nat.ne_of_lt (lt b hb))]; exact (fpb b hb).1, (fpb b hb).2⟩, by rw [heq, Heap.size_push]; exact Nat.lt_succ_of_lt (lt b hb)⟩
  have stc : tn 0 sc.heap := T.keep _ _ _ stb fun b _ o e => by rw [heq]; exact Heap.get?_push_of_some _ e
  have Id := block_start Ic ok hN fpc
  have Zg := hg sc (upd Hb D (SetTO X.prog X.w D [])) sc.heap.objs.size (cellsFrom (sc.heap.objs.size + 1) scope.names (cloFrom X.env.cells scope.names [])) fp
  have Zt := ht sc (upd Hb D (SetTO X.prog X.w D [])) sc.heap.objs.size (cellsFrom (sc.heap.objs.size + 1) scope.names (cloFrom X.env.cells scope.names [])) fp
  have Ze := he sc (upd Hb D (SetTO X.prog X.w D [])) sc.heap.objs.size (cellsFrom (sc.heap.objs.size + 1) scope.names (cloFrom X.env.cells scope.names [])) fp
  show codeAny _ _ (.compStart (sc1E elt t0 i0 c0 scope pos) 0 (.ref it) (.ref D) (compEnvC scope (cellsFrom (sc.heap.objs.size + 1) scope.names (cloFrom X.env.cells scope.names [])) sc.heap.objs.size X.env)) _ { sc with heap := pushCells (sc.heap.push { cls := .type "dict", data := .dict #[] }) scope.names }
  have bare : ∀ b ∈ fp, (upd Hb D (SetTO X.prog X.w D [])) b = none := fun b hb => (fpc b hb).1.1
  generalize hce : compEnvC scope (cellsFrom (sc.heap.objs.size + 1) scope.names (cloFrom X.env.cells scope.names [])) sc.heap.objs.size X.env = ce at Id Zg Zt Ze ⊢
  have loc : ce.locals = sc.heap.objs.size := by
    rw [← hce]
    rfl
  generalize hHc : upd Hb D (SetTO X.prog X.w D []) = Hc at Ic Id Zg Zt Ze ww bare fpc
  generalize hsd : ({ sc with heap := pushCells (sc.heap.push { cls := .type "dict", data := .dict #[] }) scope.names } : Shared) = sd at Id ⊢
  have std : tn 0 sd.heap := T.keep _ _ _ stc fun b _ o e => by
    rw [← hsd]
    exact pushCells_keeps _ _ _ _ (Heap.get?_push_of_some _ e)
  have okF : ∀ {σ' : L2.St} {H' : Hp} {s' : Shared}, Inv (X.blk sc Hc scope ce fp) [] σ' H' s' → (∀ b ∈ fp, H' b = none) → ∀ b ∈ fp, FpOk (X.blk sc Hc scope ce fp) [] H' b := fun {_ _ _} I' nn b hb =>
    ⟨nn b hb, (I'.ok.exf b hb).1, I'.ok.exfs b hb, .inl hb, (fun x c e => (I'.ok.exf b hb).2 x c e), fun p hp => by cases hp⟩
  obtain ⟨vs, evs⟩ : ∃ vs, own.map (·.2) = vs := ⟨_, rfl⟩
  rw [evs] at turn
  -- what stands between two turns of the first clause
  let Mid : Nat → Shared → Prop := fun n s' => ∃ i H', Inv (X.blk sc Hc scope ce fp) [] (wipe σ vs) H' s' ∧ tn i s'.heap ∧ (∀ b ∈ fp, H' b = none) ∧ W i n H'
  have Id' : Inv (X.blk sc Hc scope ce fp) [] (wipe σ vs) Hc sd := by
    rw [← evs]
    exact Id
  refine codeAny_compStart_set (rest := []) ?_ (T.self X.A 0 _ _ _ std ?_)
  all_goals
    refine sc1_loop Mid ?_ mm ⟨0, Hc, Id', std, bare, ww⟩
    rintro n se ⟨i, He, Ie, ste, ne, we⟩
    rcases turn i n He we with ⟨stop, qq⟩ | ⟨go, Nx, hNx, step⟩
    · refine thnF (T.done (X.blk sc Hc scope ce fp) rfl rfl rfl hc i [] se _ He (fun _ _ => False) Ie (okF Ie ne) ste stop) fun r sf ⟨hr, If⟩ => ?_
      subst hr
      have Ig : Inv X pins σ He sf := Ic.call' (ch := fp) If.os If.base If.hok If.bare fun b hb => ⟨(fpc b hb).1.2.2.2.1, (fpc b hb).1.2.1, (fpc b hb).1.2.2.2.2.1, (fpc b hb).1.2.2.2.2.2⟩
      have nC : He sc.heap.objs.size = none := by
        rw [← loc]
        exact If.free
      obtain ⟨m, hn, _⟩ := If.loc
      have hn' : sf.heap.Ns sc.heap.objs.size m := by
        rw [← loc]
        exact hn
      refine ⟨m, hn', fun h'' sb'' => ?_⟩
      obtain ⟨f0, f1, f2, f3, f4, f5⟩ := Ic.fpOk (Nat.le_refl _) nC
      exact ⟨.ref D, He, Ig.turned (t' := sf.toks) (fun b o hb e => (sb''.2 b hb).trans e) f0 f1 f3 f4 f5, rfl, qq⟩
    · refine thnF (T.item (X.blk sc Hc scope ce fp) rfl rfl rfl hc i [] se _ He (fun _ _ => False) Ie (okF Ie ne) ste go) fun r sf ⟨u, hr, hf⟩ => ?_
      subst hr
      refine thnF hf fun _ sg ⟨x, Hg, Ig, rg, yg, stg, ng⟩ => ?_
      refine thnF (Zg.run _ sg _ Hg x u _ (Ig.pinned (okF Ig ng) (T.obj _ _ stg)) rg (step x Hg yg)) fun _ sh ⟨σh, Hh, Ih, wh, qh⟩ => ?_
      refine thnF (Zt.run _ sh σh Hh _ Ih qh) fun b sk ⟨Hk, Ik, qk⟩ => ?_
      have lenh : (wipe σ vs).length = σh.length := by rw [← wh, wipe_length]
      have end0 : ∀ {σ' : L2.St} {s' : Shared} {H' : Hp}, Inv (X.blk sc Hc scope ce fp) ([] ++ pinsAt fp sg.heap) σ' H' s' → (wipe σ vs).length = σ'.length → (∀ (j : Nat) v, (wipe σ vs)[j]? = some (some v) → σ'[j]? = some (some v)) → Nx H' → ∃ m, m < n ∧ Mid m s' := fun {σ' s' H'} I' l1 l2 nx => by
        obtain ⟨m', hm, w'⟩ := hNx H' nx
        have pinned : ∀ b ∈ fp, ∀ o, sg.heap.get? b = some o → s'.heap.get? b = some o ∧ H' b = none := fun b hb o e => by
          have z := I'.pin (b, o) (List.mem_append_right _ (List.mem_append_right _ (mem_pinsAt hb e)))
          exact ⟨z.1, z.2.1⟩
        refine ⟨m', hm, i + 1, H', (I'.unpinned (pins := [])).weak l1 l2, T.keep _ _ _ stg fun b hb o e => (pinned b hb o e).1, fun b hb => ?_, w'⟩
        obtain ⟨o, e, _⟩ := T.obj _ _ stg b hb
        exact (pinned b hb o e).2
      have kh : ∀ (j : Nat) v, (wipe σ vs)[j]? = some (some v) → σh[j]? = some (some v) := fun j v e => (wipe_some (by rw [wh]; exact e)).1
      match b, qk with
      | false, qk => exact end0 Ik lenh kh qk
      | true, qk =>
        refine thnF (Ze.run _ sk σh Hk _ Ik qk) fun z ss ⟨yv, Hs, Is, rs, L, xx, kk, ey, hDs, hLs, hxs, fewL, nx⟩ => ?_
        subst ey
        cases rs
        exact addT_ok (X := X.blk sc Hc scope ce fp) Is hu hDs hLs hxs fewL fun L' st pin I' => end0 I' lenh kh (nx L' pin)
end
end Wb
namespace Wb
open PySem PySem.Spec PyProof.Rows L2
/-- the list at a and the tuple at b, item by item in new pairs -/
def ItW (K : PySem.W.Frag) (a b : Addr) : It :=
  ⟨fun i H => ∃ (xs ys : List V) (x y : V), SqT K H a xs ∧ SqL K H b ys ∧ xs[i]? = some x ∧ ys[i]? = some y,
   fun i H v H' => ∃ T x y, v = .ref T ∧ H T = none ∧ H' = upd H T (.tup [x, y]) ∧ (∀ l, SqT K H a l → l[i]? = some x) ∧ ∀ l, SqL K H b l → l[i]? = some y,
   fun i H => ∃ xs ys : List V, SqT K H a xs ∧ SqL K H b ys ∧ i ≤ xs.length ∧ i ≤ ys.length ∧ (i = xs.length ∨ i = ys.length)⟩
theorem zsepW (n a b : Nat) (ha : a < n) (hb : b < n) : ZipSep2 (n + 4) (n + 2) (n + 3) n (n + 1) [n, a] [n + 1, b] := by
  have nm : ∀ x y z : Nat, x ≠ y → x ≠ z → x ∉ [y, z] := fun x y z h1 h2 q => by
    rcases (by simpa using q : x = y ∨ x = z) with e | e
    · exact h1 e
    · exact h2 e
  have e1 : ∀ k : Nat, n + k ≠ a := fun k => by omega
  have e2 : ∀ k : Nat, n + k ≠ b := fun k => by omega
  have d : ∀ j k : Nat, j ≠ k → n + j ≠ n + k := fun j k h => by omega
  exact ⟨d 2 4 (by decide), d 3 4 (by decide), d 2 3 (by decide), d 2 0 (by decide), List.mem_cons_self .., nm _ _ _ (d 4 0 (by decide)) (e1 4), nm _ _ _ (d 3 0 (by decide)) (e1 3),
    d 2 1 (by decide), List.mem_cons_self .., nm _ _ _ (d 4 1 (by decide)) (e2 4), nm _ _ _ (d 3 1 (by decide)) (e2 3), nm _ _ _ (d 0 1 (by decide)) (e2 0), nm _ _ _ (d 1 0 (by decide)) (e1 1)⟩
theorem turn_zipW {P : Program} {w : World} {K : PySem.W.Frag} {elts : List Expr} {kk : Nat} {tp : Pos} {a b z TI TO i1 i2 : Addr} (S : ZipSep2 z TI TO i1 i2 [i1, a] [i2, b]) :
    Turn P w K (.Tuple elts kk tp) (ItW K a b) [z, TI, TO, i1, i2] z
      (fun i g => IsZip g z TI TO .none ∧ IsTupOf2 g TI (.ref i1) (.ref i2) ∧ (∃ x y, IsTupOf2 g TO x y) ∧ g.IsTupleIter i1 a i ∧ g.IsListIter i2 b i) where
  mem := by simp
  obj := by
    intro i g st c hc
    obtain ⟨hz, hTI, ⟨x, y, hTO⟩, ⟨o1, e1, _, d1⟩, ⟨o2, e2, _, d2⟩⟩ := st
    rcases (by simpa using hc : c = z ∨ c = TI ∨ c = TO ∨ c = i1 ∨ c = i2) with rfl | rfl | rfl | rfl | rfl
    · exact ⟨_, hz, fun v q => nomatch q⟩
    · exact ⟨_, hTI, fun v q => nomatch q⟩
    · exact ⟨_, hTO, fun v q => nomatch q⟩
    · exact ⟨o1, e1, fun v q => by rw [d1] at q; cases q⟩
    · exact ⟨o2, e2, fun v q => by rw [d2] at q; cases q⟩
  keep := by
    intro i g g' st k
    obtain ⟨hz, hTI, ⟨x, y, hTO⟩, h1, h2⟩ := st
    exact ⟨k z (by simp) _ hz, k TI (by simp) _ hTI, ⟨x, y, k TO (by simp) _ hTO⟩, h1.at fun o q => k i1 (by simp) o q, h2.at fun o q => k i2 (by simp) o q⟩
  item := by
    intro X hP hw hK hc i pins s σ H E I hf st hg
    subst hP hw hK
    obtain ⟨hz, hTI, ⟨x0, y0, hTO⟩, h1, h2⟩ := st
    obtain ⟨xs, ys, x, y, qx, qy, hx, hy⟩ := hg
    obtain ⟨its, rv, p, _⟩ := I.tuple qx
    obtain ⟨its2, rv2, p2, _⟩ := I.list qy
    obtain ⟨u, hu, ru⟩ := rv.get hx
    obtain ⟨u2, hu2, ru2⟩ := rv2.get hy
    have zl : z < s.heap.objs.size := Heap.lt_size hz
    have l1 : i < its.toArray.size := by
      obtain ⟨q, _⟩ := List.getElem?_eq_some_iff.mp hu
      simpa using q
    have l2 : i < its2.toArray.size := by
      obtain ⟨q, _⟩ := List.getElem?_eq_some_iff.mp hu2
      simpa using q
    have hh := I.ok.hd hc
    have D1 := Draws.tuple (prog := X.prog) (w := X.w) (A := X.A.in1) hh i1 a (fun e => by have q := S.sep1_2; have q2 := S.mem1; exact absurd (e ▸ p) (fun z1 => by
      obtain ⟨o, ho, hcl, n, hd⟩ := z1
      obtain ⟨o1, e1, c1, d1⟩ := h1
      rw [e1] at ho
      cases ho
      rw [d1] at hd
      cases hd)) its.toArray
    have D2 := Draws.list (prog := X.prog) (w := X.w) (A := X.A.in1) hh i2 b (fun e => absurd (e ▸ p2.isList) (fun z1 => by
      obtain ⟨o, ho, hcl, n, hd⟩ := z1
      obtain ⟨o1, e1, c1, d1⟩ := h2
      rw [e1] at ho
      cases ho
      rw [d1] at hd
      cases hd)) its2.toArray
    refine wpAny_pyNext_zipD2_item S D1 D2 hz hTI hTO ⟨h1, p⟩ ⟨h2, p2.isList⟩ l1 l2 fun v1 v2 h' tk y1 y2 z' TO' s1' s2' hT hsz hk => ?_
    have e1 : v1 = u := Option.some.inj (y1.symm.trans (by simpa using hu))
    have e2 : v2 = u2 := Option.some.inj (y2.symm.trans (by simpa using hu2))
    subst e1 e2
    refine ⟨_, rfl, wpAny_letOwnedTupleGo_zip (s := { s with heap := h', toks := tk }) z' fun h'' z'' sb => ?_⟩
    have hT2 : h''.get? s.heap.objs.size = some { cls := .type "tuple", data := .seq #[v1, v2] } := (sb.2 _ (Nat.ne_of_gt zl)).trans hT
    have new : ObjOk X.prog X.w (upd H s.heap.objs.size (.tup [x, y])) h'' s.heap.objs.size (.tup [x, y]) :=
      ⟨(by show 2 ≤ sizeLine; decide), [v1, v2], .cons ru (.cons ru2 .nil), ⟨_, hT2, rfl, _, rfl⟩⟩
    have I1 : Inv X pins σ (upd H s.heap.objs.size (.tup [x, y])) { s with heap := h'', toks := tk } :=
      I.turnedNew (t' := tk) (ch := [z, TI, TO, i1, i2])
        (fun c o hb q => (sb.2 c (fun e => hb (by simp [e]))).trans (hk c o (fun e => hb (by simp [e])) (fun e => hb (by simp [e])) (fun e => hb (by simp [e])) (fun e => hb (by simp [e])) q)) hf (Nat.le_refl _) new
    refine ⟨.ref s.heap.objs.size, _, I1, rfl, ⟨_, x, y, rfl, I.hok.fresh (Nat.le_refl _), rfl, fun l hl => by rw [I.tuple_inj hl qx]; exact hx, fun l hl => by rw [I.list_inj hl qy]; exact hy⟩, ⟨z'', ?_, ⟨v1, v2, ?_⟩, ?_, ?_⟩, fun c hcm => ?_⟩
    · exact (sb.2 _ S.TIz).trans (hk _ _ S.TIz S.TITO S.TIi1 S.TIi2 hTI)
    · exact (sb.2 _ S.TOz).trans TO'
    · exact s1'.1.at fun o q => (sb.2 _ S.zi1.symm).trans q
    · exact s2'.1.at fun o q => (sb.2 _ S.zi2.symm).trans q
    · have lt : c < s.heap.objs.size := by
        rcases (by simpa using hcm : c = z ∨ c = TI ∨ c = TO ∨ c = i1 ∨ c = i2) with q | q | q | q | q
        · rw [q]; exact zl
        · rw [q]; exact Heap.lt_size hTI
        · rw [q]; exact Heap.lt_size hTO
        · rw [q]; obtain ⟨_, e1, _⟩ := h1; exact Heap.lt_size e1
        · rw [q]; obtain ⟨_, e2, _⟩ := h2; exact Heap.lt_size e2
      rw [upd_ne (Nat.ne_of_lt lt)]
      exact (hf c hcm).1
  done := by
    intro X hP hw hK hc i pins s σ H E I hf st hg
    subst hP hw hK
    obtain ⟨hz, hTI, ⟨x0, y0, hTO⟩, h1, h2⟩ := st
    obtain ⟨xs, ys, qx, qy, hle1, hle2, hend⟩ := hg
    obtain ⟨its, rv, p, _⟩ := I.tuple qx
    obtain ⟨its2, rv2, p2, _⟩ := I.list qy
    have l1 := rv.length
    have l2 := rv2.length
    have hh := I.ok.hd hc
    have D1 := Draws.tuple (prog := X.prog) (w := X.w) (A := X.A.in1) hh i1 a (fun e => absurd (e ▸ p) (fun z1 => by
      obtain ⟨o, ho, hcl, n, hd⟩ := z1
      obtain ⟨o1, e1, c1, d1⟩ := h1
      rw [e1] at ho
      cases ho
      rw [d1] at hd
      cases hd)) its.toArray
    have D2 := Draws.list (prog := X.prog) (w := X.w) (A := X.A.in1) hh i2 b (fun e => absurd (e ▸ p2.isList) (fun z1 => by
      obtain ⟨o, ho, hcl, n, hd⟩ := z1
      obtain ⟨o1, e1, c1, d1⟩ := h2
      rw [e1] at ho
      cases ho
      rw [d1] at hd
      cases hd)) its2.toArray
    exact wpAny_pyNext_zipD2_end S D1 D2 hz hTI hTO ⟨h1, p⟩ ⟨h2, p2.isList⟩ (by simp; omega) (by simp; omega) (by simp; omega)
      fun h' tk hk => ⟨rfl, I.turnedL (t' := tk) (ch := [z, TI, TO, i1, i2]) (fun c o hb q => hk c o (fun e => hb (by simp [e])) (fun e => hb (by simp [e])) (fun e => hb (by simp [e])) (fun e => hb (by simp [e])) q) hf⟩
  self := fun A i s Q E st q => wpAny_pyIter_zip st.1 q
def iZipW (K : PySem.W.Frag) (ta : TA) : TI := fun σ H R => ta σ H fun vs H1 => ∃ a b xs ys, vs = [.ref a, .ref b] ∧ SqT K H1 a xs ∧ SqL K H1 b ys ∧ R (ItW K a b) H1
theorem pi_zipW {X : Cx} {e e2 : Expr} {ta : TA} {p pos tp : Pos} {elts : List Expr} {kk : Nat} (hg : Gl X "zip") (hm : X.mg "zip" = none) (ha : PA X [e, e2] ta)
    (hs : starEach [e, e2] X.env = (false, eval e X.env) :: starEach [e2] X.env := by rfl) (hpl : (backTo pos (starEach [e2] X.env)).any (·.1) = false := by rfl) :
    PI X (.Tuple elts kk tp) (.Call (.Name "zip" p) [e, e2] [] pos) (iZipW X.K ta) := by
  refine ⟨fun pins s σ H R I h => ?_⟩
  refine Call_ (ld_blt I hg hm PyProof.Rows.boot_zip (PyProof.Rows.callWith_type1 (thn (ha.run pos pins s σ H _ I h) fun us s1 ⟨vs, H1, I1, r1, q1⟩ => ?_) hs hpl))
  obtain ⟨a, b, xs, ys, rfl, qx, qy, q⟩ := q1
  obtain _ | ⟨r, rr⟩ := r1
  obtain _ | ⟨r', rr⟩ := rr
  cases rr
  cases r
  cases r'
  obtain ⟨its, rv, p1, _⟩ := I1.tuple qx
  obtain ⟨its2, rv2, p2, _⟩ := I1.list qy
  have la : a < s1.heap.objs.size := by
    obtain ⟨o, ho, _⟩ := id p1
    exact Heap.lt_size ho
  have lb : b < s1.heap.objs.size := by
    obtain ⟨o, ho, _⟩ := p2.isList
    exact Heap.lt_size ho
  refine zip_begins2 (begins_tuple a its.toArray) (begins_list b its2.toArray) p1 p2.isList fun h' hz hTI hTO g1 g2 hsz hk => wpAny_pyIter_zip hz ?_
  have I2 : Inv X pins σ H1 { s1 with heap := h' } := I1.kept (t' := s1.toks) hk
  refine ⟨s1.heap.objs.size + 4, [s1.heap.objs.size + 4, s1.heap.objs.size + 2, s1.heap.objs.size + 3, s1.heap.objs.size, s1.heap.objs.size + 1], _, _, H1, rfl, I2,
    turn_zipW (zsepW s1.heap.objs.size a b la lb), ⟨hz, hTI, ⟨_, _, hTO⟩, ⟨_, g1, rfl, rfl⟩, ⟨_, g2, rfl, rfl⟩⟩, fun c hcm => ?_, q⟩
  have le : s1.heap.objs.size ≤ c := by
    rcases (by simpa using hcm : c = s1.heap.objs.size + 4 ∨ c = s1.heap.objs.size + 2 ∨ c = s1.heap.objs.size + 3 ∨ c = s1.heap.objs.size ∨ c = s1.heap.objs.size + 1) with z | z | z | z | z
    · rw [z]; exact Nat.le_add_right _ _
    · rw [z]; exact Nat.le_add_right _ _
    · rw [z]; exact Nat.le_add_right _ _
    · rw [z]; exact Nat.le_refl _
    · rw [z]; exact Nat.le_add_right _ _
  exact I1.fpOk le (I1.hok.fresh le)
theorem walk_zipW {K : PySem.W.Frag} {a b : Addr} {xs ys : List V} {n : Nat} (hn : n = min xs.length ys.length) :
    Walk (ItW K a b) n (fun H => SqT K H a xs ∧ SqL K H b ys) (YPair (fun i => xs[i]?) (fun i => ys[i]?)) where
  goes := fun i H hi g => ⟨xs, ys, xs[i]'(by omega), ys[i]'(by omega), g.1, g.2, List.getElem?_eq_getElem _, List.getElem?_eq_getElem _⟩
  stops := fun H g => ⟨xs, ys, g.1, g.2, by omega, by omega, by omega⟩
  yields := by
    intro i H x H' hi g y
    obtain ⟨T, z, z', hv, hT, hH, q, q'⟩ := y
    exact ⟨T, z, z', hv, hT, hH, q xs g.1, q' ys g.2⟩
end Wb
namespace Wd
open PySem L2 Wb
section
variable {C : Cl} {fr : Bool} {K : PySem.W.Frag} {P : Program} {w : World} {ti : TI} {ta te : TE} {f fe : FE} {fi : En → Option (List D)} {tt : TT} {ft : En → Option Bool} {g : TG} {b : D → En → Option En} {vs : List Nat}
/-- sorted of a set: how many unlike ones counts -/
def gSortSU (rs : List D) : Option D := (unTs rs).bind fun ks => if okKeys (dd ks) then some (.lst ((sortF (TS.code 1000) (dd ks)).map tupI)) else none
theorem len_sub {L : List (List Int)} {m : List (List Int)} (nd : L.Nodup) (h : ∀ k ∈ L, k ∈ m) : L.length ≤ (dd m).length := List.Nodup.length_le_of_subset nd fun k hk => mem_dd.mpr (h k hk)
/-- sorted({.. one clause ..}) -/
def mSc1 (fi : En → Option (List D)) (b : D → En → Option En) (ft : En → Option Bool) (fe : FE) (vs : List Nat) : FE := fun ρ => ((fi ρ).bind fun ds => lcD b ft fe (wipeD ρ vs) ds).bind gSortSU
theorem de_sortSc1 (hi : DIE C fr ti fi) (hg : DG C g vs b) (ht : DT C fr tt ft) (he : DE C fr te fe) :
    DE C fr (tCB (rSortedT K P w) (tCons (tSc1 P w K ti g tt te vs) tNil)) (mSc1 fi b ft fe vs) := fun B σ H G ρ bf k d hd Q q => by
  obtain ⟨r, hm, h⟩ := obind hd
  obtain ⟨kall, hk, h⟩ := obind h
  obtain ⟨okk, rfl⟩ := oif h
  obtain ⟨k1, k2, k3⟩ := okKeys_of okk
  obtain ⟨ds, h1, h2⟩ := obind hm
  refine hi B σ H G ρ bf k ds h1 _ fun J H1 G1 e1 y => fun A hA => ?_
  refine ⟨fun i m H2 => m = ds.length - i ∧ i ≤ ds.length ∧ ∃ G2 L ks, Ext H1 G1 H2 G2 ∧ G2 A = none ∧ SetIn P w A H2 G2 L ks ∧ ∃ r' kr, lcD b ft fe (wipeD ρ vs) (ds.drop i) = some r' ∧ unTs r' = some kr ∧ kall = ks ++ kr, ?_, ?_⟩
  · exact ⟨_, rfl, Nat.zero_le _, G1, [], [], (Ext.refl e1.sub).newH hA _, e1.sub.none hA, ⟨upd_same, fun _ h => (nomatch h), .nil, fun _ => Iff.rfl, Nat.le_refl _⟩, r, kall, by rw [List.drop_zero]; exact h2, hk, rfl⟩
  · rintro i m H2 ⟨rfl, hi', G2, L, ks, e2, gA2, sA2, r', kr, hr, hkr, rfl⟩
    obtain ⟨y1, y2⟩ := y H2 G2 e2 i
    rcases Nat.lt_or_ge i ds.length with hlt | hge
    · have hx : ds[i]? = some ds[i] := List.getElem?_eq_getElem hlt
      obtain ⟨go, yl⟩ := y1 _ hx
      refine .inr ⟨go, _, fun H' z => z, fun x H3 yy => ?_⟩
      obtain ⟨G3, e3, rx⟩ := yl x H3 yy
      have e23 := e2.trans e3
      rw [drop_get hx] at hr
      unfold lcD at hr
      obtain ⟨ρ', c1, hr⟩ := obind hr
      obtain ⟨tb, c2, hr⟩ := obind hr
      refine hg _ H3 G3 _ x _ e3.sub rx ρ' c1 _ fun σ' kk w' => ⟨by rw [w']; exact wipe_idem, ?_⟩
      have k' := kk B H3 G3 (Same.refl _) (((k.ext e1).ext e23).wipe vs)
      refine ht B σ' H3 G3 ρ' bf k' tb c2 _ fun H4 G4 e4 => ?_
      have g3 : G3 A = none := e3.hid _ _ sA2.at_ rfl gA2
      have s3 := sA2.mono e3
      have g4 : G4 A = none := e4.hid _ _ s3.at_ rfl g3
      have s4 := s3.mono e4
      cases tb with
      | false => exact ⟨ds.length - (i + 1), by omega, rfl, by omega, G4, L, ks, e23.trans e4, g4, s4, r', kr, hr, hkr, rfl⟩
      | true =>
        rw [if_pos rfl]
        rw [if_pos rfl] at hr
        obtain ⟨z, d3, hr⟩ := obind hr
        obtain ⟨r3, d4, hr⟩ := obind hr
        cases hr
        obtain ⟨kz, kr3, v1, v2, rfl⟩ := unTs_one hkr
        refine he B σ' H4 G4 ρ' bf (k'.ext e4) z d3 _ fun v H9 G9 e9 rv => ?_
        have g9 : G9 A = none := e9.hid _ _ s4.at_ rfl g4
        have s9 := s4.mono e9
        obtain ⟨x9, rfl, hx9⟩ := unT_ref (H := H9) rv v1
        have lk : L.length + 1 < 64 := by
          have := len_sub (m := ks ++ kz :: kr3) s9.nd fun k hk => List.mem_append_left _ ((s9.mem k).mp hk)
          rw [List.length_map] at this
          omega
        refine ⟨L, x9, kz, rfl, s9.at_, fun p hp => SqT.of (e9.sub.tup (s9.seen p hp)), SqT.of (e9.sub.tup hx9), lk, fun L' hL' => ?_⟩
        exact ⟨ds.length - (i + 1), by omega, rfl, by omega, G9, L', ks ++ [kz], ((e23.trans e4).trans e9).put' hA g9 s9.at_ _ (fun _ _ => setTO_ncode), g9, s9.put hL' hx9 upd_same, r3, kr3, d4, v2, by rw [List.append_assoc]; rfl⟩
    · have e : i = ds.length := by omega
      subst e
      rw [List.drop_length] at hr
      cases hr
      cases hkr
      refine .inl ⟨y2 rfl, A, L, kLen (dd (ks ++ [])), 1000, rfl, sA2.at_, fun p hp => SqT.of (e2.sub.tup (sA2.seen p hp)), k2, fun p hp => ?_, fun L' p pm nd few pw hp => ?_⟩
      · exact k3 _ (mem_dd.mpr (List.mem_append_left _ ((sA2.mem _).mp (List.mem_map.mpr ⟨p, hp, rfl⟩))))
      · have E2 := e1.trans e2
        have pm2 := pm.map (·.2)
        have e := sortF_dd (m := ks ++ []) nd (fun a => by rw [List.append_nil, pm2.mem_iff]; exact sA2.mem a) (List.pairwise_map.mpr pw) (fun a ha b hb => okKeys_inj okk a (mem_dd.mpr ha) b (mem_dd.mpr hb))
        rw [← e] at q
        refine q _ _ _ (E2.new hp _) (.lst upd_same ?_)
        exact (rps_tupI fun z hz => sA2.seen z (pm.mem_iff.mp hz)).mono (same_newG (E2.sub.none hp) _)
variable {t : TA} {fs : En → Option (List D)}
def mZipW (fs : En → Option (List D)) : En → Option (List D) := fun ρ => (fs ρ).bind fun ds => match ds with
  | [.tup xs, .lst ys] => some ((xs.zip ys).map fun p => .tup [p.1, p.2])
  | _ => none
theorem di_zipW (ha : DA C fr t fs) : DI C fr (iZipW K t) (mZipW fs) := fun B σ H G ρ bf k ds hd R q => by
  obtain ⟨x, h1, h⟩ := obind hd
  refine ha B σ H G ρ bf k x h1 _ fun v H1 G1 e1 r1 => ?_
  split at h
  · cases h
    cases r1 with
    | cons ra rb =>
      cases rb with
      | cons rb rc =>
        cases rc
        obtain ⟨a, xs, rfl, hx, rs⟩ := rp_tup ra
        obtain ⟨b, ys, rfl, hy, rt⟩ := rp_lst rb
        refine ⟨a, b, xs, ys, rfl, SqT.of (e1.sub.tup hx), SqL.of (e1.sub.lst hy), q _ H1 G1 e1 fun H2 G2 b2 s2 => yl_pair (walk_zipW (xs := xs) (ys := ys) rfl) ⟨SqT.of (b2.sub.tup (s2 _ _ hx)), SqL.of (b2.sub.lst (s2 _ _ hy))⟩ b2.sub (by rw [List.length_zip, rs.len, rt.len]) fun i a b hp => ?_⟩
        obtain ⟨ha, hb⟩ := zip_get hp
        obtain ⟨v, hv, rv⟩ := (rs.mono s2).get ha
        obtain ⟨v', hv', rv'⟩ := (rt.mono s2).get hb
        exact ⟨fun u e => by rw [hv] at e; cases e; exact rv, fun u e => by rw [hv'] at e; cases e; exact rv'⟩
  · cases h
end
end Wd
namespace Wd
open PySem L2 Wb
theorem okSz {n : Nat} (h : n ≤ 1000000) : okSize n = true := decide_eq_true h
def WP (p : FS) (ρ : En) (R : Fl → En → Prop) : Prop := ∃ fl ρ', p ρ = some (fl, ρ') ∧ R fl ρ'
/-- what must hold behind one turn of a loop -/
def Turn (P : En → Prop) (R : Fl → En → Prop) : Fl → En → Prop
  | .nx, ρ => P ρ
  | .ct, ρ => P ρ
  | .bk, ρ => R .nx ρ
  | .rt d, ρ => R (.rt d) ρ
def Then (q : FS) (R : Fl → En → Prop) : Fl → En → Prop
  | .nx, ρ => WP q ρ R
  | fl, ρ => R fl ρ
section
variable {p q : FS} {ρ ρ1 : En} {R R' : Fl → En → Prop} {f : FE} {d : D} {i j k l : Nat} {b : D → En → Option En} {g : En → Option Bool}
theorem WP.imp (h : WP p ρ R) (hr : ∀ fl ρ', R fl ρ' → R' fl ρ') : WP p ρ R' := by
  obtain ⟨fl, ρ', h1, h2⟩ := h
  exact ⟨fl, ρ', h1, hr _ _ h2⟩
theorem w_seq (h : WP p ρ (Then q R)) : WP (sSeq p q) ρ R := by
  obtain ⟨fl, ρ', h1, h2⟩ := h
  cases fl with
  | nx =>
    obtain ⟨fl2, ρ2, h3, h4⟩ := h2
    exact ⟨fl2, ρ2, by unfold sSeq; rw [h1]; exact h3, h4⟩
  | bk => exact ⟨.bk, ρ', by unfold sSeq; rw [h1]; rfl, h2⟩
  | ct => exact ⟨.ct, ρ', by unfold sSeq; rw [h1]; rfl, h2⟩
  | rt d => exact ⟨.rt d, ρ', by unfold sSeq; rw [h1]; rfl, h2⟩
theorem w_of (h : p ρ = some (.nx, ρ1)) (k : R .nx ρ1) : WP p ρ R := ⟨_, _, h, k⟩
theorem w_nx (k : R .nx ρ) : WP sNx ρ R := ⟨_, _, rfl, k⟩
theorem w_parOO {f' : FE} {d1 d2 : D} (h : f ρ = some d1) (h' : f' ρ = some d2) (k : R .nx ((ρ.set i (some (.own d1))).set j (some (.own d2)))) : WP (sParOO i j f f') ρ R := ⟨_, _, by unfold sParOO; rw [h, Option.bind_some, h']; rfl, k⟩
theorem w_ret (h : f (thaw ρ) = some d) (k : R (.rt d) (thaw ρ)) : WP (sRet f) ρ R := ⟨_, _, by unfold sRet; rw [h]; rfl, k⟩
theorem w_if {c : Bool} (h : g ρ = some c) (ht : c = true → WP p ρ R) (hf : c = false → WP q ρ R) : WP (sIf g p q) ρ R := by
  cases c with
  | true =>
    obtain ⟨fl, ρ', h1, h2⟩ := ht rfl
    exact ⟨fl, ρ', by unfold sIf; rw [h]; exact h1, h2⟩
  | false =>
    obtain ⟨fl, ρ', h1, h2⟩ := hf rfl
    exact ⟨fl, ρ', by unfold sIf; rw [h]; exact h1, h2⟩
theorem w_ifF (h : g ρ = some false) (k : WP q ρ R) : WP (sIf g p q) ρ R := w_if h (fun z => nomatch z) fun _ => k
theorem w_app {as : List D} (h : f ρ = some d) (ho : ownL i ρ = some as) (hl : as.length ≤ 1000000) (k : R .nx (ρ.set i (some (.own (.lst (as ++ [d])))))) : WP (sApp i f) ρ R :=
  ⟨_, _, by unfold sApp; rw [h, Option.bind_some, ho, Option.bind_some, (okSz hl : okSize as.length = true), if_pos rfl], k⟩
theorem w_setX {s s' : Src} {F : FX} (h0 : srcOf i ρ = some s) (h : F s ρ = some (d, s')) (k : R .nx ((withS i s' ρ).set j (some (.shr d)))) : WP (sSetX i j F) ρ R := ⟨_, _, by unfold sSetX; rw [h0, Option.bind_some, h]; rfl, k⟩
theorem w_parX {s s' : Src} {Fs : FXA} {d1 d2 : D} (h0 : srcOf i ρ = some s) (h : Fs s ρ = some ([d1, d2], s')) (k : R .nx (((withS i s' ρ).set j (some (.shr d1))).set l (some (.shr d2)))) : WP (sParX i j l Fs) ρ R := ⟨_, _, by unfold sParX; rw [h0, Option.bind_some, h]; rfl, k⟩
theorem w_retX {s s' : Src} {F : FX} (h0 : srcOf i ρ = some s) (h : F s ρ = some (d, s')) (k : R (.rt d) (thaw (withS i s' ρ))) : WP (sRetX i F) ρ R := ⟨_, _, by unfold sRetX; rw [h0, Option.bind_some, h]; rfl, k⟩
/-- a walk over a list -/
theorem w_forD {α : Type} {e : α → D} (P : List α → En → Prop) : ∀ {xs pre : List α} {ρ : En}, P pre ρ →
    (∀ pre' x post ρ, pre ++ xs = pre' ++ x :: post → P pre' ρ → ∃ ρ1, b (e x) ρ = some ρ1 ∧ WP p ρ1 (Turn (P (pre' ++ [x])) R)) →
    (∀ ρ', P (pre ++ xs) ρ' → R .nx ρ') → WP (forD b p (xs.map e)) ρ R
  | [], pre, ρ, h0, _, k => ⟨.nx, ρ, rfl, k ρ (by rw [List.append_nil]; exact h0)⟩
  | x :: xs, pre, ρ, h0, hs, k => by
    obtain ⟨ρ1, h1, fl, ρ2, h2, h3⟩ := hs pre x xs ρ rfl h0
    have go : P (pre ++ [x]) ρ2 → WP (forD b p (xs.map e)) ρ2 R := fun h =>
      w_forD P (xs := xs) (pre := pre ++ [x]) h (fun pre' y post ρ hy hp => hs pre' y post ρ (by rw [← hy, List.append_assoc]; rfl) hp) fun ρ' z => k ρ' (by rw [List.append_assoc] at z; exact z)
    cases fl with
    | nx =>
      obtain ⟨fl, ρ', h4, h5⟩ := go h3
      exact ⟨fl, ρ', by rw [List.map_cons]; show (b (e x) ρ).bind _ = _; rw [h1, Option.bind_some, h2, Option.bind_some]; exact h4, h5⟩
    | ct =>
      obtain ⟨fl, ρ', h4, h5⟩ := go h3
      exact ⟨fl, ρ', by rw [List.map_cons]; show (b (e x) ρ).bind _ = _; rw [h1, Option.bind_some, h2, Option.bind_some]; exact h4, h5⟩
    | bk => exact ⟨.nx, ρ2, by rw [List.map_cons]; show (b (e x) ρ).bind _ = _; rw [h1, Option.bind_some, h2, Option.bind_some], h3⟩
    | rt d => exact ⟨.rt d, ρ2, by rw [List.map_cons]; show (b (e x) ρ).bind _ = _; rw [h1, Option.bind_some, h2, Option.bind_some], h3⟩
theorem w_for {α : Type} {e : α → D} {fi : En → Option (List D)} (xs : List α) (P : List α → En → Prop) (hi : fi ρ = some (xs.map e)) (h0 : P [] ρ)
    (hs : ∀ pre x post ρ, xs = pre ++ x :: post → P pre ρ → ∃ ρ1, b (e x) ρ = some ρ1 ∧ WP p ρ1 (Turn (P (pre ++ [x])) R))
    (k : ∀ ρ', P xs ρ' → R .nx ρ') : WP (sFor fi b p) ρ R := by
  obtain ⟨fl, ρ', h1, h2⟩ := w_forD (R := R) P (xs := xs) (pre := []) h0 hs k
  exact ⟨fl, ρ', by unfold sFor; rw [hi]; exact h1, h2⟩
/-- a def that draws -/
def RtS (R : D → Src → Prop) : Fl → En → Prop
  | .rt e, ρ => ∃ s, srcOf 0 ρ = some s ∧ R e s
  | .nx, ρ => ∃ s, srcOf 0 ρ = some s ∧ R .non s
  | _, _ => False
theorem w_runS {np n : Nat} {s : Src} {ds : List D} {Q : D → Src → Prop} (hl : ds.length + 1 = np) (h : WP p (some (.src s) :: ds.map (fun d => some (.shr d)) ++ List.replicate (n - np) none) (RtS Q)) : ∃ d s', mRunS np n p s ds = some (d, s') ∧ Q d s' := by
  obtain ⟨fl, ρ', h1, h2⟩ := h
  unfold mRunS
  rw [if_pos hl, h1]
  cases fl with
  | nx =>
    obtain ⟨s', e, h3⟩ := h2
    refine ⟨.non, s', ?_, h3⟩
    show (srcOf 0 ρ').bind _ = _
    rw [e]
    rfl
  | rt d =>
    obtain ⟨s', e, h3⟩ := h2
    refine ⟨d, s', ?_, h3⟩
    show (srcOf 0 ρ').bind _ = _
    rw [e]
    rfl
  | bk => cases h2
  | ct => cases h2
end
def nice : Nat → D → Bool
  | _, .int _ => true
  | _, .non => true
  | _, .str x => PyData.strOk x
  | n + 1, .tup ds => ds.all (nice n)
  | n + 1, .lst ds => ds.all (nice n)
  | _, _ => false
theorem nice_tup {n : Nat} {ds : List D} : nice (n + 1) (.tup ds) = true ↔ ∀ d ∈ ds, nice n d = true := by
  show ds.all (nice n) = true ↔ _
  rw [List.all_eq_true]
theorem nice_lst {n : Nat} {ds : List D} : nice (n + 1) (.lst ds) = true ↔ ∀ d ∈ ds, nice n d = true := by
  show ds.all (nice n) = true ↔ _
  rw [List.all_eq_true]
theorem plains_of : ∀ {l : List D}, (∀ d ∈ l, d.plain = true) → D.plains l = true
  | [], _ => rfl
  | x :: l, h => by
    unfold D.plains
    rw [h x List.mem_cons_self, plains_of fun d hd => h d (List.mem_cons_of_mem _ hd)]
    rfl
theorem lays_of : ∀ {l : List D}, (∀ d ∈ l, d.py.canLay0 = true) → PyData.canLayAll0 (D.pys l) = true
  | [], _ => rfl
  | x :: l, h => by
    unfold D.pys PyData.canLayAll0
    rw [h x List.mem_cons_self, lays_of fun d hd => h d (List.mem_cons_of_mem _ hd)]
    rfl
theorem depths_of {k : Nat} : ∀ {l : List D}, (∀ d ∈ l, d.py.depth ≤ k) → PyData.depthAll (D.pys l) ≤ k
  | [], _ => Nat.zero_le _
  | x :: l, h => by
    unfold D.pys PyData.depthAll
    have a := h x List.mem_cons_self
    have b := depths_of fun d hd => h d (List.mem_cons_of_mem x hd)
    omega
theorem nice_all : ∀ {n : Nat} {d : D}, nice n d = true → d.plain = true ∧ d.py.canLay0 = true ∧ d.py.depth ≤ n
  | _, .int _, _ => ⟨rfl, rfl, Nat.zero_le _⟩
  | _, .non, _ => ⟨rfl, rfl, Nat.zero_le _⟩
  | 0, .str x, h => ⟨rfl, by unfold nice at h; show PyData.canLay0 (.str x) = true; unfold PyData.canLay0; exact h, Nat.zero_le _⟩
  | n + 1, .str x, h => ⟨rfl, by unfold nice at h; show PyData.canLay0 (.str x) = true; unfold PyData.canLay0; exact h, Nat.zero_le _⟩
  | n + 1, .tup ds, h => by
    have ih := fun d hd => nice_all (nice_tup.mp h d hd)
    refine ⟨plains_of fun d hd => (ih d hd).1, ?_, ?_⟩
    · show PyData.canLay0 (.tuple (D.pys ds)) = true
      unfold PyData.canLay0
      exact lays_of fun d hd => (ih d hd).2.1
    · show PyData.depth (.tuple (D.pys ds)) ≤ n + 1
      unfold PyData.depth
      have := depths_of fun d hd => (ih d hd).2.2
      omega
  | n + 1, .lst ds, h => by
    have ih := fun d hd => nice_all (nice_lst.mp h d hd)
    refine ⟨plains_of fun d hd => (ih d hd).1, ?_, ?_⟩
    · show PyData.canLay0 (.list (D.pys ds)) = true
      unfold PyData.canLay0
      exact lays_of fun d hd => (ih d hd).2.1
    · show PyData.depth (.list (D.pys ds)) ≤ n + 1
      unfold PyData.depth
      have := depths_of fun d hd => (ih d hd).2.2
      omega
  | 0, .tup _, h => by cases h
  | 0, .lst _, h => by cases h
  | 0, .bl _, h => by cases h
  | n + 1, .bl _, h => by cases h
  | 0, .dic _ _ _, h => by cases h
  | 0, .dix _ _, h => by cases h
  | 0, .ctt _, h => by cases h
  | n + 1, .dic _ _ _, h => by cases h
  | n + 1, .dix _ _, h => by cases h
  | n + 1, .ctt _, h => by cases h
  | 0, .obj _ _ _, h => by cases h
  | n + 1, .obj _ _ _, h => by cases h
theorem nice_shaped {n : Nat} {d : D} (h : nice n d = true) (hn : n ≤ 60) : SeqAt.shaped d.py = true := by
  have z := nice_all h
  unfold SeqAt.shaped
  rw [z.2.1, decide_eq_true (by omega : d.py.depth ≤ 64)]
  rfl
theorem eqvAll_of : ∀ {xs ys : List D}, (∀ x ∈ xs, ∀ y ∈ ys, PyData.eqv x.py y.py = D.eqb x y) → PyData.eqvAll (D.pys xs) (D.pys ys) = D.eqbs xs ys
  | [], [], _ => rfl
  | [], _ :: _, _ => rfl
  | _ :: _, [], _ => rfl
  | x :: xs, y :: ys, h => by
    unfold D.pys PyData.eqvAll D.eqbs
    rw [h x List.mem_cons_self y List.mem_cons_self, eqvAll_of fun a ha b hb => h a (List.mem_cons_of_mem _ ha) b (List.mem_cons_of_mem _ hb)]
theorem eqv_nice : ∀ {n m : Nat} {d e : D}, nice n d = true → nice m e = true → PyData.eqv d.py e.py = D.eqb d e := by
  intro n
  induction n with
  | zero =>
    intro m d e h h'
    cases d <;> try (cases h; done)
    all_goals cases m <;> cases e <;> try (cases h'; done)
    all_goals first | rfl | (unfold D.py PyData.eqv D.eqb; rw [Bool.eq_iff_iff, decide_eq_true_eq, beq_iff_eq])
  | succ n ih =>
    intro m d e h h'
    cases d <;> try (cases h; done)
    all_goals cases m <;> cases e <;> try (cases h'; done)
    all_goals first | rfl | (unfold D.py PyData.eqv D.eqb; rw [Bool.eq_iff_iff, decide_eq_true_eq, beq_iff_eq]) | skip
    · exact eqvAll_of fun x hx y hy => ih (nice_tup.mp h x hx) (nice_tup.mp h' y hy)
    · exact eqvAll_of fun x hx y hy => ih (nice_lst.mp h x hx) (nice_lst.mp h' y hy)
theorem gEqP_nice {n m : Nat} {d e : D} (neg : Bool) (h : nice n d = true) (h' : nice m e = true) (hn : n ≤ 60) (hm : m ≤ 60) : gEqP neg d e = some (.bl (neg ^^ D.eqb d e)) := by
  unfold gEqP
  rw [(nice_all h).1, (nice_all h').1, nice_shaped h hn, nice_shaped h' hm, eqv_nice h h']
  rfl
mutual
theorem eqb_refl : ∀ d : D, d.plain = true → D.eqb d d = true
  | .non, _ => rfl
  | .bl b, _ => by unfold D.eqb; simp
  | .int i, _ => by unfold D.eqb; simp
  | .str x, _ => by unfold D.eqb; simp
  | .tup ds, h => by unfold D.eqb; exact eqbs_refl ds h
  | .lst ds, h => by unfold D.eqb; exact eqbs_refl ds h
  | .dic _ _ _, h => by cases h
  | .dix _ _, h => by cases h
  | .ctt _, h => by cases h
  | .obj _ _ _, h => by cases h
theorem eqbs_refl : ∀ ds : List D, D.plains ds = true → D.eqbs ds ds = true
  | [], _ => rfl
  | d :: ds, h => by
    unfold D.plains at h
    rw [Bool.and_eq_true] at h
    unfold D.eqbs
    rw [eqb_refl d h.1, eqbs_refl ds h.2]
    rfl
end
end Wd
namespace Wb
open PySem L2
section
variable {X : Cx}
theorem pt_truthK {K : PySem.W.Frag} {a : Expr} {ta : TE} (hK : X.K = K) (ha : PE X a ta) (he : ∀ whole, isTrue a X.env whole = (do let v ← whole; standAt a.pos; holding [v] (truthy v))) :
    PT X a (fun σ H Q => ta σ H fun x H' => ∃ k, TruV K x H' k ∧ Q k H') := hK ▸ pt_truth ha he
end
end Wb
namespace Wd
open PySem L2 Wb
section
variable {C : Cl} {fr : Bool} {K : PySem.W.Frag}
theorem Rps.rep {G : Hp} {xs : List V} {ds : List D} (h : Rps C G xs ds) : ∀ k, Rps C G (List.replicate k xs).flatten (List.replicate k ds).flatten
  | 0 => .nil
  | k + 1 => by
    rw [List.replicate_succ, List.replicate_succ, List.flatten_cons, List.flatten_cons]
    exact h.app (Rps.rep h k)
end
end Wd
namespace Wd
open PySem L2 Wb
def hd (r : List Nat) : Nat := r.getD 0 0
end Wd
namespace Wb
open PySem PySem.Spec PyProof.Rows L2
section
variable {X : Cx}
def rValsK : V → List V → Hp → VK → Prop := fun x xs H Q => ∃ (a : Addr) (kvs : List (L2.Key × V)), x = .ref a ∧ xs = [] ∧ H a = some (.dK kvs) ∧ ∀ p, H p = none → Q (.ref p) (upd H p (viewO "dict_values" p a))
theorem mt_valsK : MtR X "dict.values" rValsK := by
  intro pins s σ H x xs v us Q I rx rxs h
  obtain ⟨a, kvs, rfl, rfl, ha, q⟩ := h
  cases rx
  cases rxs
  obtain ⟨z, hd, ys, rel, o, es, ep, ho, hx, hdat, _⟩ := dk_of I.hok ha
  have ty : s.TypeIs (.ref a) "dict" := ⟨o, ho, hx.1⟩
  refine wpAny_call_entry PySem.F.slot_dict_values ty PySem.F.entry_dict_values ?_ (PySem.F.args_dict_values_1 _)
  unfold Builtin.«dict.values»
  refine wpAny_bind ?_
  unfold Builtin.Dict.noArgs
  refine wpAny_bind (wpAny_notOrdered_dict ty ?_)
  show wpAny _ _ (pure a) _ _ s
  refine wpAny_pure ?_
  show wpAny _ _ (Builtin.Dict.showsAll a >>= _) _ _ s
  unfold Builtin.Dict.showsAll
  rw [if_neg (by rw [hd]; exact Bool.false_ne_true)]
  refine wpAny_bind (wpAny_pure (wpAny_bind (wpAny_newObj_type (wpAny_pure ⟨_, rfl, ?_⟩))))
  exact ⟨.ref s.heap.objs.size, _, I.laid (t' := s.toks) (fun b u e => Heap.get?_push_of_some _ e) (Nat.le_refl _) (viewO_ok (Heap.get?_push_size _ rfl)), rfl, q _ (I.hok.fresh (Nat.le_refl _))⟩
theorem pairs_val {prog : Program} {w : World} {K' : Type} [DecidableEq K'] {knd : PySem.KeyKind prog w K'} : ∀ {es : List DictEntry} {kvs : List (K' × Value)}, PySem.Pairs knd es kvs → ∀ {i : Nat} {e : DictEntry}, es[i]? = some e → ∃ k, kvs[i]? = some (k, e.val)
  | _, _, .nil, i, e, h => by simp at h
  | _, _, .cons (kv := kv) _ h1 h2, 0, e, h => by
    simp at h
    subst h
    exact ⟨kv.1, by rw [h1]; rfl⟩
  | _, _, .cons _ _ h2, i + 1, e, h => by
    obtain ⟨k, hk⟩ := pairs_val h2 (i := i) (e := e) (by simpa using h)
    exact ⟨k, by simpa using hk⟩
theorem preSum_list : ∀ (ns : List Int) (n : Nat), n ≤ ns.length → preSum (fun i => ns.getD i 0) n = (ns.take n).sum := by
  intro ns n
  induction n with
  | zero => intro _; simp [preSum]
  | succ n ih =>
    intro h
    have e : preSum (fun i => ns.getD i 0) (n + 1) = preSum (fun i => ns.getD i 0) n + ns.getD n 0 := rfl
    rw [e, ih (by omega), List.take_succ_eq_append_getElem (by omega), List.sum_append, List.sum_singleton, List.getD_eq_getElem?_getD, List.getElem?_eq_getElem (by omega)]
    rfl
def rSumV : List V → Hp → VK → Prop := fun xs H Q => ∃ (p a : Addr) (ns : List Int), xs = [.ref p] ∧ H p = some (viewO "dict_values" p a) ∧ ((∃ kvs : List (L2.Key × V), H a = some (.dK kvs) ∧ kvs.map Prod.snd = ns.map V.int) ∨ ∃ kvs : List (List L2.Key × V), H a = some (.dT kvs) ∧ kvs.map Prod.snd = ns.map V.int) ∧ Q (.int ns.sum) H
theorem cr_sumV (hc : X.calm = true) : CallR X (.builtin "sum") rSumV := by
  intro pins s σ H xs us Q I rx h
  obtain ⟨p, a, ns, rfl, hp, ha, q⟩ := h
  rw [Vals.ref1 rx]
  have hv : s.heap.get? p = some (DSub.viewOb "dict_values" a) := (show ObjOk X.prog X.w H s.heap p (viewO "dict_values" p a) from I.hok p _ hp).1
  obtain ⟨o, es, ep, ho, hdat, hl, val⟩ : ∃ o es ep, s.heap.get? a = some o ∧ o.data = .dict es ep ∧ es.size = ns.length ∧ ∀ (i : Nat) (e : DictEntry), es[i]? = some e → ∃ t, e.val = .int (ns.getD i 0) t := by
    rcases ha with ⟨kvs, ha, hns⟩ | ⟨kvs, ha, hns⟩
    · obtain ⟨z, hd, ys, rel, o, es, ep, ho, hx, hdat, ko, he, hn⟩ := dk_of I.hok ha
      have l2 : kvs.length = ys.length := Paired.length rel
      have l3 : kvs.length = ns.length := by
        have e := congrArg List.length hns
        rwa [List.length_map, List.length_map] at e
      have l1 : es.size = ys.length := by rw [← Array.length_toList]; exact he.length
      refine ⟨o, es, ep, ho, hdat, by omega, fun i e hi => ?_⟩
      obtain ⟨k, hk⟩ := pairs_val he (i := i) (e := e) (by rw [Array.getElem?_toList]; exact hi)
      obtain ⟨x, hx1, hx2⟩ := KV.at' rel hk
      have lt : i < ns.length := by
        have := (List.getElem?_eq_some_iff.mp hx1).1
        omega
      have e3 : (kvs.map Prod.snd)[i]? = some x := by rw [List.getElem?_map, hx1]; rfl
      rw [hns, List.getElem?_map, List.getElem?_eq_getElem lt] at e3
      have e4 : x = .int ns[i] := (Option.some.inj e3).symm
      subst e4
      rw [List.getD_eq_getElem?_getD, List.getElem?_eq_getElem lt]
      exact hx2
    · obtain ⟨z, hd, ys, rel, o, es, ep, ho, hx, hdat, he, hn⟩ := dt_of I.hok ha
      have l1 : es.size = ys.length := size_of_entries he
      have l2 : kvs.length = ys.length := Paired.length rel
      have l3 : kvs.length = ns.length := by
        have e := congrArg List.length hns
        rwa [List.length_map, List.length_map] at e
      refine ⟨o, es, ep, ho, hdat, by omega, fun i e hi => ?_⟩
      have qe := entry_at he i
      rw [hi] at qe
      cases hy : ys[i]? with
      | none =>
        rw [hy] at qe
        cases qe
      | some y =>
        rw [hy] at qe
        obtain ⟨t, et⟩ := kt_val rel hns i y hy
        have e2 : e = entryOfKey (tupleKind (mixKind X.prog X.w)) y := Option.some.inj qe
        exact ⟨t, by rw [e2]; exact et⟩
  have lta : a < s.heap.objs.size := Heap.lt_size ho
  have keep : ∀ b u, s.heap.get? b = some u → (s.heap.push (DVw.valOb a 0 es.size ep)).get? b = some u := fun b u e => Heap.get?_push_of_some _ e
  have old : ∀ {s' : Shared}, Moved [s.heap.objs.size] (fun x y => y = x) { s with heap := s.heap.push (DVw.valOb a 0 es.size ep) } s' → ∃ h' tk, s' = { s with heap := h', toks := tk } ∧ ∀ b u, s.heap.get? b = some u → h'.get? b = some u := fun m => PySem.W.moved_old rfl rfl m
  show wpAny _ _ (call (.builtin "sum") [.ref p] []) _ _ _
  refine call_sum_walkAnyS (DSub.iter_vals hv ho hdat ?_)
  refine ⟨s.heap.objs.size, [s.heap.objs.size, a], [s.heap.objs.size], _, es.size, fun i v => ∃ t, v = .int (ns.getD i 0) t, _, fun i => ns.getD i 0, rfl, (DSub.walksVal (a := a) (show X.A.in1.handled = none from I.ok.hd hc) (Nat.ne_of_lt lta) hdat val).toS, ⟨Heap.get?_push_size _ rfl, keep _ _ ho⟩, fun b hb => ?_, fun i v z => z, fun s' t' m => ?_⟩
  · show b < (s.heap.push _).objs.size
    rw [size_push']
    rcases List.mem_cons.mp hb with e | e
    · rw [e]
      exact Nat.lt_succ_self _
    · rw [List.mem_singleton.mp e]
      exact Nat.lt_succ_of_lt lta
  · obtain ⟨h', tk, rfl, k⟩ := old m
    have e : preSum (fun i => ns.getD i 0) es.size = ns.sum := by rw [preSum_list ns es.size (by omega), hl, List.take_length]
    rw [e]
    exact ⟨.int ns.sum, H, I.kept (t' := tk) k, ⟨_, rfl⟩, q⟩
end
end Wb
namespace Wb
open PySem PySem.Spec PyProof.Rows L2
end Wb
namespace Wd
open PySem L2 Wb
section
variable {C : Cl} {fr : Bool} {K : PySem.W.Frag} {ta tb te ti tc : TE} {f f' : FE} {t : TA} {fs : En → Option (List D)}
def gLstRg : D → Option D
  | .int n => if okR n then some (.lst (rngD 0 n.toNat)) else none
  | _ => none
theorem rps_rg {G : Hp} (n : Int) : Rps C G (rgV 0 n) (rngD 0 n.toNat) := by
  unfold rgV rngD
  rw [Int.sub_zero]
  have key : ∀ l : List Nat, Rps C G (l.map fun i => V.int (0 + (i : Nat))) (l.map fun i => D.int (0 + (i : Nat))) := fun l => by
    induction l with
    | nil => exact .nil
    | cons a l ih => exact .cons (.int _) ih
  exact key _
theorem de_lstRg (ha : DE C fr ta f) : DE C fr (tLstRg (tRg1 ta)) (m1 gLstRg f) := fun B σ H G ρ bf k d h Q q => by
  obtain ⟨x, h1, h⟩ := obind h
  refine ha B σ H G ρ bf k x h1 _ fun v H1 G1 e1 r1 => ?_
  unfold gLstRg at h
  split at h
  · obtain ⟨c, rfl⟩ := oif h
    cases r1
    unfold okR at c
    simp only [Bool.and_eq_true, decide_eq_true_eq] at c
    refine ⟨_, rfl, ⟨by omega, by omega, by omega, by omega, by omega⟩, fun p hp => ?_⟩
    exact q _ _ _ (e1.new hp _) (.lst upd_same ((rps_rg _).mono (same_newG (e1.sub.none hp) _)))
  · cases h
def mDisp1 (f f' : FE) : FE := fun ρ => (f ρ).bind fun d => (f' ρ).bind fun e => match d with
  | .int i => some (.dic false [.int i] [e])
  | _ => none
theorem de_disp1 (ha : DE C fr ta f) (hb : DE C fr tb f') : DE C fr (tDisp [(ta, tb)]) (mDisp1 f f') := fun B σ H G ρ bf k d h Q q => by
  obtain ⟨x, h1, h⟩ := obind h
  obtain ⟨y, h2, h⟩ := obind h
  intro p hp
  have x0 := (Ext.refl k.sub).newH hp (.dK [])
  refine ha B σ _ G ρ bf (k.ext x0) x h1 _ fun v H1 G1 e1 r1 => hb B σ H1 G1 ρ bf ((k.ext x0).ext e1) y h2 _ fun u H2 G2 e2 r2 => ?_
  split at h
  · rename_i i hh
    cases h
    cases r1
    have hk : H2 p = some (.dK []) := e2.same _ _ (e1.same _ _ upd_same)
    refine ⟨hk, [(.inl i, u)], rfl, by show 1 ≤ 15; omega, ?_⟩
    have gp : G2 p = none := e2.hid p _ (e1.same _ _ upd_same) rfl (e1.hid p _ upd_same rfl (k.sub.none hp))
    have E := (x0.trans e1).trans e2
    have e3 : Ext H G (upd H2 p (.dK (mergeK [] [(.inl i, u)]))) (upd G2 p (.dK (mergeK [] [(.inl i, u)]))) := by
      exact (E.put hp gp hk _).see hp gp upd_same
    exact q _ _ _ e3 (.dK (kvs := [(.inl i, u)]) upd_same (.cons (r2.mono (same_newG gp _)) .nil))
  · cases h
def mSumV (t : Bool) (f : FE) : FE := fun ρ => (f ρ).bind fun d => match d with
  | .dic b _ vs => if b = t then (unIs vs).bind fun ns => some (.int ns.sum) else none
  | _ => none
theorem de_sumVK (hf : fr = true) (ha : DE C fr ta f) : DE C fr (tCB rSumV (tCons (tBM0 K "dict" rValsK ta) tNil)) (mSumV false f) := fun B σ H G ρ bf k d hd' Q q => by
  obtain ⟨x, h1, hx⟩ := obind hd'
  refine ha B σ H G ρ bf k x h1 _ fun v H1 G1 e1 r1 => ?_
  split at hx
  · split at hx
    · rename_i b ks vs eb
      obtain ⟨ns, h2, hx⟩ := obind hx
      cases hx
      generalize ek : D.dic b ks vs = dk at r1
      cases r1 with
      | dK e rs =>
        cases ek
        rename_i a kvs
        have ha := (k.ext e1).bok.unl (bf hf) _ _ e
        rw [unIs_eq h2] at rs
        refine ⟨.inr (.inr (.inl ⟨rfl, .inl ⟨kvs, ha⟩⟩)), a, kvs, rfl, rfl, ha, fun p hp => ?_⟩
        have x2 := e1.newH hp (viewO "dict_values" p a)
        exact ⟨p, a, ns, rfl, upd_same, .inl ⟨kvs, by rw [upd_ne (ne_of_none ha hp)]; exact ha, rs.ints⟩, q _ _ G1 x2 (.int _)⟩
      | dT e rs =>
        cases ek
        cases eb
      | _ => cases ek
    · cases hx
  · cases hx
def sPutL (j : Nat) (fv fi : FE) : FS := fun ρ => (fv ρ).bind fun v => (fi ρ).bind fun e => (ownL j ρ).bind fun ds => (unI e).bind fun n => (ixN ds.length n).bind fun m => some (.nx, ρ.set j (some (.own (.lst (ds.set m v)))))
theorem ds_putL (j : Nat) (hv : DE C fr te f) (hi : DE C fr ti f') : DS C fr (tAsg te (L2.gSub (tVar j) ti rSetL)) (sPutL j f f') := fun B σ H G ρ bf k r h E z => by
  obtain ⟨d, e2, h⟩ := obind h
  obtain ⟨d', e3, h⟩ := obind h
  obtain ⟨ds, e4, h⟩ := obind h
  obtain ⟨n, e5, h⟩ := obind h
  obtain ⟨m, e6, h⟩ := obind h
  cases h
  obtain ⟨a, vs, h1, h2, h3, _⟩ := ok_ownL k e4
  refine hv B σ H G ρ bf k d e2 _ fun v H1 G1 x1 r1 => ⟨_, h1, hi B σ H1 G1 ρ bf (k.ext x1) d' e3 _ fun u H2 G2 x2 r2 => ?_⟩
  have k2 := (k.ext x1).ext x2
  obtain ⟨a', vs', h1', h2', h3', _⟩ := ok_ownL k2 e4
  rw [h1] at h1'
  cases h1'
  have eu : d' = .int n := by
    cases d' <;> cases e5 <;> rfl
  subst eu
  cases r2
  refine ⟨a, vs', n, m, rfl, rfl, h2', by rw [h3'.len]; exact e6, z σ _ G2 ?_ (x1.grow.trans x2.grow)⟩
  exact k2.putOwn (ownL_eq e4) h1 rfl (.lst upd_same (h3'.set m (r1.mono x2.grow)))
def mOwnCat (i : Nat) (f : FE) : FE := fun ρ => (ownL i ρ).bind fun ds => (f ρ).bind fun e => match e with
  | .lst es => if okSize (ds.length + es.length) then some (.lst (ds ++ es)) else none
  | _ => none
theorem df_catOwn (i : Nat) (hb : DE C fr tb f) : DF C fr (tOp rCat (tVar i) tb) (mOwnCat i f) := fun B σ H G ρ bf k d h Q q => by
  obtain ⟨ds, h1, h⟩ := obind h
  obtain ⟨y, h2, h⟩ := obind h
  obtain ⟨a, vs, g1, g2, g3, _⟩ := ok_ownL k h1
  refine ⟨_, g1, hb B σ H G ρ bf k y h2 _ fun u H2 G2 e2 r2 => ?_⟩
  split at h
  · obtain ⟨c, rfl⟩ := oif h
    obtain ⟨b, xs, rfl, hx, rs⟩ := rp_lst r2
    have r3 := g3.mono e2.grow
    refine ⟨a, b, vs, xs, rfl, rfl, e2.same _ _ g2, e2.sub.lst hx, by rw [r3.len, rs.len]; exact okSize_le c, fun p hp => ?_⟩
    refine q p _ G2 (e2.newH hp _) ?_ (e2.sub.none hp) (.lst upd_same (r3.app rs))
    exact e2.free hp
  · cases h
end
end Wd
namespace Wd
open PySem L2 Wb
end Wd
namespace Wb
open PySem PySem.Spec PyProof.Rows L2
section
variable {X : Cx} {K : PySem.W.Frag} {tg l : Expr} {tl : TE}
def iSeq (K : PySem.W.Frag) (tl : TE) : TI := fun σ H R => tl σ H fun x H1 => ∃ a, x = .ref a ∧ (((∃ xs, SqL K H1 a xs) ∧ R (Itl K a) H1) ∨ ((∃ xs, SqT K H1 a xs) ∧ R (Itt K a) H1))
theorem pi_seq (hl : PE X l tl) : PI X tg l (iSeq X.K tl) := by
  constructor
  intro pins s σ H R I h
  refine thn (hl.run pins s σ H _ I h) ?_
  rintro v s1 ⟨x, H1, I1, rv, a, rfl, q⟩
  cases rv
  have new := I1.fpOk (Nat.le_refl s1.heap.objs.size) (I1.hok.fresh (Nat.le_refl _))
  rcases q with ⟨⟨xs, hq⟩, q⟩ | ⟨⟨xs, hq⟩, q⟩
  · obtain ⟨its, _, p, _⟩ := I1.list hq
    refine wpAny_pyIter_list p.isList ⟨_, [s1.heap.objs.size], _, _, H1, rfl, I1.kept (t' := s1.toks) fun _ _ => Heap.get?_push_of_some _, turn_list a _, ⟨_, Heap.get?_push_size _ rfl, rfl, rfl⟩, fun b hb => ?_, q⟩
    rw [List.mem_singleton.mp hb]
    exact new
  · obtain ⟨its, _, p, _⟩ := I1.tuple hq
    refine wpAny_pyIter_tuple (show s1.heap.IsTuple a its.toArray from p) ⟨_, [s1.heap.objs.size], _, _, H1, rfl, I1.kept (t' := s1.toks) fun _ _ => Heap.get?_push_of_some _, turn_tuple a _, ⟨_, Heap.get?_push_size _ rfl, rfl, rfl⟩, fun b hb => ?_, q⟩
    rw [List.mem_singleton.mp hb]
    exact new
end
end Wb
namespace Wb
open PySem PySem.Spec PyProof.Rows L2
end Wb
namespace Wd
open PySem L2 Wb
end Wd
namespace Wb
open PySem PySem.Spec PyProof.Rows L2
end Wb
namespace Wd
open PySem L2 Wb
end Wd
namespace Wd
open PySem L2 Wb
section
variable {C : Cl} {fr : Bool} {K : PySem.W.Frag} {ta : TE} {f : FE}
/-- what a list or a tuple holds -/
def mItS (f : FE) : En → Option (List D) := fun ρ => (f ρ).bind fun d => match d with
  | .lst ds => some ds
  | .tup ds => some ds
  | _ => none
theorem di_seq (ha : DE C fr ta f) : DI C fr (iSeq K ta) (mItS f) := fun B σ H G ρ bf k ds hd R q => by
  obtain ⟨x, h1, h⟩ := obind hd
  refine ha B σ H G ρ bf k x h1 _ fun v H1 G1 e1 r1 => ?_
  cases x with
  | lst es =>
    cases h
    obtain ⟨a, xs, rfl, hx, rs⟩ := rp_lst r1
    exact ⟨a, rfl, .inl ⟨⟨xs, SqL.of (e1.sub.lst hx)⟩, q _ H1 G1 e1 fun H2 G2 b2 s2 => yl_at walk_list (SqL.of (b2.sub.lst (s2 _ _ hx))) b2.sub (rs.mono s2)⟩⟩
  | tup es =>
    cases h
    obtain ⟨a, xs, rfl, hx, rs⟩ := rp_tup r1
    exact ⟨a, rfl, .inr ⟨⟨xs, SqT.of (e1.sub.tup hx)⟩, q _ H1 G1 e1 fun H2 G2 b2 s2 => yl_at walk_tup (SqT.of (b2.sub.tup (s2 _ _ hx))) b2.sub (rs.mono s2)⟩⟩
  | _ => cases h
end
end Wd
namespace Wb
open PySem PySem.Spec PyProof.Rows L2 LamX
/-- one parameter, no other name of its own: captured ones and globals -/
structure LamS1 (sc scope : Scope) (a : Str) : Prop where
  kind : scope.kind = .function
  co : scope.isCoroutine = false
  gen : scope.isGenerator = false
  own : ∀ y ∈ scope.names, (y.2 = .local → y.1 = a) ∧ y.2 ≠ .cell
  par : scope.names.lookup a = some .local
  free : ∀ y ∈ scope.names, y.2 = .free → sc.names.lookup y.1 = some .cell ∨ sc.names.lookup y.1 = some .free
theorem LamS1.has {X : Cx} {scope : Scope} {a : Str} (L : LamS1 X.env.scope scope a) (ok : X.Ok) : ∀ y ∈ scope.names, y.2 = .free → ∃ c, X.env.cells.lookup y.1 = some c := fun y hy e => by
  rcases L.free y hy e with k | k
  · exact ok.has _ (.inl k)
  · exact ok.has _ (.inr k)
end Wb
namespace Wd
open PySem L2 Wb LamX
section
variable {C C' : Cl} {G : Hp}
mutual
theorem Rp.cl (h : C.cl = C'.cl) (hw : C.wo = C'.wo) (hk : C.kf = C'.kf) : ∀ {v : V} {d : D}, Rp C G v d → Rp C' G v d
  | _, _, .non => .non
  | _, _, .bl b => .bl b
  | _, _, .int i => .int i
  | _, _, .str x => .str x
  | _, _, .tup e r => .tup e (Rps.cl h hw hk r)
  | _, _, .lst e r => .lst e (Rps.cl h hw hk r)
  | _, _, .dK e r => .dK e (Rps.cl h hw hk r)
  | _, _, .dT e r => .dT e (Rps.cl h hw hk r)
  | _, _, .dX q e hx r1 r2 => .dX (hw ▸ q) e hx (Rps.cl h hw hk r1) (Rps.cl h hw hk r2)
  | _, _, .ctt q e r => .ctt (hk ▸ q) e (Rps.cl h hw hk r)
  | _, _, .obj (c2 := c2) (c := c) (dx := dx) (fs := fs) e r => .obj (c2 := c2) (dx := dx) (by rw [e]; exact congrArg (fun f : Nat → Addr => some (HO.ins (f c) dx fs)) h) (Rps.cl h hw hk r)
theorem Rps.cl (h : C.cl = C'.cl) (hw : C.wo = C'.wo) (hk : C.kf = C'.kf) : ∀ {vs : List V} {ds : List D}, Rps C G vs ds → Rps C' G vs ds
  | _, _, .nil => .nil
  | _, _, .cons a b => .cons (Rp.cl h hw hk a) (Rps.cl h hw hk b)
end
end
theorem Rp.hand {C : Cl} {f c : Addr} {G0 G : Hp} {v : V} {d : D} (r : Rp C G v d) : Rp ⟨C.cl, f, c, G0, C.tb, C.wo, C.kf⟩ G v d := Rp.cl (C := C) (C' := ⟨C.cl, f, c, G0, C.tb, C.wo, C.kf⟩) rfl rfl rfl r
theorem Rp.back {C : Cl} {f c : Addr} {G0 G : Hp} {v : V} {d : D} (r : Rp ⟨C.cl, f, c, G0, C.tb, C.wo, C.kf⟩ G v d) : Rp C G v d := Rp.cl (C := ⟨C.cl, f, c, G0, C.tb, C.wo, C.kf⟩) (C' := C) rfl rfl rfl r
def Cl.hand (C : Cl) (f c : Addr) (G : Hp) : Cl := ⟨C.cl, f, c, G, C.tb, C.wo, C.kf⟩
instance {C : Cl} {f c : Addr} {G : Hp} {K : PySem.W.Frag} [CK C K] : CK (C.hand f c G) K := ⟨fun _ h => CK.h (C := C) _ h⟩
end Wd
namespace Wb
open PySem PySem.Spec PyProof.Rows L2
/-- the right one's type: an instance of the same class, or a tuple -/
inductive EqTo (K : PySem.W.Frag) (C : Addr) (H : Hp) : V → Prop where
  | ins {b dx : Addr} {fs : List (Str × V)} (h : H b = some (.ins C dx fs)) : EqTo K C H (.ref b)
  | tup {b : Addr} {xs : List V} (h : SqT K H b xs) (n : PySem.W.subIn K (.type "tuple") (.ref C) = some false) : EqTo K C H (.ref b)
end Wb
namespace Wb
open PySem PySem.Spec PyProof.Rows L2
/-- len(x) by an own __len__ -/
def rOwnLen (C : Addr) (sp : Sp) : List V → Hp → VK → Prop := fun xs H Q => ∃ a dx fs, xs = [.ref a] ∧ H a = some (.ins C dx fs) ∧ sp [.ref a] H (fun v H' => (∃ n : Nat, v = .int (n : Int) ∧ n ≤ 1000) ∧ Q v H') E0
theorem call_ownLen {X : Cx} {k : Nat} {f C : Addr} {fd : FuncData} {ps : List Str} {sp : Sp} (F : FnOk X.prog X.w X.K X.mg X.base CX0 k f fd ps sp) (hr : Room (k + 1) X.A)
    (hs : PySem.W.findIn X.K (.ref C) "__len__" = some (some (.ref f))) (hf : PySem.W.isFn X.K (.ref f) = true) (hb : Binds X.K fd ps []) : CallR X (.builtin "len") (rOwnLen C sp) := by
  intro pins s σ H xs us Q I r h
  obtain ⟨a, dx, fs, rfl, ha, hsp⟩ := h
  obtain ⟨u, rfl, ru⟩ := vals1 r
  cases ru
  obtain ⟨mA, J0, _⟩ := ins_get I.hok ha
  obtain ⟨od, J, _⟩ := J0.look
  obtain ⟨m, hF⟩ := I.fr
  have len := F.len _ _ _ _ hsp
  have bd := hb s [.ref a] I.kIn (by simpa using len)
  refine PySem.W.len_K hF I.ok.mod.kin J hs hf (wpAny_call (codeAny_mono (F.run X.A.in1 X.stack s H ⟨[.ref a], []⟩ [.ref a] [.ref a] _ E0 hr.in1 I.env0.in1 (by simpa using bd) (.cons rfl .nil) hsp) fun o s' g => ?_))
  match o, g with
  | .error er, g => exact g.elim
  | .ok (.ret z), g =>
    obtain ⟨z', H', I', rz, ⟨n, en, hn⟩, q⟩ := I.after g
    subst en
    obtain ⟨tk, ez⟩ := rz
    subst ez
    exact ⟨⟨Int.natCast_nonneg _, Int.lt_of_le_of_lt (Int.ofNat_le.mpr hn) (by decide)⟩, .int (n : Int), H', I'.tok _, ⟨_, rfl⟩, q⟩
end Wb
namespace Wb
open PySem PySem.Spec PyProof.Rows L2
/-- isinstance(e, c), e the exception that the suite holds (its class cls), with its dict at d -/
def rIsX (K : PySem.W.Frag) (D a : Addr) (cls : Value) (d : Option Addr) : List V → Hp → VK → Prop := fun xs H Q => ∃ (c : V) (cv : Value) (b : Bool) (dd : Addr) (fs : List (Str × V)), xs = [.ref a, c] ∧ cls = .ref D ∧ d = some dd ∧
  (∀ u, RelV c u → u = cv) ∧ PySem.W.kitOne K (.ref D) cv = some b ∧ H dd = some (.xd fs) ∧ Q (.bl b) H
theorem call_isX {X : Cx} {a D : Addr} {cls : Value} {d : Option Addr} {oe : Obj} {pn : List (Addr × Obj)} (C : ExcC X.K D) (hz : Zc cls d oe) (hf : ∃ vs, oe.data = .fields vs) : CallR (X.suite a ((a, oe) :: pn)) (.builtin "isinstance") (rIsX X.K D a cls d) := by
  intro pins s σ H xs us Q I r h
  obtain ⟨c, cv, b, dd, fs, rfl, rfl, rfl, hcv, e, hd, q⟩ := h
  obtain ⟨u1, u2, rfl, ra, rt⟩ := vals2 r
  cases ra
  have ec := hcv _ rt
  subst ec
  obtain ⟨hget, _⟩ := I.pin (a, oe) (List.mem_append.mpr (.inl List.mem_cons_self))
  obtain ⟨mA, hns, _⟩ := (show ObjOk X.prog X.w H s.heap dd (.xd fs) from I.hok dd _ hd)
  obtain ⟨od, ho, _⟩ := lookIn_ns hns
  obtain ⟨vs, hv⟩ := hf
  have J : PySem.W.InstAt s.heap a oe D (some od) := ⟨hget, hz.1, by unfold PySem.W.notCls; rw [hv] <;> rfl, by rw [hz.2]; exact ho⟩
  have hcl : (PySem.W.clsIn X.K D).isSome = true := by
    obtain ⟨cd, hc, _⟩ := PySem.W.any_some C.hd
    rw [hc]
    rfl
  exact PySem.W.kia_one (PySem.W.kitx_exc hcl C.hg C.hk C.hs C.ha C.hn C.ht C.hm) I.kIn J e (fun z => nomatch z) fun tk => ⟨.bl b, H, I.kept (t' := tk) fun _ _ z => z, rfl, q⟩
structure OwnIs (K : PySem.W.Frag) (C : Addr) : Prop where
  cl : Cls K C
  ha : PySem.W.findIn K (.ref C) "__class__" = some (some (.builtin "object.__class__"))
  hn : PySem.W.specialIn K (.builtin "object.__class__") "__get__" = some (some (.builtin "getset_descriptor.__get__"))
  ht : PySem.W.takesIn K (.builtin "object.__class__") = some true
  hm : PySem.W.mroIn K C (.type "object") = some true
  ty : PySem.W.typeIn K (.ref C) = some (.type "type")
theorem OwnIs.isome {K : PySem.W.Frag} {C : Addr} (o : OwnIs K C) : (PySem.W.clsIn K C).isSome = true := by
  obtain ⟨cd, hc, _⟩ := PySem.W.any_some o.cl.hd
  rw [hc]
  rfl
theorem kit_self {K : PySem.W.Frag} {C : Addr} : PySem.W.kitOne K (.ref C) (.ref C) = some true := by
  unfold PySem.W.kitOne
  rw [if_pos (beq_self_eq_true _)]
theorem sub_plain {K : PySem.W.Frag} {C : Addr} (d : PyData) : PySem.W.subIn K (.type (kindOf d)) (.ref C) = some false := by
  cases d <;> rfl
theorem OwnIs.plain {K : PySem.W.Frag} {C : Addr} (o : OwnIs K C) (d : PyData) : PySem.W.kitOne K (.type (kindOf d)) (.ref C) = some false := by
  unfold PySem.W.kitOne
  rw [if_neg (by intro z; cases d <;> cases z)]
  show (if ((PySem.W.clsIn K C).isSome && PySem.W.typeIn K (.ref C) == some (.type "type")) = true then PySem.W.subIn K (.type (kindOf d)) (.ref C) else none) = some false
  rw [o.isome, o.ty, if_pos (by rfl)]
  exact sub_plain d
theorem kit_sub {K : PySem.W.Frag} {C D : Addr} {b : Bool} (hc : (PySem.W.clsIn K D).isSome = true) (ht : PySem.W.typeIn K (.ref D) = some (.type "type")) (hs : PySem.W.subIn K (.ref C) (.ref D) = some b) (ne : C ≠ D) : PySem.W.kitOne K (.ref C) (.ref D) = some b := by
  unfold PySem.W.kitOne
  rw [if_neg (by intro z; exact ne (Value.ref.inj (beq_iff_eq.mp z)))]
  show (if ((PySem.W.clsIn K D).isSome && PySem.W.typeIn K (.ref D) == some (.type "type")) = true then PySem.W.subIn K (.ref C) (.ref D) else none) = some b
  rw [hc, ht, if_pos (by rfl)]
  exact hs
end Wb
namespace Wb
open PySem L2
theorem kit_any {K : PySem.W.Frag} {C D : Addr} (hc : PySem.W.isClsIn K D = true) (ht : PySem.W.typeIn K (.ref D) = some (.type "type")) (hs : PySem.W.subIn K (.ref C) (.ref D) = some true) : PySem.W.kitOne K (.ref C) (.ref D) = some true := by
  by_cases e : C = D
  · rw [e]
    exact kit_self
  · exact kit_sub hc ht hs e
end Wb
namespace Wb
open PySem L2
theorem exc_same {H : Hp} {a dx C : Addr} {o1 o2 o3 o4 : HO} (ha : H a = none) (hd : (upd H a o1) dx = none) (ne : dx ≠ a) : Same H (upd (del (upd (upd (upd H a o1) dx o2) a o3) a) dx o4) := fun b o hb => by
  have b1 : b ≠ a := ne_of_none hb ha
  have hd' : H dx = none := by rw [upd_ne ne] at hd; exact hd
  have b2 : b ≠ dx := ne_of_none hb hd'
  rw [upd_ne b2, del_ne b1, upd_ne b1, upd_ne b2, upd_ne b1]
  exact hb
/-- BadX.__init__(self, index) -/
def spBad (C : Addr) : Sp := fun vs H Q _ => ∃ (a : Addr) (v : V), vs = [.ref a, v] ∧ H a = some (exo a C none) ∧
  ∀ dx, H dx = none → dx ≠ a → Q .non (upd (upd H dx (exd dx [("index", v)])) a (exo a C (some dx)))
/-- the raise's own end, from what the promise says -/
theorem bad_made {H : Hp} {a C : Addr} {v : V} {Q : Value → Option Addr → Hp → Prop} (na : H a = none) (q : ∀ dd H', Same H H' → H' dd = some (.xd [("index", v)]) → Q (.ref C) (some dd) H') :
    spBad C [.ref a, v] (upd H a (exo a C none)) (fun z H2 => z = .non ∧ ∃ (d : Addr) (fs : List (Str × V)), H2 a = some (exo a C (some d)) ∧ H2 d = some (exd d fs) ∧ H d = none ∧ Q (.ref C) (some d) (upd (del H2 a) d (.xd fs))) (fun _ _ _ => False) :=
  ⟨a, v, rfl, upd_same, fun dx nd ne => ⟨rfl, dx, _, upd_same, (upd_ne ne).trans upd_same, by rw [upd_ne ne] at nd; exact nd, q dx _ (exc_same (C := C) na nd ne) upd_same⟩⟩
end Wb
namespace Wd
open PySem L2 Wb
abbrev FSX := En → Option ((Nat × En) ⊕ (Fl × En))
def FinX (B : Bs) (C : Cl) (ex : Nat → Value) (W : WX) (Gs : Hp) (r : (Nat × En) ⊕ (Fl × En)) (E : Ends) : Prop := match r with
  | .inl p => ∀ σ H G, Ok B C σ H G p.2 → Same Gs G → W (ex p.1) none σ H
  | .inr r => Fin B C Gs r E
section
variable {C : Cl} {fr fc : Bool} {ex : Nat → Value} {W : WX} {K : PySem.W.Frag} {B : Bs} {P : Program} {w : World} {mg : Str → Option Value} {base : Heap} {ts us : L2.TS} {p q : FSX} {s0 : FS} {tt : TT} {ft : En → Option Bool} {t : TA} {fs : En → Option (List D)} {m : List D → Option (Nat ⊕ D)}
theorem FinX.grow {G G' : Hp} {r : (Nat × En) ⊕ (Fl × En)} {E : Ends} (h : FinX B C ex W G r E) (s : Same G G') : FinX B C ex W G' r E := by
  cases r with
  | inl p => exact fun σ H G1 k s1 => h σ H G1 k (s.trans s1)
  | inr r => exact Fin.grow h s
/-- what a clause's suite does: slot i holds the error -/
def DSA (C : Cl) (fr : Bool) (i : Nat) (a : Addr) (ts : L2.TS) (f : FS) : Prop := ∀ (B : Bs) (σ : L2.St) (H G : Hp) (ρ : En), (fr = true → B.free = true) → Ok B C σ H G ρ → H a = none → σ[i]? = some (some (.ref a)) → ∀ r, f ρ = some r → ∀ E : Ends, Fin B C G r E → ts E σ H
theorem Ok.noSee {σ : L2.St} {H G : Hp} {ρ : En} (k : Ok B C σ H G ρ) (i : Nat) (x : Option V) : Ok B C (σ.set i x) H G (ρ.set i none) := by
  obtain ⟨oa, w⟩ := k
  have at_ : ∀ {j : Nat} {s : Sl}, (ρ.set i none)[j]? = some (some s) → j ≠ i ∧ ρ[j]? = some (some s) := fun {j s} h => by
    rw [List.getElem?_set] at h
    split at h
    · split at h <;> cases h
    · rename_i ne
      exact ⟨fun z => ne z.symm, h⟩
  exact ⟨oa, { w with
    len := by rw [List.length_set, List.length_set]; exact w.len
    sl := fun j s h => by
      obtain ⟨ne, h'⟩ := at_ h
      obtain ⟨v, h1, h2⟩ := w.sl j s h'
      exact ⟨v, by rw [List.getElem?_set_ne ne.symm]; exact h1, h2⟩
    hid := fun j s a h m => w.hid j s a (at_ h).2 m
    frs := fun j d a h m => w.frs j d a (at_ h).2 m
    dj := fun j l s t a ne h1 h2 m => w.dj j l s t a ne (at_ h1).2 (at_ h2).2 m }⟩
end
end Wd
namespace Wd
open PySem L2 Wb
/-- the clauses from number k on, of N in all, and what their suites do -/
inductive DCl (K : PySem.W.Frag) (C : Cl) (fr : Bool) (ex : Nat → Value) (i N : Nat) : Nat → List Clause → List FS → Prop
  | nil {k : Nat} : DCl K C fr ex i N k [] []
  | cons {k : Nat} {c : Value} {ts : Addr → Value → Option Addr → L2.TS} {h : FS} {l : List Clause} {hs : List FS} (yes : PySem.W.exmOne K (ex k) c = some true) (no : ∀ n, k < n → n < N → PySem.W.exmOne K (ex n) c = some false)
      (s : ∀ a, DSA C fr i a (ts a (ex k) none) h) (r : DCl K C fr ex i N (k + 1) l hs) : DCl K C fr ex i N k ((c, i, ts) :: l) (h :: hs)
section
variable {C : Cl} {fr : Bool} {ex : Nat → Value} {K : PySem.W.Frag} {B : Bs} {p : FSX} {i N : Nat}
theorem DCl.go {Wout : WX} {D : Ends} {n : Nat} (hn : n < N) {σ : L2.St} {H G : Hp} {ρ : En} (bf : fr = true → B.free = true) (k1 : Ok B C σ H G ρ) (il : i < ρ.length) {r : Fl × En} {h : FS} (e : h (ρ.set i none) = some r) (z : Fin B C G (r.1, r.2.set i none) D) :
    ∀ {k : Nat} {l : List Clause} {hs : List FS}, DCl K C fr ex i N k l hs → k ≤ n → hs[n - k]? = some h → wAsM K Wout D l (ex n) none σ H := by
  intro k l hs d
  induction d with
  | nil => intro _ h; cases h
  | @cons k c ts h2 l hs yes no s _ ih =>
    intro le hk
    by_cases ek : k = n
    · subst ek
      rw [Nat.sub_self] at hk
      cases hk
      refine ⟨true, yes, fun _ a ha => ?_, fun z => nomatch z⟩
      have l1 : σ.length = ρ.length := by
        obtain ⟨oa, w⟩ := k1
        exact w.len
      refine s a B _ H G _ bf (k1.noSee i (some (.ref a))) ha (by rw [List.getElem?_set_self (by rw [l1]; exact il)]) r e _ ?_
      obtain ⟨fl, ρ2⟩ := r
      cases fl with
      | nx => exact fun σ2 H2 G2 k2 s2 => z _ H2 G2 (k2.noSee i none) s2
      | bk => exact fun σ2 H2 G2 k2 s2 => z _ H2 G2 (k2.noSee i none) s2
      | ct => exact fun σ2 H2 G2 k2 s2 => z _ H2 G2 (k2.noSee i none) s2
      | rt d => exact fun v σ2 H2 G2 k2 s2 r2 => z v _ H2 G2 (k2.noSee i none) s2 r2
    · refine ⟨false, no n (by omega) hn, (fun z => nomatch z), fun _ => ih (by omega) ?_⟩
      have : n - k = (n - (k + 1)) + 1 := by omega
      rw [this] at hk
      exact hk
theorem zc_of {cls c : Value} {d : Option Addr} {oe : Obj} : cls = c ∧ d = none → Zc cls d oe → Zc c none oe := by
  rintro ⟨rfl, rfl⟩ h
  exact h
end
end Wd
namespace Wd
open PySem L2 Wb
abbrev RX := Nat × Option D
/-- the error's dict, as it is raised -/
def ErAt (C : Cl) (n : Str) (H G : Hp) (o : Option D) (d : Option Addr) : Prop := match o with
  | none => d = none
  | some x => ∃ (dd : Addr) (v : V), d = some dd ∧ H dd = some (.xd [(n, v)]) ∧ Rp C G v x
abbrev FSF := En → Option ((RX × En) ⊕ (Fl × En))
def FinF (B : Bs) (C : Cl) (n : Str) (ex : Nat → Value) (W : WX) (Gs : Hp) (r : (RX × En) ⊕ (Fl × En)) (E : Ends) : Prop := match r with
  | .inl p => ∀ σ H G d, Ok B C σ H G p.2 → Same Gs G → ErAt C n H G p.1.2 d → W (ex p.1.1) d σ H
  | .inr r => Fin B C Gs r E
def DSF (C : Cl) (fr : Bool) (n : Str) (ex : Nat → Value) (W : WX) (ts : L2.TS) (f : FSF) : Prop := ∀ (B : Bs) (σ : L2.St) (H G : Hp) (ρ : En), (fr = true → B.free = true) → Ok B C σ H G ρ → ∀ r, f ρ = some r → ∀ E : Ends, FinF B C n ex W G r E → ts E σ H
def fL (p : FS) : FSF := fun ρ => (p ρ).bind fun r => some (.inr r)
def fSeq (p q : FSF) : FSF := fun ρ => (p ρ).bind fun r => match r with
  | .inr (.nx, ρ1) => q ρ1
  | r => some r
def fIf (g : En → Option Bool) (p q : FSF) : FSF := fun ρ => (g ρ).bind fun b => if b then p ρ else q ρ
def fRaise (k : Nat) : FSF := fun ρ => some (.inl ((k, none), ρ))
def fRaiseV (k : Nat) (f : FE) : FSF := fun ρ => (f ρ).bind fun d => some (.inl ((k, some d), ρ))
def fSetCall (i : Nat) (m : List D → Option (RX ⊕ D)) (fs : En → Option (List D)) : FSF := fun ρ => (fs ρ).bind fun ds => (m ds).bind fun r => match r with
  | .inr d => some (.inr (.nx, ρ.set i (some (.shr d))))
  | .inl k => some (.inl (k, ρ))
def fRetCall (m : List D → Option (RX ⊕ D)) (fs : En → Option (List D)) : FSF := fun ρ => (fs ρ).bind fun ds => (m ds).bind fun r => match r with
  | .inr d => some (.inr (.rt d, ρ))
  | .inl k => some (.inl (k, ρ))
def fDropCall (m : List D → Option (RX ⊕ D)) (fs : En → Option (List D)) : FSF := fun ρ => (fs ρ).bind fun ds => (m ds).bind fun r => match r with
  | .inr _ => some (.inr (.nx, ρ))
  | .inl k => some (.inl (k, ρ))
/-- a def that may raise -/
def spDF (C : Cl) (fr : Bool) (n : Str) (ex : Nat → Value) (m : List D → Option (RX ⊕ D)) : Sp := fun vs H Q E => ∃ (G : Hp) (ds : List D) (r : RX ⊕ D), SubM C G H ∧ (fr = true → ∀ b o, G b = some o → tblO o = false → H b = some o) ∧ Rps C G vs ds ∧ m ds = some r ∧
  match r with
  | .inr d => ∀ v H' G', Ext H G H' G' → Rp C G' v d → Q v H'
  | .inl k => ∀ H' G' d, Ext H G H' G' → ErAt C n H' G' k.2 d → E (ex k.1) d H'
def mRunF (np n : Nat) (p : FSF) : List D → Option (RX ⊕ D) := fun ds => if ds.length = np then (p (ds.map (fun d => some (.shr d)) ++ List.replicate (n - np) none)).bind fun r => match r with
  | .inr (.rt d, _) => some (.inr d)
  | .inr (.nx, _) => some (.inr .non)
  | .inl (k, _) => some (.inl k)
  | _ => none else none
section
variable {C : Cl} {fr fc : Bool} {nm : Str} {ex : Nat → Value} {W : WX} {K : PySem.W.Frag} {B : Bs} {P : Program} {w : World} {mg : Str → Option Value} {base : Heap} {ts us : L2.TS} {p q : FSF} {s0 : FS} {tt : TT} {ft : En → Option Bool} {ti : TI} {fi : En → Option (List D)} {t : TA} {te : TE} {f : FE} {fs : En → Option (List D)} {m : List D → Option (RX ⊕ D)}
theorem FinF.grow {G G' : Hp} {r : (RX × En) ⊕ (Fl × En)} {E : Ends} (h : FinF B C nm ex W G r E) (s : Same G G') : FinF B C nm ex W G' r E := by
  cases r with
  | inl p => exact fun σ H G1 d k s1 e => h σ H G1 d k (s.trans s1) e
  | inr r => exact Fin.grow h s
theorem dsf_l (h : DS C fr ts s0) : DSF C fr nm ex W ts (fL s0) := fun B σ H G ρ bf k r hr E z => by
  obtain ⟨r1, e1, hr⟩ := obind hr
  cases hr
  exact h B σ H G ρ bf k r1 e1 E z
theorem dsf_seq (h1 : DSF C fr nm ex W ts p) (h2 : DSF C fr nm ex W us q) : DSF C fr nm ex W (tSeq ts us) (fSeq p q) := fun B σ H G ρ bf k r h E z => by
  obtain ⟨r1, e1, h⟩ := obind h
  refine h1 B σ H G ρ bf k r1 e1 _ ?_
  cases r1 with
  | inl p1 => cases h; exact z
  | inr r1 =>
    obtain ⟨fl, ρ1⟩ := r1
    cases fl with
    | nx => exact fun σ1 H1 G1 k1 s1 => h2 B σ1 H1 G1 ρ1 bf k1 r h E (z.grow s1)
    | bk => cases h; exact z
    | ct => cases h; exact z
    | rt d => cases h; exact z
theorem dsf_if (hc : DT C fr tt ft) (h1 : DSF C fr nm ex W ts p) (h2 : DSF C fr nm ex W us q) : DSF C fr nm ex W (tIfS tt ts us) (fIf ft p q) := fun B σ H G ρ bf k r h E z => by
  obtain ⟨b, e1, h⟩ := obind h
  refine hc B σ H G ρ bf k b e1 _ fun H1 G1 e => ?_
  cases b with
  | true => exact h1 B σ H1 G1 ρ bf (k.ext e) r h E (z.grow e.grow)
  | false => exact h2 B σ H1 G1 ρ bf (k.ext e) r h E (z.grow e.grow)
/-- raise X('m'), X without fields -/
theorem dsf_raise (n : Nat) : DSF C fr nm ex W (fun _ σ H => W (ex n) none σ H) (fRaise n) := fun B σ H G ρ bf k r h E z => by
  cases h
  exact z σ H G none k (Same.refl _) rfl
/-- raise X(v), X keeps v in its field index -/
theorem dsf_raiseV (n : Nat) {c : Addr} (hc : ex n = .ref c) (he : DE C fr te f) : DSF C fr "index" ex W (fun _ σ H => tMkO c (spBad c) [] (tCons te tNil) σ H fun cls d H' => W cls d σ H') (fRaiseV n f) := fun B σ H G ρ bf k r h E z => by
  obtain ⟨x, e1, h⟩ := obind h
  cases h
  refine he B σ H G ρ bf k x e1 _ fun v H1 G1 x1 r1 => ?_
  refine ⟨(by show 1 ≤ 1000; omega), fun a na => ?_⟩
  refine bad_made (C := c) (v := v) (Q := fun cls d H' => W cls d σ H') na fun dd H' s hdd => ?_
  have k1 := k.ext x1
  have xe : Ext H1 G1 H' G1 := Ext.kept s (Same.refl _) (k1.sub.kept s) (fun _ _ _ _ z => z) (fun _ _ z => .inl z)
  rw [← hc]
  exact z σ H' G1 (some dd) (k1.ext xe) x1.grow ⟨dd, v, rfl, hdd, r1⟩
/-- name = f(..), f may raise -/
theorem dsf_setcall (i : Nat) (hfr : fc = true → fr = true) (ht : DA C fr t fs) : DSF C fr nm ex W (tAsg (tCallS (spDF C fc nm ex m) (WE W) t) (gName i)) (fSetCall i m fs) := fun B σ H G ρ bf k r h E z => by
  obtain ⟨ds, e1, h⟩ := obind h
  obtain ⟨o, e2, h⟩ := obind h
  refine ht B σ H G ρ bf k ds e1 _ fun vs H1 G1 x1 r1 => ?_
  have k1 := k.ext x1
  refine ⟨G1, ds, o, k1.subM, fun z b o h n => k1.bok.unl (bf (hfr z)) b o h n, r1, e2, ?_⟩
  cases o with
  | inr d =>
    cases h
    exact fun v H' G' x r => z _ H' G' ((k1.ext x).set i r) (x1.trans x).grow
  | inl n =>
    cases h
    exact fun H' G' d x e => z σ H' G' d (k1.ext x) (x1.trans x).grow e
/-- f(..) as a statement -/
theorem dsf_dropcall (hfr : fc = true → fr = true) (ht : DA C fr t fs) : DSF C fr nm ex W (tDrop (tCallS (spDF C fc nm ex m) (WE W) t)) (fDropCall m fs) := fun B σ H G ρ bf k r h E z => by
  obtain ⟨ds, e1, h⟩ := obind h
  obtain ⟨o, e2, h⟩ := obind h
  refine ht B σ H G ρ bf k ds e1 _ fun vs H1 G1 x1 r1 => ?_
  have k1 := k.ext x1
  refine ⟨G1, ds, o, k1.subM, fun z b o h n => k1.bok.unl (bf (hfr z)) b o h n, r1, e2, ?_⟩
  cases o with
  | inr d =>
    cases h
    exact fun v H' G' x r => z σ H' G' (k1.ext x) (x1.trans x).grow
  | inl n =>
    cases h
    exact fun H' G' d x e => z σ H' G' d (k1.ext x) (x1.trans x).grow e
/-- return f(..), f may raise -/
theorem dsf_retcall (hfr : fc = true → fr = true) (ht : DA C fr t fs) : DSF C fr nm ex W (tRet (tCallS (spDF C fc nm ex m) (WE W) t)) (fRetCall m fs) := fun B σ H G ρ bf k r h E z => by
  obtain ⟨ds, e1, h⟩ := obind h
  obtain ⟨o, e2, h⟩ := obind h
  refine ht B σ H G ρ bf k ds e1 _ fun vs H1 G1 x1 r1 => ?_
  have k1 := k.ext x1
  refine ⟨G1, ds, o, k1.subM, fun z b o h n => k1.bok.unl (bf (hfr z)) b o h n, r1, e2, ?_⟩
  cases o with
  | inr d =>
    cases h
    exact fun v H' G' x r => z v σ H' G' (k1.ext x) (x1.trans x).grow r
  | inl n =>
    cases h
    exact fun H' G' d x e => z σ H' G' d (k1.ext x) (x1.trans x).grow e
/-- return f(..) if c else g(..), both may raise -/
theorem dsf_retif {ta tb : TE} (hc : DT C fr tt ft) (h1 : DSF C fr nm ex W (tRet ta) p) (h2 : DSF C fr nm ex W (tRet tb) q) : DSF C fr nm ex W (tRet (tIf tt ta tb)) (fIf ft p q) := fun B σ H G ρ bf k r h E z => by
  obtain ⟨b, e1, h⟩ := obind h
  refine hc B σ H G ρ bf k b e1 _ fun H1 G1 e => ?_
  cases b with
  | true => exact h1 B σ H1 G1 ρ bf (k.ext e) r h E (z.grow e.grow)
  | false => exact h2 B σ H1 G1 ρ bf (k.ext e) r h E (z.grow e.grow)
/-- what a clause's suite does: slot i holds the error of number k, o its field; the slot stays as it is till the suite ends -/
def DSE (C : Cl) (fr : Bool) (n : Str) (i : Nat) (cls : Value) (ts : Addr → Value → Option Addr → L2.TS) (f : Option D → FS) : Prop := ∀ (a : Addr) (B : Bs) (σ : L2.St) (H G : Hp) (ρ : En) (o : Option D) (d : Option Addr), (fr = true → B.free = true) → Ok B C σ H G ρ → ErAt C n H G o d → σ[i]? = some (some (.ref a)) → ∀ r, f o ρ = some r → ∀ E : Ends, Fin B C G r E → ts a cls d E σ H
/-- the clauses in their order: each takes some numbers; its suite for each of them -/
inductive DClF (K : PySem.W.Frag) (C : Cl) (fr : Bool) (n : Str) (ex : Nat → Value) (i N : Nat) : List Clause → List ((Nat → Bool) × (Nat → Option D → FS)) → Prop
  | nil : DClF K C fr n ex i N [] []
  | cons {c : Value} {ts : Addr → Value → Option Addr → L2.TS} {t : Nat → Bool} {h : Nat → Option D → FS} {l : List Clause} {hs : List ((Nat → Bool) × (Nat → Option D → FS))} (takes : ∀ k, k < N → PySem.W.exmOne K (ex k) c = some (t k))
      (s : ∀ k, k < N → t k = true → DSE C fr n i (ex k) ts (h k)) (r : DClF K C fr n ex i N l hs) : DClF K C fr n ex i N ((c, i, ts) :: l) ((t, h) :: hs)
def sTryF (i N : Nat) (px : FSF) (hs : List ((Nat → Bool) × (Nat → Option D → FS))) : FS := fun ρ => (px ρ).bind fun r => match r with
  | .inr r => some r
  | .inl ((k, o), ρ1) => if decide (k < N) && decide (i < ρ1.length) then (hs.find? fun h => h.1 k).bind fun h => (h.2 k o (ρ1.set i none)).bind fun r => some (r.1, r.2.set i none) else none
theorem ErAt.mono {n : Str} {H G G' : Hp} {o : Option D} {d : Option Addr} (e : ErAt C n H G o d) (s : Same G G') : ErAt C n H G' o d := by
  cases o with
  | none => exact e
  | some x =>
    obtain ⟨dd, v, e1, e2, e3⟩ := e
    exact ⟨dd, v, e1, e2, e3.mono s⟩
theorem DClF.go {i N : Nat} {Wout : WX} {D0 : Ends} {n : Nat} (hn : n < N) {σ : L2.St} {H G : Hp} {ρ : En} {o : Option D} {d : Option Addr} (bf : fr = true → B.free = true) (k1 : Ok B C σ H G ρ) (ea : ErAt C nm H G o d) (il : i < ρ.length) {r : Fl × En} {h : (Nat → Bool) × (Nat → Option D → FS)} (e : h.2 n o (ρ.set i none) = some r) (z : Fin B C G (r.1, r.2.set i none) D0) :
    ∀ {l : List Clause} {hs : List ((Nat → Bool) × (Nat → Option D → FS))}, DClF K C fr nm ex i N l hs → (hs.find? fun h => h.1 n) = some h → wAsM K Wout D0 l (ex n) d σ H := by
  intro l hs dc
  induction dc with
  | nil => intro h; cases h
  | @cons c ts t h2 l hs takes s _ ih =>
    intro hk
    cases ht : t n with
    | true =>
      rw [List.find?_cons_of_pos (by exact ht)] at hk
      cases hk
      refine ⟨true, ht ▸ takes n hn, fun _ a ha => ?_, fun z => nomatch z⟩
      have l1 : σ.length = ρ.length := by
        obtain ⟨oa, w⟩ := k1
        exact w.len
      refine s n hn ht a B _ H G _ o d bf (k1.noSee i (some (.ref a))) ea (by rw [List.getElem?_set_self (by rw [l1]; exact il)]) r e _ ?_
      obtain ⟨fl, ρ2⟩ := r
      cases fl with
      | nx => exact fun σ2 H2 G2 k2 s2 => z _ H2 G2 (k2.noSee i none) s2
      | bk => exact fun σ2 H2 G2 k2 s2 => z _ H2 G2 (k2.noSee i none) s2
      | ct => exact fun σ2 H2 G2 k2 s2 => z _ H2 G2 (k2.noSee i none) s2
      | rt d => exact fun v σ2 H2 G2 k2 s2 r2 => z v _ H2 G2 (k2.noSee i none) s2 r2
    | false =>
      rw [List.find?_cons_of_neg (by show ¬ t n = true; rw [ht]; exact Bool.false_ne_true)] at hk
      exact ⟨false, ht ▸ takes n hn, (fun z => nomatch z), fun _ => ih hk⟩
theorem ds_tryF {i N : Nat} {l : List Clause} {hs : List ((Nat → Bool) × (Nat → Option D → FS))} {tb : WX → L2.TS} {Wout : WX} (hb : ∀ W, DSF C fr nm ex W (tb W) p) (hc : DClF K C fr nm ex i N l hs) :
    DS C fr (fun D σ H => tb (wAsM K Wout D l) D σ H) (sTryF i N p hs) := fun B σ H G ρ bf k r h E z => by
  obtain ⟨o, e1, h⟩ := obind h
  refine hb _ B σ H G ρ bf k o e1 E ?_
  cases o with
  | inr r1 => cases h; exact z
  | inl p1 =>
    obtain ⟨⟨n, o⟩, ρ1⟩ := p1
    have c : (decide (n < N) && decide (i < ρ1.length)) = true := by
      cases c : decide (n < N) && decide (i < ρ1.length) with
      | true => rfl
      | false =>
        have h' : (if decide (n < N) && decide (i < ρ1.length) then (hs.find? fun h => h.1 n).bind fun h => (h.2 n o (ρ1.set i none)).bind fun r => some (r.1, r.2.set i none) else none) = some r := h
        rw [c, if_neg Bool.false_ne_true] at h'
        cases h'
    replace h : (if decide (n < N) && decide (i < ρ1.length) then (hs.find? fun h => h.1 n).bind fun h => (h.2 n o (ρ1.set i none)).bind fun r => some (r.1, r.2.set i none) else none) = some r := h
    rw [c, if_pos rfl] at h
    obtain ⟨c1, c2⟩ := Bool.and_eq_true_iff.mp c
    obtain ⟨f, e2, h⟩ := obind h
    obtain ⟨r2, e3, h⟩ := obind h
    cases h
    exact fun σ1 H1 G1 d1 k1 s1 ea => DClF.go (of_decide_eq_true c1) bf k1 ea (of_decide_eq_true c2) e3 (Fin.grow z s1) hc e2
/-- name = ['s', error.index] if isinstance(error, X) else .., the error being one of X -/
def sErrIdx (j : Nat) (s : Str) (o : Option D) : FS := fun ρ => o.bind fun x => some (.nx, ρ.set j (some (.shr (.lst [.str s, x]))))
/-- isinstance(error, X), .. one after the other -/
def DAI (i : Nat) (a : Addr) (t : TA) (bs : List Bool) : Prop := ∀ (σ : L2.St) (H : Hp) (R : List V → Hp → Prop), σ[i]? = some (some (.ref a)) → R (bs.map V.bl) H → t σ H R
theorem dai_nil {i : Nat} {a : Addr} : DAI i a tNil [] := fun σ H R _ q => q
abbrev tIsE (K : PySem.W.Frag) (D0 a : Addr) (i : Nat) (X : Addr) : TE := tCB (rIsE K D0 a) (tCons (tVar i) (tCons (tC (.ref X)) tNil))
theorem dai_cons {i : Nat} {a D0 X : Addr} {b : Bool} {bs : List Bool} {t : TA} (ki : PySem.W.kitOne K (.ref D0) (.ref X) = some b) (h : DAI i a t bs) : DAI i a (tCons (tIsE K D0 a i X) t) (b :: bs) := fun σ H R hi q =>
  ⟨.ref a, hi, .ref X, .ref X, b, rfl, (fun _ r => r), ki, h σ H _ hi q⟩
/-- a statement that goes on and leaves the error where it is -/
def DSK (C : Cl) (fr : Bool) (i : Nat) (ts : Addr → L2.TS) (f : FS) : Prop := ∀ (a : Addr) (B : Bs) (σ : L2.St) (H G : Hp) (ρ : En), (fr = true → B.free = true) → Ok B C σ H G ρ → σ[i]? = some (some (.ref a)) → ∀ r, f ρ = some r → ∀ E : Ends,
  (r.1 = .nx ∧ ∀ σ' H' G', Ok B C σ' H' G' r.2 → Same G G' → σ'[i]? = some (some (.ref a)) → E.nx σ' H') → ts a E σ H
def DSI (C : Cl) (fr : Bool) (i : Nat) (ts : Addr → L2.TS) (f : FS) : Prop := ∀ (a : Addr) (B : Bs) (σ : L2.St) (H G : Hp) (ρ : En), (fr = true → B.free = true) → Ok B C σ H G ρ → σ[i]? = some (some (.ref a)) → ∀ r, f ρ = some r → ∀ E : Ends, Fin B C G r E → ts a E σ H
def kSeq (p q : FS) : FS := fun ρ => (p ρ).bind fun r => match r.1 with
  | .nx => q r.2
  | _ => none
theorem dsi_of {i : Nat} {ts : L2.TS} {f : FS} (h : DS C fr ts f) : DSI C fr i (fun _ => ts) f := fun a B σ H G ρ bf k _ r hr E z => h B σ H G ρ bf k r hr E z
theorem dsi_seq {i : Nat} {t1 t2 : Addr → L2.TS} {f1 f2 : FS} (h1 : DSK C fr i t1 f1) (h2 : DSI C fr i t2 f2) : DSI C fr i (fun a => tSeq (t1 a) (t2 a)) (kSeq f1 f2) := fun a B σ H G ρ bf k hi r h E z => by
  obtain ⟨r1, e1, h⟩ := obind h
  obtain ⟨fl, ρ1⟩ := r1
  cases fl with
  | nx => exact h1 a B σ H G ρ bf k hi _ e1 _ ⟨rfl, fun σ1 H1 G1 k1 s1 hi1 => h2 a B σ1 H1 G1 ρ1 bf k1 hi1 r h E (Fin.grow z s1)⟩
  | bk => cases h
  | ct => cases h
  | rt d => cases h
/-- name = [isinstance(error, X), ..] -/
theorem dsk_own {i : Nat} (j : Nat) (ne : j ≠ i) {t : Addr → TA} {bs : List Bool} (hl : bs.length ≤ 1000) (h : ∀ a, DAI i a (t a) bs) : DSK C fr i (fun a => tAsg (tLst (t a)) (gName j)) (sOwn j (mC (.lst (bs.map D.bl)))) := fun a B σ H G ρ bf k hi r hr E z => by
  cases hr
  refine h a σ H _ hi ⟨by rw [List.length_map]; exact Nat.le_trans hl (by show 1000 ≤ sizeLine; decide), fun p hp => ?_⟩
  have x1 : Ext H G (upd H p (.lst (bs.map V.bl))) G := (Ext.refl k.sub).newH hp _
  have rb : ∀ l : List Bool, Rps C G (l.map V.bl) (l.map D.bl) := fun l => by
    induction l with
    | nil => exact .nil
    | cons b l ih => exact .cons (.bl b) ih
  refine z.2 _ _ G (k.setOwn j x1 hp (k.sub.none hp) (.lst upd_same (rb bs))) (Same.refl _) ?_
  rw [List.getElem?_set_ne ne]
  exact hi
end
end Wd
namespace Wb
open PySem PySem.Spec PyProof.Rows L2
/-- a def at f keeps the promise sp -/
def Callee (X : Cx) (CX : CXT) (f : Addr) (sp : Sp) : Prop := ∃ (k : Nat) (fd : FuncData) (ps : List Str), FnOk X.prog X.w X.K X.mg X.base CX k f fd ps sp ∧ Room k X.A ∧ PySem.W.keepIn X.K (.ref f) = true ∧ L2.Binds X.K fd ps []
def tCallV (A : Addr → Sp → Prop) (E : L2.St → XK) (tf : TE) (t : TA) : TE := fun σ H Q => tf σ H fun x H1 => ∃ (f : Addr) (sp : Sp), A f sp ∧ x = .ref f ∧ t σ H1 fun vs H2 => sp vs H2 Q (E σ)
theorem pe_callV {X : Cx} {CX : CXT} {A : Addr → Sp → Prop} {E : L2.St → XK} {fe e : Expr} {es : List Expr} {tf : TE} {t : TA} {pos : Pos} (hA : ∀ f sp, A f sp → Callee X CX f sp) (hx : ∀ σ, PassesAt CX X σ (E σ)) (hf : PE X fe tf) (ha : PA X (e :: es) t)
    (hc : eval (.Call fe (e :: es) [] pos) X.env = (do let v ← eval fe X.env; callWith pos v [] (backTo pos (starEach (e :: es) X.env)) (backToKw pos (keywordEach [] X.env))) := by rfl)
    (he : starEach (e :: es) X.env = (false, eval e X.env) :: starEach es X.env := by rfl) (hpl : (backTo pos (starEach es X.env)).any (·.1) = false := by rfl) :
    PE X (.Call fe (e :: es) [] pos) (tCallV A E tf t) := by
  refine ⟨fun pins s σ H Q I h => Call_ (thn (hf.run pins s σ H _ I h) fun u s1 ⟨x, H1, I1, rx, f, sp, a, ex, q⟩ => ?_) hc⟩
  subst ex
  obtain rfl : u = Value.ref f := rx
  obtain ⟨k, fd, ps, F, hr, hk, hb⟩ := hA f sp a
  refine PySem.W.callWith_K (h₀ := X.base) I1.ok.mod.kin hk (thn (ha.run pos pins s1 σ H1 _ I1 q) fun us s2 ⟨vs, H2, I2, r, q2⟩ => ⟨I2.kIn, ?_⟩) he hpl
  have len : us.length = ps.length := r.length.symm.trans (F.len _ _ _ _ q2)
  have bd := hb s2 us I2.kIn (by rw [List.append_nil]; exact len)
  rw [List.append_nil] at bd
  refine wpAny_call (codeAny_mono (F.run _ X.stack _ _ ⟨us, []⟩ _ _ _ (E σ) hr I2.env0 bd r q2) fun o s' g => ?_)
  match o, g with
  | .error er, g => exact hx σ pins _ _ er s' I2 g
  | .ok (.ret u), g => exact I2.after g
end Wb
namespace Wd
open PySem L2 Wb
variable {C : Cl} {fr fc : Bool} {nm : Str} {ex : Nat → Value} {W : WX} {K : PySem.W.Frag} {ti : TE} {fi : FE} {t : TA} {fs : En → Option (List D)}
/-- one of the defs, with its promise -/
def OneOf (C : Cl) (fc : Bool) (nm : Str) (ex : Nat → Value) (F : List (Addr × (List D → Option (RX ⊕ D)))) (f : Addr) (sp : Sp) : Prop := ∃ m, (f, m) ∈ F ∧ sp = spDF C fc nm ex m
def fRetV (F : List (Addr × (List D → Option (RX ⊕ D)))) (fi : FE) (fs : En → Option (List D)) : FSF := fun ρ => (fi ρ).bind fun e => (unI e).bind fun i => (atI F i).bind fun m => fRetCall m.2 fs ρ
theorem dsf_retV {F : List (Addr × (List D → Option (RX ⊕ D)))} {tl : TA} (hl : ∀ (σ : L2.St) (H : Hp) (R : List V → Hp → Prop), R (F.map fun f => V.ref f.1) H → tl σ H R) (hF : F.length ≤ 1000) (hfr : fc = true → fr = true) (hi : DE C fr ti fi) (ht : DA C fr t fs) :
    DSF C fr nm ex W (tRet (tCallV (OneOf C fc nm ex F) (WE W) (tOp (rIxL K) (tLst tl) ti) t)) (fRetV F fi fs) := fun B σ H G ρ bf k r h E z => by
  obtain ⟨e, e1, ha⟩ := obind h
  clear h
  obtain ⟨i, e2, hb⟩ := obind ha
  clear ha
  obtain ⟨⟨f, m⟩, e3, hc⟩ := obind hb
  clear hb
  have ee : e = .int i := by
    cases e with
    | int j => cases e2; rfl
    | _ => cases e2
  subst ee
  have mem : (f, m) ∈ F := by
    obtain ⟨j, _, h2⟩ := obind e3
    exact List.mem_of_getElem? h2
  have at_ : atI (F.map fun f => V.ref f.1) i = some (.ref f) := by
    obtain ⟨j, h1, h2⟩ := obind e3
    unfold atI
    rw [List.length_map, h1, Option.bind_some, List.getElem?_map, h2]
    rfl
  refine hl σ H _ ⟨by rw [List.length_map]; exact Nat.le_trans hF (by show 1000 ≤ sizeLine; decide), fun p hp => ?_⟩
  have x0 : Ext H G (upd H p (.lst (F.map fun f => V.ref f.1))) G := (Ext.refl k.sub).newH hp _
  refine hi B σ _ G ρ bf (k.ext x0) _ e1 _ fun v H1 G1 x1 r1 => ?_
  cases r1
  exact ⟨p, _, i, .ref f, rfl, rfl, SqL.of (x1.same _ _ upd_same), at_, f, spDF C fc nm ex m, ⟨m, mem, rfl⟩, rfl, dsf_retcall hfr ht B σ H1 G1 ρ bf ((k.ext x0).ext x1) r hc E (z.grow (x0.trans x1).grow)⟩
end Wd
namespace Wd
open PySem L2 Wb
section
variable {C : Cl} {fr fc : Bool} {nm : Str} {ex : Nat → Value} {W : WX} {K : PySem.W.Frag} {B : Bs} {P : Program} {w : World} {mg : Str → Option Value} {base : Heap} {te ta tb : TE} {f f' : FE} {t : TA} {fs : En → Option (List D)}
def gRepT (d e : D) : Option D := match d, e with
  | .tup ds, .int k => if decide (2 ≤ k) && decide (k ≤ 1000) && decide (ds.length ≤ 1000) && !ds.isEmpty then some (.tup (List.replicate k.toNat ds).flatten) else none
  | _, _ => none
theorem rd_repT : RD2 C (rRepT K) gRepT := fun H G x y d e z s r1 r2 h Q q => by
  unfold gRepT at h
  split at h
  · rename_i ds k
    obtain ⟨c, rfl⟩ := oif h
    simp only [Bool.and_eq_true, decide_eq_true_eq] at c
    obtain ⟨⟨⟨c1, c2⟩, c3⟩, c4⟩ := c
    obtain ⟨a, xs, rfl, hx, rs⟩ := rp_tup r1
    cases r2
    refine ⟨a, k, xs, rfl, rfl, .inl (.inl (s.tup hx)), ?_, c1, c2, by rw [rs.len]; exact c3, fun p hp => ?_⟩
    · intro z
      subst z
      have := rs.len
      cases ds with
      | nil => cases c4
      | cons _ _ => cases this
    · exact q _ _ (upd G p (.tup _)) ((Ext.refl s).new hp _) (.tup upd_same ((rs.rep _).mono (same_newG (s.none hp) _)))
  · cases h
theorem df_slL {tl th : TO} {fl fh : En → Option (Option Int)} (ha : DE C fr ta f) (hl : DO C fr tl fl) (hh : DO C fr th fh) : DF C fr (tSl (rSlL K) ta tl th) (mSlL f fl fh) := fun B σ H G ρ bf k d h Q q => by
  obtain ⟨x, h1, h⟩ := obind h
  obtain ⟨lo, h2, h⟩ := obind h
  obtain ⟨hi, h3, h⟩ := obind h
  split at h
  · cases h
    refine ha B σ H G ρ bf k _ h1 _ fun v H1 G1 e1 r1 => hl B σ H1 G1 ρ bf (k.ext e1) lo h2 _ fun H2 G2 e2 => hh B σ H2 G2 ρ bf ((k.ext e1).ext e2) hi h3 _ fun H3 G3 e3 => ?_
    obtain ⟨a, xs, rfl, hx, rs⟩ := rp_lst ((r1.mono e2.grow).mono e3.grow)
    have E := (e1.trans e2).trans e3
    refine ⟨a, xs, rfl, SqL.of (e3.sub.lst hx), fun p hp => q p _ G3 (E.newH hp _) ?_ (E.sub.none hp) (.lst upd_same rs.cut)⟩
    exact E.free hp
  · cases h
def mFmt (f : FE) : FE := fun ρ => (f ρ).bind fun d => match d with
  | .str y => if okSize y.length then some (.str y) else none
  | .int i => if decide (i.natAbs < 18446744073709551616) then some (.str (toString i)) else none
  | _ => none
theorem log_small {n : Nat} (h : n < 18446744073709551616) : n.log2 < 1920 := by
  by_cases z : n = 0
  · subst z
    decide
  · exact Nat.lt_trans ((Nat.log2_lt z).mpr (show n < 2 ^ 64 from h)) (by decide)
theorem de_fmt (he : DE C fr te f) : DE C fr (tFmt te) (mFmt f) := fun B σ H G ρ bf k d h Q q => by
  obtain ⟨x, e1, h⟩ := obind h
  refine he B σ H G ρ bf k x e1 _ fun v H1 G1 x1 r1 => ?_
  cases x with
  | str y =>
    obtain ⟨z, rfl⟩ := oif h
    cases r1
    exact .inl ⟨y, rfl, okSize_le z, q _ H1 G1 x1 (.str y)⟩
  | int i =>
    obtain ⟨z, rfl⟩ := oif h
    cases r1
    exact .inr ⟨i, rfl, log_small (of_decide_eq_true z), q _ H1 G1 x1 (.str _)⟩
  | _ => cases h
def mJs : List FE → Str → FE
  | [], acc => fun _ => some (.str acc)
  | f :: fs, acc => fun ρ => (f ρ).bind fun d => match d with
    | .str y => if okSize (acc ++ y).length then mJs fs (acc ++ y) ρ else none
    | _ => none
inductive DJs (C : Cl) (fr : Bool) : List TE → List FE → Prop
  | nil : DJs C fr [] []
  | cons {te : TE} {f : FE} {ts : List TE} {fs : List FE} (h : DE C fr te f) (r : DJs C fr ts fs) : DJs C fr (te :: ts) (f :: fs)
theorem de_jsAt {ts : List TE} {fs : List FE} (h : DJs C fr ts fs) : ∀ (acc : Str), DE C fr (fun σ H Q => tJs ts acc σ H fun out H1 => Q (.str out) H1) (mJs fs acc) := by
  induction h with
  | nil =>
    intro acc B σ H G ρ bf k d h Q q
    cases h
    exact q _ H G (Ext.refl k.sub) (.str acc)
  | @cons te f ts fs he r ih =>
    intro acc B σ H G ρ bf k d h Q q
    obtain ⟨x, e1, h⟩ := obind h
    refine he B σ H G ρ bf k x e1 _ fun v H1 G1 x1 r1 => ?_
    cases x with
    | str y =>
      have h' : (if okSize (acc ++ y).length then mJs fs (acc ++ y) ρ else none) = some d := h
      cases c : okSize (acc ++ y).length with
      | false =>
        rw [c, if_neg Bool.false_ne_true] at h'
        cases h'
      | true =>
        rw [c, if_pos rfl] at h'
        cases r1
        exact ⟨y, rfl, okSize_le c, ih (acc ++ y) B σ H1 G1 ρ bf (k.ext x1) d h' Q fun v H2 G2 x2 r2 => q v H2 G2 (x1.trans x2) r2⟩
    | _ => cases h
theorem de_js {ts : List TE} {fs : List FE} (h : DJs C fr ts fs) : DE C fr (fun σ H Q => tJs ts Str.empty σ H fun out H1 => Q (.str out) H1) (mJs fs Str.empty) := de_jsAt h Str.empty
def fRaiseE (k : Nat) (f : FE) : FSF := fun ρ => (f ρ).bind fun _ => some (.inl ((k, none), ρ))
theorem dsf_raiseE (n : Nat) {c : Addr} (hc : ex n = .ref c) (he : DE C fr te f) : DSF C fr nm ex W (fun _ σ H => te σ H fun _ H1 => W (.ref c) none σ H1) (fRaiseE n f) := fun B σ H G ρ bf k r h E z => by
  obtain ⟨x, e1, h⟩ := obind h
  cases h
  refine he B σ H G ρ bf k x e1 _ fun v H1 G1 x1 r1 => ?_
  rw [← hc]
  exact z σ H1 G1 none (k.ext x1) x1.grow rfl
/-- return [f, g][k](..), without the places -/
def fRetW (M : List (List D → Option (RX ⊕ D))) (fi : FE) (fs : En → Option (List D)) : FSF := fun ρ => (fi ρ).bind fun e => (unI e).bind fun i => (atI M i).bind fun m => fRetCall m fs ρ
theorem fRetW_eq (F : List (Addr × (List D → Option (RX ⊕ D)))) (fi : FE) (fs : En → Option (List D)) : fRetW (F.map (·.2)) fi fs = fRetV F fi fs := by
  funext ρ
  unfold fRetW fRetV
  cases fi ρ with
  | none => rfl
  | some e =>
    show ((unI e).bind fun i => (atI (F.map (·.2)) i).bind fun m => fRetCall m fs ρ) = (unI e).bind fun i => (atI F i).bind fun m => fRetCall m.2 fs ρ
    cases unI e with
    | none => rfl
    | some i =>
      show ((atI (F.map (·.2)) i).bind fun m => fRetCall m fs ρ) = (atI F i).bind fun m => fRetCall m.2 fs ρ
      unfold atI
      rw [List.length_map]
      cases ixN F.length i with
      | none => rfl
      | some j =>
        show (((F.map (·.2))[j]?).bind fun m => fRetCall m fs ρ) = (F[j]?).bind fun m => fRetCall m.2 fs ρ
        rw [List.getElem?_map]
        cases F[j]? <;> rfl
theorem dsf_retW {ti : TE} (F : List (Addr × (List D → Option (RX ⊕ D)))) {tl : TA} (hl : ∀ (σ : L2.St) (H : Hp) (R : List V → Hp → Prop), R (F.map fun f => V.ref f.1) H → tl σ H R) (hF : F.length ≤ 1000) (hfr : fc = true → fr = true) {fi : FE} (hi : DE C fr ti fi) (ht : DA C fr t fs) :
    DSF C fr nm ex W (tRet (tCallV (OneOf C fc nm ex F) (WE W) (tOp (rIxL K) (tLst tl) ti) t)) (fRetW (F.map (·.2)) fi fs) := by
  rw [fRetW_eq]
  exact dsf_retV hl hF hfr hi ht
/-- a def that may raise -/
theorem fnf_okN {x qual : Str} {st : Stmt} {g : Addr} {fd : FuncData} {N ps : List Str} {k : Nat} (F : Fun K x qual st g fd) (S : FnScope N ps (defScope st)) (np n : Nat) (hn : N.length = n) (hp : ps.length = np)
    (body : ∀ (cdv : Value) (A : Around) (outer : List Env) (s : Shared) (H : Hp) (E : XK), Room k (A.deeper (PyProof.Rows.envOfC qual (defScope st) s.heap.objs.size g cdv)) → ∃ t, PSs (cxOf (L2N.CX P w) P w K mg base N qual (defScope st) g cdv A outer s H E) (defBody st) t ∧ DSF C fr nm ex (fun cls d _ H => E cls d H) t p) :
    FnOk P w K mg base (L2N.CX P w) (k + 1) g fd ps (spDF C fr nm ex (mRunF np n p)) := by
  refine WbN.okN F S (fun vs H Q E h => ?_) fun cdv A outer s H vs Q E hr h => ?_
  · obtain ⟨G, ds, d, _, _, r, hm, _⟩ := h
    unfold mRunF at hm
    split at hm
    · rename_i e
      rw [r.len, e, hp]
    · cases hm
  · obtain ⟨G, ds, d, sb, ex', r, hm, q⟩ := h
    unfold mRunF at hm
    split at hm
    · rename_i e
      obtain ⟨res, h1, h2⟩ := obind hm
      obtain ⟨t, ht, hd⟩ := body cdv A outer s H E hr
      subst hn
      refine ⟨t, ht, hd ⟨H, G, fun _ => False, fr, (0, 0)⟩ _ H G _ id (ok_start (N := N) sb ex' r e) res h1 _ ?_⟩
      cases res with
      | inl p1 =>
        cases h2
        exact fun σ1 H1 G1 d1 k1 s1 e1 => q H1 G1 d1 (ext_of k1.bok) e1
      | inr res =>
        obtain ⟨fl, ρ⟩ := res
        cases fl with
        | nx =>
          cases h2
          exact fun σ1 H1 G1 k1 s1 => q _ H1 G1 (ext_of k1.bok) .non
        | rt d =>
          cases h2
          exact fun v σ1 H1 G1 k1 s1 r1 => q v H1 G1 (ext_of k1.bok) r1
        | bk => cases h2
        | ct => cases h2
    · cases hm
/-- a def that may be asked where things are locked may be asked where nothing is -/
theorem spDF_free {m : List D → Option (RX ⊕ D)} {vs : List V} {H : Hp} {Q : VK} {E : XK} (h : spDF C true nm ex m vs H Q E) : spDF C false nm ex m vs H Q E := by
  obtain ⟨G, ds, r, a, _, b, c, d⟩ := h
  exact ⟨G, ds, r, a, (fun z => nomatch z), b, c, d⟩
theorem fnf_free {k : Nat} {g : Addr} {fd : FuncData} {ps : List Str} {CX : CXT} {m : List D → Option (RX ⊕ D)} (F : FnOk P w K mg base CX k g fd ps (spDF C false nm ex m)) : FnOk P w K mg base CX k g fd ps (spDF C true nm ex m) := F.imp fun _ _ _ _ h => spDF_free h
/-- isinstance(error, X) of an error that has a dict -/
theorem is_condX {i : Nat} {a D W dd : Addr} {fs : List (Str × V)} (ki : PySem.W.kitOne K (.ref D) (.ref W) = some true) : ∀ (σ : L2.St) (H : Hp) (Q : Bool → Hp → Prop), σ[i]? = some (some (.ref a)) → H dd = some (.xd fs) → Q true H → tB (tCB (rIsX K D a (.ref D) (some dd)) (tCons (tVar i) (tCons (tC (.ref W)) tNil))) σ H Q := fun σ H Q hi hd q =>
  ⟨.ref a, hi, .ref W, .ref W, true, dd, fs, rfl, rfl, rfl, (fun _ r => r), ki, hd, true, rfl, q⟩
theorem dse_idxX {i : Nat} (j : Nat) {W0 Cx : Addr} {s : Str} {tx : TE} (ki : PySem.W.kitOne K (.ref Cx) (.ref W0) = some true) : DSE C fr "index" i (.ref Cx)
    (fun a cls d => tAsg (tIf (tB (tCB (rIsX K Cx a cls d) (tCons (tVar i) (tCons (tC (.ref W0)) tNil)))) (tLst (tCons (tC (.str s)) (tCons (tXf a cls d Cx "index" (tVar i)) tNil))) tx) (gName j)) (sErrIdx j s) := fun a B σ H G ρ o d bf k ea hi r h E z => by
  obtain ⟨x, rfl, h⟩ := obind h
  cases h
  obtain ⟨dd, v, rfl, hd, rv⟩ := ea
  refine is_condX ki σ H _ hi hd ?_
  show (if true = true then _ else _)
  rw [if_pos rfl]
  refine ⟨.ref a, hi, rfl, rfl, dd, _, v, rfl, hd, rfl, (by show 2 ≤ sizeLine; decide), fun p hp => ?_⟩
  have x1 : Ext H G (upd H p (.lst [.str s, v])) (upd G p (.lst [.str s, v])) := (Ext.refl k.sub).new hp _
  exact z _ _ _ ((k.ext x1).set j (.lst upd_same (.cons (.str _) (.cons (rv.mono x1.grow) .nil)))) x1.grow
/-- a clause that takes several classes without fields: which one it is is told in the wish -/
def oN (f : FS) : Option D → FS := fun o => match o with
  | none => f
  | some _ => fun _ => none
theorem dse_exC {i : Nat} {n : Str} {D0 : Addr} {ts : Addr → Addr → L2.TS} {f : FS} (hc : ExcC K D0) (h : DSI C fr i (ts D0) f) : DSE C fr n i (.ref D0) (fun a cls d E σ H => ∃ D1, (cls = .ref D1 ∧ d = none ∧ ExcC K D1) ∧ ts D1 a E σ H) (oN f) := fun a B σ H G ρ o d bf k ea hi r hr E z => by
  cases o with
  | none =>
    cases ea
    exact ⟨D0, ⟨rfl, rfl, hc⟩, h a B σ H G ρ bf k hi r hr E z⟩
  | some _ => cases hr
theorem DSE_no {i : Nat} {n : Str} {cls : Value} {ts : Addr → Value → Option Addr → L2.TS} : DSE C fr n i cls ts (fun _ _ => none) := fun a B σ H G ρ o d bf k ea hi r hr E z => nomatch hr
theorem pss_exC {X : Cx} {ss : List Stmt} {P : Addr → Prop} {t : Addr → L2.TS} (h : ∀ D1, P D1 → PSs X ss (t D1)) : PSs X ss (fun E σ H => ∃ D1, P D1 ∧ t D1 E σ H) := ⟨fun pins s σ H E I w => by
  obtain ⟨D1, e, w⟩ := w
  exact (h D1 e).run pins s σ H E I w⟩
end
/-- two classes that are not alike -/
theorem kit_no {K : PySem.W.Frag} {C D : Addr} (hc : PySem.W.isClsIn K D = true) (ht : PySem.W.typeIn K (.ref D) = some (.type "type")) (hs : PySem.W.subIn K (.ref C) (.ref D) = some false) (hC : PySem.W.subIn K (.ref C) (.ref C) = some true) : PySem.W.kitOne K (.ref C) (.ref D) = some false :=
  kit_sub hc ht hs fun e => by
    subst e
    rw [hC] at hs
    cases hs
end Wd
namespace Wb
open PySem PySem.Spec PyProof.Rows L2
/-- how many unlike keys -/
def FewK (ks : List (Addr × List Int)) : Prop := ∃ U : List (List Int), U.length < 63 ∧ ∀ p ∈ ks, p.2 ∈ U
theorem FewK.len {ks L : List (Addr × List Int)} (f : FewK ks) (nd : (L.map (·.2)).Nodup) (sub : ∀ p ∈ L, p ∈ ks) : L.length < 63 := by
  obtain ⟨U, hU, mem⟩ := f
  have := List.Nodup.length_le_of_subset nd (l₂ := U) fun k hk => by
    obtain ⟨p, hp, rfl⟩ := List.mem_map.mp hk
    exact mem p (sub p hp)
  rw [List.length_map] at this
  omega
section
variable {P : Program} {w : World} {A : Around} {E : Value → Shared → Prop} {s : Shared}
/-- what holds while things are added -/
structure AtT (P : Program) (w : World) (h0 h : Heap) (S : Addr) (ks : List (Addr × List Int)) (i : Nat) : Prop where
  keep : ∀ b o, h0.get? b = some o → h.get? b = some o
  set : ∃ L es ep t, SetTR P w h S L es ep t ∧ Got ks i L
end
end Wb
namespace Wb
open PySem PySem.Spec PyProof.Rows L2
end Wb
namespace Wd
open PySem L2 Wb
end Wd
namespace Wd
open PySem L2 Wb
end Wd
namespace Wb
open PySem PySem.Spec PyProof.Rows L2
end Wb
namespace Wd
open PySem L2 Wb
end Wd
namespace Wd
open PySem L2 Wb
section
variable {C : Cl} {fr fc : Bool} {ta : TE} {f : FE} {m : List D → Option D}
/-- len(x), x with a __len__ of its own -/
def gOwnLen (c : Nat) (m : List D → Option D) (d : D) : Option D := match d with
  | .obj c' _ _ => if c' = c then (m [d]).bind fun z => match z with
    | .int i => if decide (0 ≤ i) && decide (i ≤ 1000) then some (.int i) else none
    | _ => none else none
  | _ => none
theorem de_ownLen {c : Nat} (hfr : fc = true → fr = true) (ha : DE C fr ta f) : DE C fr (tCB (rOwnLen (C c) (spD C fc m)) (tCons ta tNil)) (m1 (gOwnLen c m) f) := fun B σ H G ρ bf k d h Q q => by
  obtain ⟨x, e1, h0⟩ := obind h
  refine ha B σ H G ρ bf k x e1 _ fun v H1 G1 x1 r1 => ?_
  unfold gOwnLen at h0
  split at h0
  · split at h0
    · rename_i e
      subst e
      obtain ⟨z, e2, h0⟩ := obind h0
      split at h0
      · rename_i i
        obtain ⟨hi, rfl⟩ := oif h0
        rw [Bool.and_eq_true, decide_eq_true_eq, decide_eq_true_eq] at hi
        have r1' := r1
        cases r1 with
        | obj e rs =>
          refine ⟨_, _, _, rfl, x1.sub.ins e, ?_⟩
          exact sp_use (k.ext x1) bf hfr (.cons r1' .nil) e2 fun v H' G' y r => by
            cases r
            exact ⟨⟨i.toNat, by rw [Int.toNat_of_nonneg hi.1], by omega⟩, q _ H' G' (x1.trans y) (.int _)⟩
      · cases h0
    · cases h0
  · cases h0
end
end Wd
namespace Wd
open PySem L2 Wb
section
variable {α : Type} [DecidableEq α] {e : α → D} {t : Bool} {c : α → List L2.Key}
def ins (F : List α) (x : α) : List α := if x ∈ F then F else F ++ [x]
end
end Wd
namespace Wl
open PySem L2 Wb Wd
def top (i : Nat) : Stmt := PySem.Challenge.pw_wroteback_k13_questions_refused.main.body.getD i (.Pass ⟨0, 0, 0, 0⟩)
abbrev s_BadRow_init : Stmt := inClass (top 3) 0
abbrev n_BadRow_init : List Str := ["self", "index"]
theorem sc_BadRow_init : FnScope n_BadRow_init ["self", "index"] (defScope s_BadRow_init) := ⟨rfl, rfl, rfl, by decide +kernel, rfl, by decide +kernel, by decide +kernel⟩
abbrev s_BadWritten_init : Stmt := inClass (top 4) 0
abbrev n_BadWritten_init : List Str := ["self", "index"]
theorem sc_BadWritten_init : FnScope n_BadWritten_init ["self", "index"] (defScope s_BadWritten_init) := ⟨rfl, rfl, rfl, by decide +kernel, rfl, by decide +kernel, by decide +kernel⟩
abbrev s_is_between : Stmt := top 10
abbrev n_is_between : List Str := ["value", "least", "most"]
theorem sc_is_between : FnScope n_is_between ["value", "least", "most"] (defScope s_is_between) := ⟨rfl, rfl, rfl, by decide +kernel, rfl, by decide +kernel, by decide +kernel⟩
abbrev s_is_tuple_of : Stmt := top 11
abbrev n_is_tuple_of : List Str := ["value", "least", "most"]
theorem sc_is_tuple_of : FnScope n_is_tuple_of ["value", "least", "most"] (defScope s_is_tuple_of) := ⟨rfl, rfl, rfl, by decide +kernel, rfl, by decide +kernel, by decide +kernel⟩
abbrev s_first_outside : Stmt := top 12
abbrev n_first_outside : List Str := ["things", "most", "index", "thing"]
theorem sc_first_outside : FnScope n_first_outside ["things", "most"] (defScope s_first_outside) := ⟨rfl, rfl, rfl, by decide +kernel, rfl, by decide +kernel, by decide +kernel⟩
abbrev s_check_size : Stmt := top 13
abbrev n_check_size : List Str := ["value", "least", "most"]
theorem sc_check_size : FnScope n_check_size ["value", "least", "most"] (defScope s_check_size) := ⟨rfl, rfl, rfl, by decide +kernel, rfl, by decide +kernel, by decide +kernel⟩
abbrev s_Writer_len : Stmt := inClass (top 63) 3
abbrev n_Writer_len : List Str := ["self"]
theorem sc_Writer_len : FnScope n_Writer_len ["self"] (defScope s_Writer_len) := ⟨rfl, rfl, rfl, by decide +kernel, rfl, by decide +kernel, by decide +kernel⟩
abbrev s_check_stand : Stmt := top 14
abbrev n_check_stand : List Str := ["writer", "stand"]
theorem sc_check_stand : FnScope n_check_stand ["writer", "stand"] (defScope s_check_stand) := ⟨rfl, rfl, rfl, by decide +kernel, rfl, by decide +kernel, by decide +kernel⟩
abbrev s_check_written : Stmt := top 15
abbrev n_check_written : List Str := ["written", "index"]
theorem sc_check_written : FnScope n_check_written ["written"] (defScope s_check_written) := ⟨rfl, rfl, rfl, by decide +kernel, rfl, by decide +kernel, by decide +kernel⟩
abbrev s_as_pair : Stmt := top 17
abbrev n_as_pair : List Str := ["one", "other"]
theorem sc_as_pair : FnScope n_as_pair ["one", "other"] (defScope s_as_pair) := ⟨rfl, rfl, rfl, by decide +kernel, rfl, by decide +kernel, by decide +kernel⟩
abbrev s_come_to : Stmt := top 18
abbrev n_come_to : List Str := ["starts", "leads", "found", "left", "thing"]
theorem sc_come_to : FnScope n_come_to ["starts", "leads"] (defScope s_come_to) := ⟨rfl, rfl, rfl, by decide +kernel, rfl, by decide +kernel, by decide +kernel⟩
abbrev s_stands_come_to : Stmt := top 19
abbrev n_stands_come_to : List Str := ["table", "leads", "step", "stand", "row"]
theorem sc_stands_come_to : FnScope n_stands_come_to ["table"] (defScope s_stands_come_to) := ⟨rfl, rfl, rfl, by decide +kernel, rfl, by decide +kernel, by decide +kernel⟩
abbrev s_pairs_behind : Stmt := top 20
abbrev n_pairs_behind : List Str := ["table", "pair", "ones", "others", "one", "other"]
theorem sc_pairs_behind : FnScope n_pairs_behind ["table", "pair"] (defScope s_pairs_behind) := ⟨rfl, rfl, rfl, by decide +kernel, rfl, by decide +kernel, by decide +kernel⟩
abbrev s_first_pairs : Stmt := top 21
abbrev n_first_pairs : List Str := ["table", "found", "stand", "row", "letter", "step", "twin"]
theorem sc_first_pairs : FnScope n_first_pairs ["table"] (defScope s_first_pairs) := ⟨rfl, rfl, rfl, by decide +kernel, rfl, by decide +kernel, by decide +kernel⟩
abbrev s_pair_leads : Stmt := top 22
abbrev n_pair_leads : List Str := ["table", "stands", "pairs", "one", "other", "leads", "pair"]
theorem sc_pair_leads : FnScope n_pair_leads ["table"] (defScope s_pair_leads) := ⟨rfl, rfl, rfl, by decide +kernel, rfl, by decide +kernel, by decide +kernel⟩
abbrev s_rank_pairs : Stmt := top 23
abbrev n_rank_pairs : List Str := ["leads", "found", "left", "rank", "ended", "pair", "behind"]
theorem sc_rank_pairs : FnScope n_rank_pairs ["leads"] (defScope s_rank_pairs) := ⟨rfl, rfl, rfl, by decide +kernel, rfl, by decide +kernel, by decide +kernel⟩
abbrev s_may_read : Stmt := top 28
abbrev n_may_read : List Str := ["how", "one", "other"]
theorem sc_may_read : FnScope n_may_read ["how", "one", "other"] (defScope s_may_read) := ⟨rfl, rfl, rfl, by decide +kernel, rfl, by decide +kernel, by decide +kernel⟩
abbrev s_how_behind : Stmt := top 29
abbrev n_how_behind : List Str := ["how", "one", "other"]
theorem sc_how_behind : FnScope n_how_behind ["how", "one", "other"] (defScope s_how_behind) := ⟨rfl, rfl, rfl, by decide +kernel, rfl, by decide +kernel, by decide +kernel⟩
abbrev s_moves_of : Stmt := top 30
abbrev n_moves_of : List Str := ["table", "state", "left", "right", "how", "moves", "one", "step", "other", "twin"]
theorem sc_moves_of : FnScope n_moves_of ["table", "state"] (defScope s_moves_of) := ⟨rfl, rfl, rfl, by decide +kernel, rfl, by decide +kernel, by decide +kernel⟩
abbrev s_moves_from : Stmt := top 31
abbrev n_moves_from : List Str := ["table", "start", "found", "left", "state", "_", "behind"]
theorem sc_moves_from : FnScope n_moves_from ["table", "start"] (defScope s_moves_from) := ⟨rfl, rfl, rfl, by decide +kernel, rfl, by decide +kernel, by decide +kernel⟩
abbrev s_states_before : Stmt := top 32
abbrev n_states_before : List Str := ["moves", "states", "state", "_", "behind"]
theorem sc_states_before : FnScope n_states_before ["moves", "states"] (defScope s_states_before) := ⟨rfl, rfl, rfl, by decide +kernel, rfl, by decide +kernel, by decide +kernel⟩
abbrev s_least_first : Stmt := top 34
abbrev n_least_first : List Str := ["moves", "start", "levels", "row", "states", "level", "steps", "state", "one", "_", "behind", "least"]
theorem sc_least_first : FnScope n_least_first ["moves", "start", "levels"] (defScope s_least_first) := ⟨rfl, rfl, rfl, by decide +kernel, rfl, by decide +kernel, by decide +kernel⟩
abbrev s_states_before_by : Stmt := top 37
abbrev n_states_before_by : List Str := ["letter", "moves", "states", "found", "state", "one", "_", "behind"]
theorem sc_states_before_by : FnScope n_states_before_by ["letter", "moves", "states"] (defScope s_states_before_by) := ⟨rfl, rfl, rfl, by decide +kernel, rfl, by decide +kernel, by decide +kernel⟩
abbrev s_levels_beside : Stmt := top 36
abbrev n_levels_beside : List Str := ["moves", "first", "ends", "levels", "letter"]
theorem sc_levels_beside : FnScope n_levels_beside ["moves", "first", "ends"] (defScope s_levels_beside) := ⟨rfl, rfl, rfl, by decide +kernel, rfl, by decide +kernel, by decide +kernel⟩
abbrev s_least_second : Stmt := top 35
abbrev n_least_second : List Str := ["moves", "start", "first", "ends", "row", "state", "letter", "level", "steps", "one", "other", "behind", "least"]
theorem sc_least_second : FnScope n_least_second ["moves", "start", "first", "ends"] (defScope s_least_second) := ⟨rfl, rfl, rfl, by decide +kernel, rfl, by decide +kernel, by decide +kernel⟩
abbrev s_least_rows : Stmt := top 33
abbrev n_least_rows : List Str := ["moves", "start", "levels", "first"]
theorem sc_least_rows : FnScope n_least_rows ["moves", "start", "levels"] (defScope s_least_rows) := ⟨rfl, rfl, rfl, by decide +kernel, rfl, by decide +kernel, by decide +kernel⟩
abbrev s_Writer_table : Stmt := inClass (top 63) 1
abbrev n_Writer_table : List Str := ["self"]
theorem sc_Writer_table : FnScope n_Writer_table ["self"] (defScope s_Writer_table) := ⟨rfl, rfl, rfl, by decide +kernel, rfl, by decide +kernel, by decide +kernel⟩
abbrev s_word : Stmt := top 39
abbrev n_word : List Str := ["writer", "leads", "one", "other"]
theorem sc_word : FnScope n_word ["writer"] (defScope s_word) := ⟨rfl, rfl, rfl, by decide +kernel, rfl, by decide +kernel, by decide +kernel⟩
abbrev s_leads_down : Stmt := top 43
abbrev n_leads_down : List Str := ["table", "pair", "told", "behind"]
theorem sc_leads_down : FnScope n_leads_down ["table", "pair", "told"] (defScope s_leads_down) := ⟨rfl, rfl, rfl, by decide +kernel, rfl, by decide +kernel, by decide +kernel⟩
abbrev s_is_ranked_pair : Stmt := top 42
abbrev n_is_ranked_pair : List Str := ["value", "stands", "bound", "one", "other"]
theorem sc_is_ranked_pair : FnScope n_is_ranked_pair ["value", "stands", "bound"] (defScope s_is_ranked_pair) := ⟨rfl, rfl, rfl, by decide +kernel, rfl, by decide +kernel, by decide +kernel⟩
abbrev s_told_ranks : Stmt := top 41
abbrev n_told_ranks : List Str := ["value", "stands", "bound", "told", "thing"]
theorem sc_told_ranks : FnScope n_told_ranks ["value", "stands", "bound"] (defScope s_told_ranks) := ⟨rfl, rfl, rfl, by decide +kernel, rfl, by decide +kernel, by decide +kernel⟩
abbrev s_shows : Stmt := top 40
abbrev n_shows : List Str := ["writer", "bound", "value", "told", "pair"]
theorem sc_shows : FnScope n_shows ["writer", "bound", "value"] (defScope s_shows) := ⟨rfl, rfl, rfl, by decide +kernel, rfl, by decide +kernel, by decide +kernel⟩
abbrev s_alike : Stmt := top 44
abbrev n_alike : List Str := ["writer", "stand", "many", "start", "moves", "levels", "state", "_"]
theorem sc_alike : FnScope n_alike ["writer", "stand", "many"] (defScope s_alike) := ⟨rfl, rfl, rfl, by decide +kernel, rfl, by decide +kernel, by decide +kernel⟩
abbrev s_count_behind : Stmt := top 47
abbrev n_count_behind : List Str := ["table", "counts", "wrote", "found", "stand", "step"]
theorem sc_count_behind : FnScope n_count_behind ["table", "counts", "wrote"] (defScope s_count_behind) := ⟨rfl, rfl, rfl, by decide +kernel, rfl, by decide +kernel, by decide +kernel⟩
abbrev s_count_ends : Stmt := top 46
abbrev n_count_ends : List Str := ["table", "stand", "written", "counts", "wrote"]
theorem sc_count_ends : FnScope n_count_ends ["table", "stand", "written"] (defScope s_count_ends) := ⟨rfl, rfl, rfl, by decide +kernel, rfl, by decide +kernel, by decide +kernel⟩
abbrev s_letters_into : Stmt := top 50
abbrev n_letters_into : List Str := ["row", "wrote", "ends", "letter", "step"]
theorem sc_letters_into : FnScope n_letters_into ["row", "wrote", "ends"] (defScope s_letters_into) := ⟨rfl, rfl, rfl, by decide +kernel, rfl, by decide +kernel, by decide +kernel⟩
abbrev s_levels_to : Stmt := top 49
abbrev n_levels_to : List Str := ["table", "written", "ends", "levels", "wrote", "stand", "row"]
theorem sc_levels_to : FnScope n_levels_to ["table", "written", "ends"] (defScope s_levels_to) := ⟨rfl, rfl, rfl, by decide +kernel, rfl, by decide +kernel, by decide +kernel⟩
abbrev s_choices_along : Stmt := top 48
abbrev n_choices_along : List Str := ["table", "stand", "written", "ends", "levels", "found", "at", "wrote", "level"]
theorem sc_choices_along : FnScope n_choices_along ["table", "stand", "written", "ends"] (defScope s_choices_along) := ⟨rfl, rfl, rfl, by decide +kernel, rfl, by decide +kernel, by decide +kernel⟩
abbrev s_sure_letters : Stmt := top 51
abbrev n_sure_letters : List Str := ["table", "written", "choices", "row", "letters"]
theorem sc_sure_letters : FnScope n_sure_letters ["table", "written"] (defScope s_sure_letters) := ⟨rfl, rfl, rfl, by decide +kernel, rfl, by decide +kernel, by decide +kernel⟩
abbrev s_count_rows : Stmt := top 53
abbrev n_count_rows : List Str := ["writer", "written"]
theorem sc_count_rows : FnScope n_count_rows ["writer", "written"] (defScope s_count_rows) := ⟨rfl, rfl, rfl, by decide +kernel, rfl, by decide +kernel, by decide +kernel⟩
abbrev s_stands_after : Stmt := top 54
abbrev n_stands_after : List Str := ["writer", "written"]
theorem sc_stands_after : FnScope n_stands_after ["writer", "written"] (defScope s_stands_after) := ⟨rfl, rfl, rfl, by decide +kernel, rfl, by decide +kernel, by decide +kernel⟩
abbrev s_sure : Stmt := top 55
abbrev n_sure : List Str := ["writer", "written"]
theorem sc_sure : FnScope n_sure ["writer", "written"] (defScope s_sure) := ⟨rfl, rfl, rfl, by decide +kernel, rfl, by decide +kernel, by decide +kernel⟩
abbrev s_row_to : Stmt := top 56
abbrev n_row_to : List Str := ["writer", "written", "stand", "choices", "letters"]
theorem sc_row_to : FnScope n_row_to ["writer", "written", "stand"] (defScope s_row_to) := ⟨rfl, rfl, rfl, by decide +kernel, rfl, by decide +kernel, by decide +kernel⟩
abbrev s_all_tables : Stmt := top 58
abbrev n_all_tables : List Str := ["stands", "written", "steps", "behind", "wrote", "rows", "one", "other", "tables", "_", "table", "row"]
theorem sc_all_tables : FnScope n_all_tables ["stands", "written"] (defScope s_all_tables) := ⟨rfl, rfl, rfl, by decide +kernel, rfl, by decide +kernel, by decide +kernel⟩
abbrev s_is_step : Stmt := top 64
abbrev n_is_step : List Str := ["value", "stands"]
theorem sc_is_step : FnScope n_is_step ["value", "stands"] (defScope s_is_step) := ⟨rfl, rfl, rfl, by decide +kernel, rfl, by decide +kernel, by decide +kernel⟩
abbrev s_is_table_row : Stmt := top 65
abbrev n_is_table_row : List Str := ["value", "stands", "step"]
theorem sc_is_table_row : FnScope n_is_table_row ["value", "stands"] (defScope s_is_table_row) := ⟨rfl, rfl, rfl, by decide +kernel, rfl, by decide +kernel, by decide +kernel⟩
abbrev s_check_table : Stmt := top 66
abbrev n_check_table : List Str := ["table", "index", "row"]
theorem sc_check_table : FnScope n_check_table ["table"] (defScope s_check_table) := ⟨rfl, rfl, rfl, by decide +kernel, rfl, by decide +kernel, by decide +kernel⟩
abbrev s_Writer_init : Stmt := inClass (top 63) 0
abbrev n_Writer_init : List Str := ["self", "table"]
theorem sc_Writer_init : FnScope n_Writer_init ["self", "table"] (defScope s_Writer_init) := ⟨rfl, rfl, rfl, by decide +kernel, rfl, by decide +kernel, by decide +kernel⟩
abbrev s_Writer_letters : Stmt := inClass (top 63) 2
abbrev n_Writer_letters : List Str := ["self"]
theorem sc_Writer_letters : FnScope n_Writer_letters ["self"] (defScope s_Writer_letters) := ⟨rfl, rfl, rfl, by decide +kernel, rfl, by decide +kernel, by decide +kernel⟩
abbrev s_check_row : Stmt := top 67
abbrev n_check_row : List Str := ["writer", "row", "index"]
theorem sc_check_row : FnScope n_check_row ["writer", "row"] (defScope s_check_row) := ⟨rfl, rfl, rfl, by decide +kernel, rfl, by decide +kernel, by decide +kernel⟩
abbrev s_stands_of : Stmt := top 68
abbrev n_stands_of : List Str := ["writer", "row", "stands", "letter"]
theorem sc_stands_of : FnScope n_stands_of ["writer", "row"] (defScope s_stands_of) := ⟨rfl, rfl, rfl, by decide +kernel, rfl, by decide +kernel, by decide +kernel⟩
abbrev s_write_row : Stmt := top 69
abbrev n_write_row : List Str := ["writer", "row", "stands", "stand", "letter"]
theorem sc_write_row : FnScope n_write_row ["writer", "row"] (defScope s_write_row) := ⟨rfl, rfl, rfl, by decide +kernel, rfl, by decide +kernel, by decide +kernel⟩
abbrev s_census : Stmt := top 71
abbrev n_census : List Str := ["stands", "written", "words", "table"]
theorem sc_census : FnScope n_census ["stands", "written"] (defScope s_census) := ⟨rfl, rfl, rfl, by decide +kernel, rfl, by decide +kernel, by decide +kernel⟩
abbrev s_law_mix : Stmt := top 73
abbrev n_law_mix : List Str := ["_law_script", "_law_seed", "_law_state", "_law_cell"]
theorem sc_law_mix : FnScope n_law_mix ["_law_script", "_law_seed"] (defScope s_law_mix) := ⟨rfl, rfl, rfl, by decide +kernel, rfl, by decide +kernel, by decide +kernel⟩
abbrev s_law_next : Stmt := top 74
abbrev n_law_next : List Str := ["_law_h", "_law_cap", "_law_cell"]
theorem sc_law_next : FnScope n_law_next ["_law_h", "_law_cap"] (defScope s_law_next) := ⟨rfl, rfl, rfl, by decide +kernel, rfl, by decide +kernel, by decide +kernel⟩
abbrev s_law_pick : Stmt := top 75
abbrev n_law_pick : List Str := ["_law_h", "_law_things"]
theorem sc_law_pick : FnScope n_law_pick ["_law_h", "_law_things"] (defScope s_law_pick) := ⟨rfl, rfl, rfl, by decide +kernel, rfl, by decide +kernel, by decide +kernel⟩
abbrev s_law_ask : Stmt := top 76
abbrev n_law_ask : List Str := ["_law_kind", "_law_writer", "_law_some"]
theorem sc_law_ask : FnScope n_law_ask ["_law_kind", "_law_writer", "_law_some"] (defScope s_law_ask) := ⟨rfl, rfl, rfl, by decide +kernel, rfl, by decide +kernel, by decide +kernel⟩
abbrev s_law_error : Stmt := top 77
abbrev n_law_error : List Str := ["_law_kind", "_law_writer", "_law_some", "_law_found", "error", "_law_known", "_law_k"]
theorem sc_law_error : FnScope n_law_error ["_law_kind", "_law_writer", "_law_some"] (defScope s_law_error) := ⟨rfl, rfl, rfl, by decide +kernel, rfl, by decide +kernel, by decide +kernel⟩
abbrev s_law_due : Stmt := top 78
abbrev n_law_due : List Str := ["_law_kind", "_law_good", "_law_wrong", "_law_some", "_law_first", "_law_one"]
theorem sc_law_due : FnScope n_law_due ["_law_kind", "_law_good", "_law_wrong"] (defScope s_law_due) := ⟨rfl, rfl, rfl, by decide +kernel, rfl, by decide +kernel, by decide +kernel⟩
abbrev s_law : Stmt := top 79
abbrev n_law : List Str := ["_law_script", "_law_h", "_law_bad", "_law_odd", "_law_writer", "_law_turn", "_law_kind", "_law_spoilt", "_law_k", "_law_some", "_law_wrong", "_law_chosen", "_law_one"]
theorem sc_law : FnScope n_law ["_law_script"] (defScope s_law) := ⟨rfl, rfl, rfl, by decide +kernel, rfl, by decide +kernel, by decide +kernel⟩
/-- what stands behind the top, as the walk asks for it -/
structure Env (K : PySem.W.Frag) (mg : Str → Option Value) where
  f_BadRow_init : Addr
  d_BadRow_init : FuncData
  F_BadRow_init : Fun K "__init__" "BadRow.__init__" s_BadRow_init f_BadRow_init d_BadRow_init
  b_BadRow_init : Binds K d_BadRow_init ["self", "index"] []
  f_BadWritten_init : Addr
  d_BadWritten_init : FuncData
  F_BadWritten_init : Fun K "__init__" "BadWritten.__init__" s_BadWritten_init f_BadWritten_init d_BadWritten_init
  b_BadWritten_init : Binds K d_BadWritten_init ["self", "index"] []
  f_is_between : Addr
  d_is_between : FuncData
  F_is_between : Fun K "is_between" "is_between" s_is_between f_is_between d_is_between
  b_is_between : Binds K d_is_between ["value", "least", "most"] []
  m_is_between : mg "is_between" = some (.ref f_is_between)
  f_is_tuple_of : Addr
  d_is_tuple_of : FuncData
  F_is_tuple_of : Fun K "is_tuple_of" "is_tuple_of" s_is_tuple_of f_is_tuple_of d_is_tuple_of
  b_is_tuple_of : Binds K d_is_tuple_of ["value", "least", "most"] []
  m_is_tuple_of : mg "is_tuple_of" = some (.ref f_is_tuple_of)
  f_first_outside : Addr
  d_first_outside : FuncData
  F_first_outside : Fun K "first_outside" "first_outside" s_first_outside f_first_outside d_first_outside
  b_first_outside : Binds K d_first_outside ["things", "most"] []
  m_first_outside : mg "first_outside" = some (.ref f_first_outside)
  f_check_size : Addr
  d_check_size : FuncData
  F_check_size : Fun K "check_size" "check_size" s_check_size f_check_size d_check_size
  b_check_size : Binds K d_check_size ["value", "least", "most"] []
  m_check_size : mg "check_size" = some (.ref f_check_size)
  f_Writer_len : Addr
  d_Writer_len : FuncData
  F_Writer_len : Fun K "__len__" "Writer.__len__" s_Writer_len f_Writer_len d_Writer_len
  b_Writer_len : Binds K d_Writer_len ["self"] []
  f_check_stand : Addr
  d_check_stand : FuncData
  F_check_stand : Fun K "check_stand" "check_stand" s_check_stand f_check_stand d_check_stand
  b_check_stand : Binds K d_check_stand ["writer", "stand"] []
  m_check_stand : mg "check_stand" = some (.ref f_check_stand)
  f_check_written : Addr
  d_check_written : FuncData
  F_check_written : Fun K "check_written" "check_written" s_check_written f_check_written d_check_written
  b_check_written : Binds K d_check_written ["written"] []
  m_check_written : mg "check_written" = some (.ref f_check_written)
  f_as_pair : Addr
  d_as_pair : FuncData
  F_as_pair : Fun K "as_pair" "as_pair" s_as_pair f_as_pair d_as_pair
  b_as_pair : Binds K d_as_pair ["one", "other"] []
  m_as_pair : mg "as_pair" = some (.ref f_as_pair)
  f_come_to : Addr
  d_come_to : FuncData
  F_come_to : Fun K "come_to" "come_to" s_come_to f_come_to d_come_to
  b_come_to : Binds K d_come_to ["starts", "leads"] []
  m_come_to : mg "come_to" = some (.ref f_come_to)
  f_stands_come_to : Addr
  d_stands_come_to : FuncData
  F_stands_come_to : Fun K "stands_come_to" "stands_come_to" s_stands_come_to f_stands_come_to d_stands_come_to
  b_stands_come_to : Binds K d_stands_come_to ["table"] []
  m_stands_come_to : mg "stands_come_to" = some (.ref f_stands_come_to)
  f_pairs_behind : Addr
  d_pairs_behind : FuncData
  F_pairs_behind : Fun K "pairs_behind" "pairs_behind" s_pairs_behind f_pairs_behind d_pairs_behind
  b_pairs_behind : Binds K d_pairs_behind ["table", "pair"] []
  m_pairs_behind : mg "pairs_behind" = some (.ref f_pairs_behind)
  f_first_pairs : Addr
  d_first_pairs : FuncData
  F_first_pairs : Fun K "first_pairs" "first_pairs" s_first_pairs f_first_pairs d_first_pairs
  b_first_pairs : Binds K d_first_pairs ["table"] []
  m_first_pairs : mg "first_pairs" = some (.ref f_first_pairs)
  f_pair_leads : Addr
  d_pair_leads : FuncData
  F_pair_leads : Fun K "pair_leads" "pair_leads" s_pair_leads f_pair_leads d_pair_leads
  b_pair_leads : Binds K d_pair_leads ["table"] []
  m_pair_leads : mg "pair_leads" = some (.ref f_pair_leads)
  f_rank_pairs : Addr
  d_rank_pairs : FuncData
  F_rank_pairs : Fun K "rank_pairs" "rank_pairs" s_rank_pairs f_rank_pairs d_rank_pairs
  b_rank_pairs : Binds K d_rank_pairs ["leads"] []
  m_rank_pairs : mg "rank_pairs" = some (.ref f_rank_pairs)
  f_may_read : Addr
  d_may_read : FuncData
  F_may_read : Fun K "_may_read" "_may_read" s_may_read f_may_read d_may_read
  b_may_read : Binds K d_may_read ["how", "one", "other"] []
  m_may_read : mg "_may_read" = some (.ref f_may_read)
  f_how_behind : Addr
  d_how_behind : FuncData
  F_how_behind : Fun K "_how_behind" "_how_behind" s_how_behind f_how_behind d_how_behind
  b_how_behind : Binds K d_how_behind ["how", "one", "other"] []
  m_how_behind : mg "_how_behind" = some (.ref f_how_behind)
  f_moves_of : Addr
  d_moves_of : FuncData
  F_moves_of : Fun K "_moves_of" "_moves_of" s_moves_of f_moves_of d_moves_of
  b_moves_of : Binds K d_moves_of ["table", "state"] []
  m_moves_of : mg "_moves_of" = some (.ref f_moves_of)
  f_moves_from : Addr
  d_moves_from : FuncData
  F_moves_from : Fun K "moves_from" "moves_from" s_moves_from f_moves_from d_moves_from
  b_moves_from : Binds K d_moves_from ["table", "start"] []
  m_moves_from : mg "moves_from" = some (.ref f_moves_from)
  f_states_before : Addr
  d_states_before : FuncData
  F_states_before : Fun K "states_before" "states_before" s_states_before f_states_before d_states_before
  b_states_before : Binds K d_states_before ["moves", "states"] []
  m_states_before : mg "states_before" = some (.ref f_states_before)
  f_least_first : Addr
  d_least_first : FuncData
  F_least_first : Fun K "_least_first" "_least_first" s_least_first f_least_first d_least_first
  b_least_first : Binds K d_least_first ["moves", "start", "levels"] []
  m_least_first : mg "_least_first" = some (.ref f_least_first)
  f_states_before_by : Addr
  d_states_before_by : FuncData
  F_states_before_by : Fun K "_states_before_by" "_states_before_by" s_states_before_by f_states_before_by d_states_before_by
  b_states_before_by : Binds K d_states_before_by ["letter", "moves", "states"] []
  m_states_before_by : mg "_states_before_by" = some (.ref f_states_before_by)
  f_levels_beside : Addr
  d_levels_beside : FuncData
  F_levels_beside : Fun K "_levels_beside" "_levels_beside" s_levels_beside f_levels_beside d_levels_beside
  b_levels_beside : Binds K d_levels_beside ["moves", "first", "ends"] []
  m_levels_beside : mg "_levels_beside" = some (.ref f_levels_beside)
  f_least_second : Addr
  d_least_second : FuncData
  F_least_second : Fun K "_least_second" "_least_second" s_least_second f_least_second d_least_second
  b_least_second : Binds K d_least_second ["moves", "start", "first", "ends"] []
  m_least_second : mg "_least_second" = some (.ref f_least_second)
  f_least_rows : Addr
  d_least_rows : FuncData
  F_least_rows : Fun K "least_rows" "least_rows" s_least_rows f_least_rows d_least_rows
  b_least_rows : Binds K d_least_rows ["moves", "start", "levels"] []
  m_least_rows : mg "least_rows" = some (.ref f_least_rows)
  f_Writer_table : Addr
  d_Writer_table : FuncData
  F_Writer_table : Fun K "table" "Writer.table" s_Writer_table f_Writer_table d_Writer_table
  b_Writer_table : Binds K d_Writer_table ["self"] []
  f_word : Addr
  d_word : FuncData
  F_word : Fun K "word" "word" s_word f_word d_word
  b_word : Binds K d_word ["writer"] []
  m_word : mg "word" = some (.ref f_word)
  f_leads_down : Addr
  d_leads_down : FuncData
  F_leads_down : Fun K "_leads_down" "_leads_down" s_leads_down f_leads_down d_leads_down
  b_leads_down : Binds K d_leads_down ["table", "pair", "told"] []
  m_leads_down : mg "_leads_down" = some (.ref f_leads_down)
  f_is_ranked_pair : Addr
  d_is_ranked_pair : FuncData
  F_is_ranked_pair : Fun K "_is_ranked_pair" "_is_ranked_pair" s_is_ranked_pair f_is_ranked_pair d_is_ranked_pair
  b_is_ranked_pair : Binds K d_is_ranked_pair ["value", "stands", "bound"] []
  m_is_ranked_pair : mg "_is_ranked_pair" = some (.ref f_is_ranked_pair)
  f_told_ranks : Addr
  d_told_ranks : FuncData
  F_told_ranks : Fun K "_told_ranks" "_told_ranks" s_told_ranks f_told_ranks d_told_ranks
  b_told_ranks : Binds K d_told_ranks ["value", "stands", "bound"] []
  m_told_ranks : mg "_told_ranks" = some (.ref f_told_ranks)
  f_shows : Addr
  d_shows : FuncData
  F_shows : Fun K "shows" "shows" s_shows f_shows d_shows
  b_shows : Binds K d_shows ["writer", "bound", "value"] []
  m_shows : mg "shows" = some (.ref f_shows)
  f_alike : Addr
  d_alike : FuncData
  F_alike : Fun K "alike" "alike" s_alike f_alike d_alike
  b_alike : Binds K d_alike ["writer", "stand", "many"] []
  m_alike : mg "alike" = some (.ref f_alike)
  f_count_behind : Addr
  d_count_behind : FuncData
  F_count_behind : Fun K "_count_behind" "_count_behind" s_count_behind f_count_behind d_count_behind
  b_count_behind : Binds K d_count_behind ["table", "counts", "wrote"] []
  m_count_behind : mg "_count_behind" = some (.ref f_count_behind)
  f_count_ends : Addr
  d_count_ends : FuncData
  F_count_ends : Fun K "count_ends" "count_ends" s_count_ends f_count_ends d_count_ends
  b_count_ends : Binds K d_count_ends ["table", "stand", "written"] []
  m_count_ends : mg "count_ends" = some (.ref f_count_ends)
  f_letters_into : Addr
  d_letters_into : FuncData
  F_letters_into : Fun K "_letters_into" "_letters_into" s_letters_into f_letters_into d_letters_into
  b_letters_into : Binds K d_letters_into ["row", "wrote", "ends"] []
  m_letters_into : mg "_letters_into" = some (.ref f_letters_into)
  f_levels_to : Addr
  d_levels_to : FuncData
  F_levels_to : Fun K "_levels_to" "_levels_to" s_levels_to f_levels_to d_levels_to
  b_levels_to : Binds K d_levels_to ["table", "written", "ends"] []
  m_levels_to : mg "_levels_to" = some (.ref f_levels_to)
  f_choices_along : Addr
  d_choices_along : FuncData
  F_choices_along : Fun K "choices_along" "choices_along" s_choices_along f_choices_along d_choices_along
  b_choices_along : Binds K d_choices_along ["table", "stand", "written", "ends"] []
  m_choices_along : mg "choices_along" = some (.ref f_choices_along)
  f_sure_letters : Addr
  d_sure_letters : FuncData
  F_sure_letters : Fun K "sure_letters" "sure_letters" s_sure_letters f_sure_letters d_sure_letters
  b_sure_letters : Binds K d_sure_letters ["table", "written"] []
  m_sure_letters : mg "sure_letters" = some (.ref f_sure_letters)
  f_count_rows : Addr
  d_count_rows : FuncData
  F_count_rows : Fun K "count_rows" "count_rows" s_count_rows f_count_rows d_count_rows
  b_count_rows : Binds K d_count_rows ["writer", "written"] []
  m_count_rows : mg "count_rows" = some (.ref f_count_rows)
  f_stands_after : Addr
  d_stands_after : FuncData
  F_stands_after : Fun K "stands_after" "stands_after" s_stands_after f_stands_after d_stands_after
  b_stands_after : Binds K d_stands_after ["writer", "written"] []
  m_stands_after : mg "stands_after" = some (.ref f_stands_after)
  f_sure : Addr
  d_sure : FuncData
  F_sure : Fun K "sure" "sure" s_sure f_sure d_sure
  b_sure : Binds K d_sure ["writer", "written"] []
  m_sure : mg "sure" = some (.ref f_sure)
  f_row_to : Addr
  d_row_to : FuncData
  F_row_to : Fun K "row_to" "row_to" s_row_to f_row_to d_row_to
  b_row_to : Binds K d_row_to ["writer", "written", "stand"] []
  m_row_to : mg "row_to" = some (.ref f_row_to)
  f_all_tables : Addr
  d_all_tables : FuncData
  F_all_tables : Fun K "all_tables" "all_tables" s_all_tables f_all_tables d_all_tables
  b_all_tables : Binds K d_all_tables ["stands", "written"] []
  m_all_tables : mg "all_tables" = some (.ref f_all_tables)
  f_is_step : Addr
  d_is_step : FuncData
  F_is_step : Fun K "_is_step" "_is_step" s_is_step f_is_step d_is_step
  b_is_step : Binds K d_is_step ["value", "stands"] []
  m_is_step : mg "_is_step" = some (.ref f_is_step)
  f_is_table_row : Addr
  d_is_table_row : FuncData
  F_is_table_row : Fun K "_is_table_row" "_is_table_row" s_is_table_row f_is_table_row d_is_table_row
  b_is_table_row : Binds K d_is_table_row ["value", "stands"] []
  m_is_table_row : mg "_is_table_row" = some (.ref f_is_table_row)
  f_check_table : Addr
  d_check_table : FuncData
  F_check_table : Fun K "_check_table" "_check_table" s_check_table f_check_table d_check_table
  b_check_table : Binds K d_check_table ["table"] []
  m_check_table : mg "_check_table" = some (.ref f_check_table)
  f_Writer_init : Addr
  d_Writer_init : FuncData
  F_Writer_init : Fun K "__init__" "Writer.__init__" s_Writer_init f_Writer_init d_Writer_init
  b_Writer_init : Binds K d_Writer_init ["self", "table"] []
  f_Writer_letters : Addr
  d_Writer_letters : FuncData
  F_Writer_letters : Fun K "letters" "Writer.letters" s_Writer_letters f_Writer_letters d_Writer_letters
  b_Writer_letters : Binds K d_Writer_letters ["self"] []
  f_check_row : Addr
  d_check_row : FuncData
  F_check_row : Fun K "_check_row" "_check_row" s_check_row f_check_row d_check_row
  b_check_row : Binds K d_check_row ["writer", "row"] []
  m_check_row : mg "_check_row" = some (.ref f_check_row)
  f_stands_of : Addr
  d_stands_of : FuncData
  F_stands_of : Fun K "stands_of" "stands_of" s_stands_of f_stands_of d_stands_of
  b_stands_of : Binds K d_stands_of ["writer", "row"] []
  m_stands_of : mg "stands_of" = some (.ref f_stands_of)
  f_write_row : Addr
  d_write_row : FuncData
  F_write_row : Fun K "write_row" "write_row" s_write_row f_write_row d_write_row
  b_write_row : Binds K d_write_row ["writer", "row"] []
  m_write_row : mg "write_row" = some (.ref f_write_row)
  f_census : Addr
  d_census : FuncData
  F_census : Fun K "census" "census" s_census f_census d_census
  b_census : Binds K d_census ["stands", "written"] []
  m_census : mg "census" = some (.ref f_census)
  f_law_mix : Addr
  d_law_mix : FuncData
  F_law_mix : Fun K "_law_mix" "_law_mix" s_law_mix f_law_mix d_law_mix
  b_law_mix : Binds K d_law_mix ["_law_script", "_law_seed"] []
  m_law_mix : mg "_law_mix" = some (.ref f_law_mix)
  f_law_next : Addr
  d_law_next : FuncData
  F_law_next : Fun K "_law_next" "_law_next" s_law_next f_law_next d_law_next
  b_law_next : Binds K d_law_next ["_law_h", "_law_cap"] []
  m_law_next : mg "_law_next" = some (.ref f_law_next)
  f_law_pick : Addr
  d_law_pick : FuncData
  F_law_pick : Fun K "_law_pick" "_law_pick" s_law_pick f_law_pick d_law_pick
  b_law_pick : Binds K d_law_pick ["_law_h", "_law_things"] []
  m_law_pick : mg "_law_pick" = some (.ref f_law_pick)
  f_law_ask : Addr
  d_law_ask : FuncData
  F_law_ask : Fun K "_law_ask" "_law_ask" s_law_ask f_law_ask d_law_ask
  b_law_ask : Binds K d_law_ask ["_law_kind", "_law_writer", "_law_some"] []
  m_law_ask : mg "_law_ask" = some (.ref f_law_ask)
  f_law_error : Addr
  d_law_error : FuncData
  F_law_error : Fun K "_law_error" "_law_error" s_law_error f_law_error d_law_error
  b_law_error : Binds K d_law_error ["_law_kind", "_law_writer", "_law_some"] []
  m_law_error : mg "_law_error" = some (.ref f_law_error)
  f_law_due : Addr
  d_law_due : FuncData
  F_law_due : Fun K "_law_due" "_law_due" s_law_due f_law_due d_law_due
  b_law_due : Binds K d_law_due ["_law_kind", "_law_good", "_law_wrong"] []
  m_law_due : mg "_law_due" = some (.ref f_law_due)
  f_law : Addr
  d_law : FuncData
  F_law : Fun K "law" "law" s_law f_law d_law
  b_law : Binds K d_law ["_law_script"] []
  m_law : mg "law" = some (.ref f_law)
  c_WriterError : Addr
  m_WriterError : mg "WriterError" = some (.ref c_WriterError)
  c_BadStand : Addr
  m_BadStand : mg "BadStand" = some (.ref c_BadStand)
  xq_BadStand : PySem.W.excIn K c_BadStand [.type "ValueError", .type "Exception", .type "BaseException", .type "object"] "ValueError.__new__" = true
  xk_BadStand : PySem.W.keepIn K (.ref c_BadStand) = true
  xs_BadStand : PySem.W.subIn K (.ref c_BadStand) (.type "BaseException") = some true
  xt_BadStand : PySem.W.typeIn K (.ref c_BadStand) = some (.type "type")
  xe_BadStand : ExcC K c_BadStand
  c_BadSize : Addr
  m_BadSize : mg "BadSize" = some (.ref c_BadSize)
  xq_BadSize : PySem.W.excIn K c_BadSize [.type "ValueError", .type "Exception", .type "BaseException", .type "object"] "ValueError.__new__" = true
  xk_BadSize : PySem.W.keepIn K (.ref c_BadSize) = true
  xs_BadSize : PySem.W.subIn K (.ref c_BadSize) (.type "BaseException") = some true
  xt_BadSize : PySem.W.typeIn K (.ref c_BadSize) = some (.type "type")
  xe_BadSize : ExcC K c_BadSize
  c_BadRow : Addr
  m_BadRow : mg "BadRow" = some (.ref c_BadRow)
  ox_BadRow : OexC K c_BadRow
  ini_BadRow : PySem.W.findIn K (.ref c_BadRow) "__init__" = some (some (.ref f_BadRow_init))
  tyi_BadRow : PySem.W.typeIn K (.ref f_BadRow_init) = some (.type "function")
  xf_BadRow : XfC K c_BadRow
  ex_BadRow : ExcC K c_BadRow
  ki_BadRow_WriterError : PySem.W.kitOne K (.ref c_BadRow) (.ref c_WriterError) = some true
  no_BadRow_index : PySem.W.findIn K (.ref c_BadRow) "index" = some none
  c_BadWritten : Addr
  m_BadWritten : mg "BadWritten" = some (.ref c_BadWritten)
  ox_BadWritten : OexC K c_BadWritten
  ini_BadWritten : PySem.W.findIn K (.ref c_BadWritten) "__init__" = some (some (.ref f_BadWritten_init))
  tyi_BadWritten : PySem.W.typeIn K (.ref f_BadWritten_init) = some (.type "function")
  xf_BadWritten : XfC K c_BadWritten
  ex_BadWritten : ExcC K c_BadWritten
  ki_BadWritten_WriterError : PySem.W.kitOne K (.ref c_BadWritten) (.ref c_WriterError) = some true
  no_BadWritten_index : PySem.W.findIn K (.ref c_BadWritten) "index" = some none
  c_Writer : Addr
  m_Writer : mg "Writer" = some (.ref c_Writer)
  cl_Writer : Cls K c_Writer
  mk_Writer : Mk K c_Writer f_Writer_init
  at_Writer_len : PySem.W.findIn K (.ref c_Writer) "__len__" = some (some (.ref f_Writer_len))
  fn_Writer_len : PySem.W.isFn K (.ref f_Writer_len) = true
  no_Writer_table : NoAttr K c_Writer "_table"
  p_Writer_table : Addr
  pr_Writer_table : PropOf K c_Writer "table" p_Writer_table f_Writer_table
  p_Writer_letters : Addr
  pr_Writer_letters : PropOf K c_Writer "letters" p_Writer_letters f_Writer_letters
  ey_BadRow_BadRow : PySem.W.exmOne K (.ref c_BadRow) (.ref c_BadRow) = some true
  ey_BadRow_BadWritten : PySem.W.exmOne K (.ref c_BadRow) (.ref c_BadWritten) = some false
  ey_BadRow_WriterError : PySem.W.exmOne K (.ref c_BadRow) (.ref c_WriterError) = some true
  ky_BadRow_WriterError : PySem.W.kitOne K (.ref c_BadRow) (.ref c_WriterError) = some true
  ky_BadRow_BadStand : PySem.W.kitOne K (.ref c_BadRow) (.ref c_BadStand) = some false
  ky_BadRow_BadSize : PySem.W.kitOne K (.ref c_BadRow) (.ref c_BadSize) = some false
  ey_BadWritten_BadRow : PySem.W.exmOne K (.ref c_BadWritten) (.ref c_BadRow) = some false
  ey_BadWritten_BadWritten : PySem.W.exmOne K (.ref c_BadWritten) (.ref c_BadWritten) = some true
  ey_BadWritten_WriterError : PySem.W.exmOne K (.ref c_BadWritten) (.ref c_WriterError) = some true
  ky_BadWritten_WriterError : PySem.W.kitOne K (.ref c_BadWritten) (.ref c_WriterError) = some true
  ky_BadWritten_BadStand : PySem.W.kitOne K (.ref c_BadWritten) (.ref c_BadStand) = some false
  ky_BadWritten_BadSize : PySem.W.kitOne K (.ref c_BadWritten) (.ref c_BadSize) = some false
  ey_BadStand_BadRow : PySem.W.exmOne K (.ref c_BadStand) (.ref c_BadRow) = some false
  ey_BadStand_BadWritten : PySem.W.exmOne K (.ref c_BadStand) (.ref c_BadWritten) = some false
  ey_BadStand_WriterError : PySem.W.exmOne K (.ref c_BadStand) (.ref c_WriterError) = some true
  ky_BadStand_WriterError : PySem.W.kitOne K (.ref c_BadStand) (.ref c_WriterError) = some true
  ky_BadStand_BadStand : PySem.W.kitOne K (.ref c_BadStand) (.ref c_BadStand) = some true
  ky_BadStand_BadSize : PySem.W.kitOne K (.ref c_BadStand) (.ref c_BadSize) = some false
  ey_BadSize_BadRow : PySem.W.exmOne K (.ref c_BadSize) (.ref c_BadRow) = some false
  ey_BadSize_BadWritten : PySem.W.exmOne K (.ref c_BadSize) (.ref c_BadWritten) = some false
  ey_BadSize_WriterError : PySem.W.exmOne K (.ref c_BadSize) (.ref c_WriterError) = some true
  ky_BadSize_WriterError : PySem.W.kitOne K (.ref c_BadSize) (.ref c_WriterError) = some true
  ky_BadSize_BadStand : PySem.W.kitOne K (.ref c_BadSize) (.ref c_BadStand) = some false
  ky_BadSize_BadSize : PySem.W.kitOne K (.ref c_BadSize) (.ref c_BadSize) = some true
  t_GREATEST_WRITTEN : Tok
  m_GREATEST_WRITTEN : mg "GREATEST_WRITTEN" = some (.int 3 t_GREATEST_WRITTEN)
  t_LONGEST : Tok
  m_LONGEST : mg "LONGEST" = some (.int 60 t_LONGEST)
  t_APART : Tok
  m_APART : mg "APART" = some (.int 2 t_APART)
  t_TOGETHER : Tok
  m_TOGETHER : mg "TOGETHER" = some (.int 1 t_TOGETHER)
  t_PARTING : Tok
  m_PARTING : mg "PARTING" = some (.int 0 t_PARTING)
  t_LEAST_LETTERS : Tok
  m_LEAST_LETTERS : mg "LEAST_LETTERS" = some (.int 2 t_LEAST_LETTERS)
  t_MOST_LETTERS : Tok
  m_MOST_LETTERS : mg "MOST_LETTERS" = some (.int 3 t_MOST_LETTERS)
  t_MOST_STANDS : Tok
  m_MOST_STANDS : mg "MOST_STANDS" = some (.int 6 t_MOST_STANDS)
  z_bool : mg "bool" = none
  z_int : mg "int" = none
  z_isinstance : mg "isinstance" = none
  z_len : mg "len" = none
  z_tuple : mg "tuple" = none
  z_enumerate : mg "enumerate" = none
  z_max : mg "max" = none
  z_min : mg "min" = none
  z_list : mg "list" = none
  z_sorted : mg "sorted" = none
  z_range : mg "range" = none
  z_all : mg "all" = none
  z_any : mg "any" = none
  z_reversed : mg "reversed" = none
  z_zip : mg "zip" = none
  z_sum : mg "sum" = none
/-- where the classes stand -/
def cls {K : PySem.W.Frag} {mg : Str → Option Value} (T : Env K mg) : Cl where
  cl := fun
  | 6 => T.c_Writer
  | _ => 0
/-- what is raised, by its number -/
def exV {K : PySem.W.Frag} {mg : Str → Option Value} (T : Env K mg) : Nat → Value := fun
  | 0 => .ref T.c_BadRow
  | 1 => .ref T.c_BadWritten
  | 2 => .ref T.c_BadStand
  | _ => .ref T.c_BadSize
end Wl
namespace Wl
open PySem L2 Wb Wd
section
variable {P : Program} {w : World} {K : PySem.W.Frag} {mg : Str → Option Value} {base : Heap}
theorem ok_BadRow_init (T : Env K mg) : FnOk P w K mg base CX0 1 T.f_BadRow_init T.d_BadRow_init ["self", "index"] (spBad T.c_BadRow) := by
  refine T.F_BadRow_init.ok sc_BadRow_init (fun vs H Q E h => ?_) (fun cdv A outer s H vs Q E hr h => ?_)
  · (obtain ⟨a, v, rfl, _⟩ := h; rfl)
  obtain ⟨a, v, rfl, ha, q⟩ := h
  refine ⟨_, (pss_one (ps_ost (pv 0) (pv 1))), ?_⟩
  exact ⟨_, rfl, _, rfl, a, T.c_BadRow, rfl, T.ox_BadRow, T.no_BadRow_index, .inl ⟨ha, fun dx nd ne => q dx nd ne⟩⟩
end
end Wl
namespace Wl
open PySem L2 Wb Wd
section
variable {P : Program} {w : World} {K : PySem.W.Frag} {mg : Str → Option Value} {base : Heap}
theorem ok_BadWritten_init (T : Env K mg) : FnOk P w K mg base CX0 1 T.f_BadWritten_init T.d_BadWritten_init ["self", "index"] (spBad T.c_BadWritten) := by
  refine T.F_BadWritten_init.ok sc_BadWritten_init (fun vs H Q E h => ?_) (fun cdv A outer s H vs Q E hr h => ?_)
  · (obtain ⟨a, v, rfl, _⟩ := h; rfl)
  obtain ⟨a, v, rfl, ha, q⟩ := h
  refine ⟨_, (pss_one (ps_ost (pv 0) (pv 1))), ?_⟩
  exact ⟨_, rfl, _, rfl, a, T.c_BadWritten, rfl, T.ox_BadWritten, T.no_BadWritten_index, .inl ⟨ha, fun dx nd ne => q dx nd ne⟩⟩
end
end Wl
namespace Wl
open PySem L2 Wb Wd
section
variable {P : Program} {w : World} {K : PySem.W.Frag} {mg : Str → Option Value} {base : Heap}
def p_is_between : FS := (sRet (mAndV (mIsi "int" (mVar 0)) (mAndV (mNotV (mIsi "bool" (mVar 0))) (mChain gLe gLe (mVar 1) (mVar 0) (mVar 2)))))
def m_is_between : List D → Option D := mRun 3 3 p_is_between
theorem ok_is_between (T : Env K mg) : FnOk P w K mg base CX0 1 T.f_is_between T.d_is_between ["value", "least", "most"] (spD (cls T) false m_is_between) := fn_ok T.F_is_between sc_is_between 3 3 rfl rfl fun cdv A outer s H E hr => by
  refine ⟨_, (pss_one (ps_ret (pe_and (pe_callB (r := rIsi K) call_isi (by rfl) T.z_isinstance (by decide +kernel) (pa_cons (pv 0) (pa_cons (pe_bltn (v := .ty "int") (u := .type "int") (by rfl) T.z_int (by decide +kernel) rfl) pa_nil))) (pe_and (pe_not (pe_callB (r := rIsi K) call_isi (by rfl) T.z_isinstance (by decide +kernel) (pa_cons (pv 0) (pa_cons (pe_bltn (v := .ty "bool") (u := .type "bool") (by rfl) T.z_bool (by decide +kernel) rfl) pa_nil)))) (pe_one (pe_chain op_le op_le (pv 1) (pv 0) (pv 2))))))), ?_⟩
  unfold p_is_between
  exact (ds_ret (de_andV (de_isi (by simp) (de_var 0)) (de_andV (de_notV (de_isi (by simp) (de_var 0))) (de_chain rd_le rd_le (de_var 1) (de_var 0) (de_var 2)))))
end
end Wl
namespace Wl
open PySem L2 Wb Wd
section
variable {P : Program} {w : World} {K : PySem.W.Frag} {mg : Str → Option Value} {base : Heap}
def p_is_tuple_of : FS := (sRet (mAndV (mIsi "tuple" (mVar 0)) (mChain gLe gLe (mVar 1) (mS gLen (mCons (mVar 0) mNil)) (mVar 2))))
def m_is_tuple_of : List D → Option D := mRun 3 3 p_is_tuple_of
theorem ok_is_tuple_of (T : Env K mg) : FnOk P w K mg base CX0 1 T.f_is_tuple_of T.d_is_tuple_of ["value", "least", "most"] (spD (cls T) false m_is_tuple_of) := fn_ok T.F_is_tuple_of sc_is_tuple_of 3 3 rfl rfl fun cdv A outer s H E hr => by
  refine ⟨_, (pss_one (ps_ret (pe_and (pe_callB (r := rIsi K) call_isi (by rfl) T.z_isinstance (by decide +kernel) (pa_cons (pv 0) (pa_cons (pe_bltn (v := .ty "tuple") (u := .type "tuple") (by rfl) T.z_tuple (by decide +kernel) rfl) pa_nil))) (pe_one (pe_chain op_le op_le (pv 1) (pe_callB (r := rLenS K) call_lenS (by rfl) T.z_len (by decide +kernel) (pa_cons (pv 0) pa_nil)) (pv 2)))))), ?_⟩
  unfold p_is_tuple_of
  exact (ds_ret (de_andV (de_isi (by simp) (de_var 0)) (de_chain rd_le rd_le (de_var 1) (de_cb rd_len (da_cons (de_var 0) da_nil)) (de_var 2))))
end
end Wl
namespace Wl
open PySem L2 Wb Wd
section
variable {P : Program} {w : World} {K : PySem.W.Frag} {mg : Str → Option Value} {base : Heap}
def p_first_outside : FS := (sSeq (sFor (mEnumT (mCons (mVar 0) mNil)) (bTup 2 (bCons (bName 2) (bCons (bName 3) bNil))) (sIf (mNot (mB (mS m_is_between (mCons (mVar 3) (mCons (mC (.int 0)) (mCons (mVar 1) mNil)))))) (sRet (mVar 2)) sNx))
    (sRet (mC .non)))
def m_first_outside : List D → Option D := mRun 2 4 p_first_outside
theorem ok_first_outside (T : Env K mg) : FnOk P w K mg base CX0 2 T.f_first_outside T.d_first_outside ["things", "most"] (spD (cls T) false m_first_outside) := fn_ok T.F_first_outside sc_first_outside 2 4 rfl rfl fun cdv A outer s H E hr => by
  refine ⟨_, (pss_cons (ps_for PassesOwn.never rfl (pi_enumT (by rfl) T.z_enumerate (pa_cons (pv 0) pa_nil)) (pg_tup rfl (pgs_cons (pg_name (i := 2) sc_first_outside.nd rfl (Or.inl rfl)) (pgs_cons (pg_name (i := 3) sc_first_outside.nd rfl (Or.inl rfl)) pgs_nil)))
      (pss_one (ps_if (pt_not (pt_val (pe_call (ok_is_between T) (hr.mono (by decide)) rfl T.m_is_between T.F_is_between.kp T.b_is_between .nil pass0 (pa_cons (pv 3) (pa_cons pe_int (pa_cons (pv 1) pa_nil))))))
        (pss_one (ps_ret (pv 2)))
        pss_nil)))
    (pss_one (ps_ret pe_non))), ?_⟩
  unfold p_first_outside
  exact (ds_seq (ds_for (vs := [2, 3]) (di_enumT (da_cons (de_var 0) da_nil)) (dg_tup (dgs_cons (dg_name 2 (by decide)) (dgs_cons (dg_name 3 (by decide)) dgs_nil))) (ds_if (dt_not (dt_B (de_call (by decide) (da_cons (de_var 3) (da_cons (de_int 0) (da_cons (de_var 1) da_nil)))))) (ds_ret (de_var 2)) ds_nil)) (ds_ret de_non))
end
end Wl
namespace Wl
open PySem L2 Wb Wd
section
variable {P : Program} {w : World} {K : PySem.W.Frag} {mg : Str → Option Value} {base : Heap}
def p_check_size : FSF := (fIf (mNot (mB (mS m_is_between (mCons (mVar 0) (mCons (mVar 1) (mCons (mVar 2) mNil)))))) (fRaiseE 3 (mJs ((mC (.str "no integer from ")) :: ((mFmt (mVar 1)) :: ((mC (.str " to ")) :: ((mFmt (mVar 2)) :: [])))) Str.empty)) (fL sNx))
def m_check_size : List D → Option (RX ⊕ D) := mRunF 3 3 p_check_size
theorem ok_check_size (T : Env K mg) : FnOk P w K mg base (L2N.CX P w) 2 T.f_check_size T.d_check_size ["value", "least", "most"] (spDF (cls T) false "index" (exV T) m_check_size) := fnf_okN T.F_check_size sc_check_size 3 3 rfl rfl fun cdv A outer s H E hr => by
  refine ⟨_, (pss_one (ps_if (pt_not (pt_val (pe_call (ok_is_between T) (hr.mono (by decide)) rfl T.m_is_between T.F_is_between.kp T.b_is_between .nil pass0 (pa_cons (pv 0) (pa_cons (pv 1) (pa_cons (pv 2) pa_nil))))))
      (pss_one (L2N.ps_raise rfl (L2N.takes_of rfl rfl rfl rfl) (WbN.mk1 PySem.F.excBase_ValueError T.xq_BadSize T.m_BadSize T.xk_BadSize (raises_own T.xs_BadSize T.xt_BadSize) rfl (pe_joined (.cons pe_str (.cons (pe_fmt (pv 1)) (.cons pe_str (.cons (pe_fmt (pv 2)) .nil))))))))
      pss_nil)), ?_⟩
  unfold p_check_size
  exact (dsf_if (dt_not (dt_B (de_call (by decide) (da_cons (de_var 0) (da_cons (de_var 1) (da_cons (de_var 2) da_nil)))))) (dsf_raiseE (ex := exV T) (c := T.c_BadSize) 3 rfl (de_js (.cons (de_str "no integer from ") (.cons (de_fmt (de_var 1)) (.cons (de_str " to ") (.cons (de_fmt (de_var 2)) .nil)))))) (dsf_l ds_nil))
end
end Wl
namespace Wl
open PySem L2 Wb Wd
section
variable {P : Program} {w : World} {K : PySem.W.Frag} {mg : Str → Option Value} {base : Heap}
def p_Writer_len : FS := (sRet (mS gLen (mCons (m1 (gFld 6 "_table") (mVar 0)) mNil)))
def m_Writer_len : List D → Option D := mRun 1 1 p_Writer_len
theorem ok_Writer_len (T : Env K mg) : FnOk P w K mg base CX0 1 T.f_Writer_len T.d_Writer_len ["self"] (spD (cls T) false m_Writer_len) := fn_ok T.F_Writer_len sc_Writer_len 1 1 rfl rfl fun cdv A outer s H E hr => by
  refine ⟨_, (pss_one (ps_ret (pe_callB (r := rLenS K) call_lenS (by rfl) T.z_len (by decide +kernel) (pa_cons (pe_fld (pv 0) rfl) pa_nil)))), ?_⟩
  unfold p_Writer_len
  exact (ds_ret (de_cb rd_len (da_cons (de_fld (c := 6) T.cl_Writer T.no_Writer_table (de_var 0)) da_nil)))
end
end Wl
namespace Wl
open PySem L2 Wb Wd
section
variable {P : Program} {w : World} {K : PySem.W.Frag} {mg : Str → Option Value} {base : Heap}
def p_check_stand : FSF := (fIf (mNot (mB (mS m_is_between (mCons (mVar 1) (mCons (mC (.int 0)) (mCons (m2 gSub (m1 (gOwnLen 6 m_Writer_len) (mVar 0)) (mC (.int 1))) mNil)))))) (fRaise 2) (fL sNx))
def m_check_stand : List D → Option (RX ⊕ D) := mRunF 2 2 p_check_stand
theorem ok_check_stand (T : Env K mg) : FnOk P w K mg base (L2N.CX P w) 3 T.f_check_stand T.d_check_stand ["writer", "stand"] (spDF (cls T) false "index" (exV T) m_check_stand) := fnf_okN T.F_check_stand sc_check_stand 2 2 rfl rfl fun cdv A outer s H E hr => by
  refine ⟨_, (pss_one (ps_if (pt_not (pt_val (pe_call (ok_is_between T) (hr.mono (by decide)) rfl T.m_is_between T.F_is_between.kp T.b_is_between .nil pass0 (pa_cons (pv 1) (pa_cons pe_int (pa_cons (pe_op op_sub (pe_callB (call_ownLen (ok_Writer_len T) (hr.mono (by decide)) T.at_Writer_len T.fn_Writer_len T.b_Writer_len) (by rfl) T.z_len (by decide +kernel) (pa_cons (pv 0) pa_nil)) pe_int) pa_nil))))))
      (pss_one (L2N.ps_raise rfl (L2N.takes_of rfl rfl rfl rfl) (L2N.pmk_own PySem.F.excBase_ValueError T.xq_BadStand T.m_BadStand T.xk_BadStand (raises_own T.xs_BadStand T.xt_BadStand) rfl)))
      pss_nil)), ?_⟩
  unfold p_check_stand
  exact (dsf_if (dt_not (dt_B (de_call (by decide) (da_cons (de_var 1) (da_cons (de_int 0) (da_cons (de_op rd_sub (de_ownLen (c := 6) (by decide) (de_var 0)) (de_int 1)) da_nil)))))) (dsf_raise 2) (dsf_l ds_nil))
end
end Wl
namespace Wl
open PySem L2 Wb Wd
section
variable {P : Program} {w : World} {K : PySem.W.Frag} {mg : Str → Option Value} {base : Heap}
def p_check_written : FSF := (fSeq (fIf (mNot (mB (mS m_is_tuple_of (mCons (mVar 0) (mCons (mC (.int 0)) (mCons (mC (.int 60)) mNil)))))) (fRaiseV 1 (mC .non)) (fL sNx))
    (fSeq (fL (sSet 1 (mS m_first_outside (mCons (mVar 0) (mCons (mC (.int 3)) mNil)))))
    (fIf (mB (m2 (gIsN true) (mVar 1) (mC .non))) (fRaiseV 1 (mVar 1)) (fL sNx))))
def m_check_written : List D → Option (RX ⊕ D) := mRunF 1 2 p_check_written
theorem ok_check_written (T : Env K mg) : FnOk P w K mg base (L2N.CX P w) 3 T.f_check_written T.d_check_written ["written"] (spDF (cls T) false "index" (exV T) m_check_written) := fnf_okN T.F_check_written sc_check_written 1 2 rfl rfl fun cdv A outer s H E hr => by
  refine ⟨_, (pss_cons (ps_if (pt_not (pt_val (pe_call (ok_is_tuple_of T) (hr.mono (by decide)) rfl T.m_is_tuple_of T.F_is_tuple_of.kp T.b_is_tuple_of .nil pass0 (pa_cons (pv 0) (pa_cons pe_int (pa_cons (pe_glob (v := .int 60) rfl T.m_LONGEST ⟨_, rfl⟩) pa_nil))))))
      (pss_one (L2N.ps_raise rfl (L2N.takes_of rfl rfl rfl rfl) (WbN.mkO T.ox_BadWritten T.ini_BadWritten T.tyi_BadWritten (ok_BadWritten_init T) (hr.mono (by decide)) T.b_BadWritten_init pass0 rfl T.m_BadWritten (pa_cons pe_non pa_nil))))
      pss_nil)
    (pss_cons (ps_set (i := 1) sc_check_written.nd rfl (Or.inl rfl) (pe_call (ok_first_outside T) (hr.mono (by decide)) rfl T.m_first_outside T.F_first_outside.kp T.b_first_outside .nil pass0 (pa_cons (pv 0) (pa_cons (pe_glob (v := .int 3) rfl T.m_GREATEST_WRITTEN ⟨_, rfl⟩) pa_nil))))
    (pss_one (ps_if (pt_cmpR op_notN (pv 1) pe_non (nomark _))
      (pss_one (L2N.ps_raise rfl (L2N.takes_of rfl rfl rfl rfl) (WbN.mkO T.ox_BadWritten T.ini_BadWritten T.tyi_BadWritten (ok_BadWritten_init T) (hr.mono (by decide)) T.b_BadWritten_init pass0 rfl T.m_BadWritten (pa_cons (pv 1) pa_nil))))
      pss_nil)))), ?_⟩
  unfold p_check_written
  exact (dsf_seq (dsf_if (dt_not (dt_B (de_call (by decide) (da_cons (de_var 0) (da_cons (de_int 0) (da_cons (de_int 60) da_nil)))))) (dsf_raiseV (ex := exV T) (c := T.c_BadWritten) 1 rfl de_non) (dsf_l ds_nil)) (dsf_seq (dsf_l (ds_set 1 (de_call (by decide) (da_cons (de_var 0) (da_cons (de_int 3) da_nil))))) (dsf_if (dt_test (de_op rd_notN (de_var 1) de_non)) (dsf_raiseV (ex := exV T) (c := T.c_BadWritten) 1 rfl (de_var 1)) (dsf_l ds_nil))))
end
end Wl
namespace Wl
open PySem L2 Wb Wd
section
variable {P : Program} {w : World} {K : PySem.W.Frag} {mg : Str → Option Value} {base : Heap}
def p_as_pair : FS := (sRet (mTup (mCons (mS gMin2 (mCons (mVar 0) (mCons (mVar 1) mNil))) (mCons (mS gMax2 (mCons (mVar 0) (mCons (mVar 1) mNil))) mNil))))
def m_as_pair : List D → Option D := mRun 2 2 p_as_pair
theorem ok_as_pair (T : Env K mg) : FnOk P w K mg base CX0 1 T.f_as_pair T.d_as_pair ["one", "other"] (spD (cls T) false m_as_pair) := fn_ok T.F_as_pair sc_as_pair 2 2 rfl rfl fun cdv A outer s H E hr => by
  refine ⟨_, (pss_one (ps_ret (pe_tup (pa_cons (pe_callB (call_min2 rfl) (by rfl) T.z_min (by decide +kernel) (pa_cons (pv 0) (pa_cons (pv 1) pa_nil))) (pa_cons (pe_callB (call_max2 rfl) (by rfl) T.z_max (by decide +kernel) (pa_cons (pv 0) (pa_cons (pv 1) pa_nil))) pa_nil))))), ?_⟩
  unfold p_as_pair
  exact (ds_ret (de_tup (da_cons (de_cb rd_min2 (da_cons (de_var 0) (da_cons (de_var 1) da_nil))) (da_cons (de_cb rd_max2 (da_cons (de_var 0) (da_cons (de_var 1) da_nil))) da_nil))))
end
end Wl
namespace Wl
open PySem L2 Wb Wd
section
variable {P : Program} {w : World} {K : PySem.W.Frag} {mg : Str → Option Value} {base : Heap}
def p_come_toK : FS := (sSeq (sOwn 2 (mC (.dic false [] [])))
    (sSeq (sOwn 3 (mS gList (mCons (mVar 0) mNil)))
    (sSeq (whileD (mThaw (mTru (mVar 3))) (sSeq (sPop 3 4)
    (sIf (mThaw (mB (m2 (gDIn true) (mVar 4) (mVar 2)))) (sSeq (sPut 2 (mVar 4) (mC (.bl true)))
    (sExt 3 (m2 gGet (mVar 1) (mVar 4)))) sNx)) 5000)
    (sRet (mS gSortDI (mCons (mVar 2) mNil))))))
def m_come_toK : List D → Option D := mRun 2 5 p_come_toK
theorem ok_come_toK (T : Env K mg) : FnOk P w K mg base CX0 1 T.f_come_to T.d_come_to ["starts", "leads"] (spD (cls T) false m_come_toK) := fn_ok T.F_come_to sc_come_to 2 5 rfl rfl fun cdv A outer s H E hr => by
  refine ⟨_, (pss_cons (ps_set (i := 2) sc_come_to.nd rfl (Or.inl rfl) pe_dnewK)
    (pss_cons (ps_set (i := 3) sc_come_to.nd rfl (Or.inl rfl) (pe_callTy (r := rListOf K) call_listS (by rfl) T.z_list (by decide +kernel) (pa_cons (pv 0) pa_nil)))
    (pss_cons (ps_while PassesOwn.never (pt_truth (pv 3) (by intro _; rfl))
      (pss_cons (ps_set (i := 4) sc_come_to.nd rfl (Or.inl rfl) (pe_bm0 PySem.F.plainAttrs_list PySem.F.slot_list_pop PySem.F.type_list_pop mt_pop (pv 3)))
      (pss_one (ps_if (pt_cmp (pc_dnotin (un1 hr) (pv 4) (pv 2)) (by rfl))
        (pss_cons (ps_dput (un1 hr) (pv 2) (pv 4) pe_bl (by rfl))
        (pss_one (ps_expr (pe_bm PySem.F.plainAttrs_list PySem.F.slot_list_extend PySem.F.type_list_extend mt_extend (pv 3) (pa_cons (pe_dget (un1 hr) (pv 1) (pv 4) (fun _ _ => rfl)) pa_nil)))))
        pss_nil))))
    (pss_one (ps_ret (pe_callB (call_sortedDI rfl) (by rfl) T.z_sorted (by decide +kernel) (pa_cons (pv 2) pa_nil))))))), ?_⟩
  unfold p_come_toK
  exact (ds_seq (ds_own 2 df_dK) (ds_seq (ds_own 3 (df_list (da_cons (de_var 0) da_nil))) (ds_seq (ds_while 5000 (dt_thaw (dt_tru (de_var 3))) (ds_seq (ds_pop 3 4) (ds_if (dt_thaw (dt_B (de_dnotin (de_var 4) (de_var 2)))) (ds_seq (ds_put 2 (de_var 4) (de_bl true)) (ds_ext 3 (de_dget (de_var 1) (de_var 4)))) ds_nil))) (ds_ret (de_cb rd_sortDI (da_cons (de_var 2) da_nil))))))
def p_come_to : FS := (sSeq (sOwn 2 (mC (.dic true [] [])))
    (sSeq (sOwn 3 (mS gList (mCons (mVar 0) mNil)))
    (sSeq (whileD (mThaw (mTru (mVar 3))) (sSeq (sPop 3 4)
    (sIf (mThaw (mB (m2 (gDIn true) (mVar 4) (mVar 2)))) (sSeq (sPut 2 (mVar 4) (mC (.bl true)))
    (sExt 3 (m2 gGet (mVar 1) (mVar 4)))) sNx)) 5000)
    (sRet (mS gSortDT (mCons (mVar 2) mNil))))))
def m_come_to : List D → Option D := mRun 2 5 p_come_to
theorem ok_come_to (T : Env K mg) : FnOk P w K mg base CX0 1 T.f_come_to T.d_come_to ["starts", "leads"] (spD (cls T) false m_come_to) := fn_ok T.F_come_to sc_come_to 2 5 rfl rfl fun cdv A outer s H E hr => by
  refine ⟨_, (pss_cons (ps_set (i := 2) sc_come_to.nd rfl (Or.inl rfl) pe_dnewT)
    (pss_cons (ps_set (i := 3) sc_come_to.nd rfl (Or.inl rfl) (pe_callTy (r := rListOf K) call_listS (by rfl) T.z_list (by decide +kernel) (pa_cons (pv 0) pa_nil)))
    (pss_cons (ps_while PassesOwn.never (pt_truth (pv 3) (by intro _; rfl))
      (pss_cons (ps_set (i := 4) sc_come_to.nd rfl (Or.inl rfl) (pe_bm0 PySem.F.plainAttrs_list PySem.F.slot_list_pop PySem.F.type_list_pop mt_pop (pv 3)))
      (pss_one (ps_if (pt_cmp (pc_dnotin (un1 hr) (pv 4) (pv 2)) (by rfl))
        (pss_cons (ps_dput (un1 hr) (pv 2) (pv 4) pe_bl (by rfl))
        (pss_one (ps_expr (pe_bm PySem.F.plainAttrs_list PySem.F.slot_list_extend PySem.F.type_list_extend mt_extend (pv 3) (pa_cons (pe_dget (un1 hr) (pv 1) (pv 4) (fun _ _ => rfl)) pa_nil)))))
        pss_nil))))
    (pss_one (ps_ret (pe_callB (r := rSortedDT) (cr_sortedDT rfl) (by rfl) T.z_sorted (by decide +kernel) (pa_cons (pv 2) pa_nil))))))), ?_⟩
  unfold p_come_to
  exact (ds_seq (ds_own 2 df_dT) (ds_seq (ds_own 3 (df_list (da_cons (de_var 0) da_nil))) (ds_seq (ds_while 5000 (dt_thaw (dt_tru (de_var 3))) (ds_seq (ds_pop 3 4) (ds_if (dt_thaw (dt_B (de_dnotin (de_var 4) (de_var 2)))) (ds_seq (ds_put 2 (de_var 4) (de_bl true)) (ds_ext 3 (de_dget (de_var 1) (de_var 4)))) ds_nil))) (ds_ret (de_cb rd_sortDT (da_cons (de_var 2) da_nil))))))
end
end Wl
namespace Wl
open PySem L2 Wb Wd
section
variable {P : Program} {w : World} {K : PySem.W.Frag} {mg : Str → Option Value} {base : Heap}
def p_stands_come_to : FS := (sSeq (sSet 1 (mDc false (mEnumT (mCons (mVar 0) mNil)) (bTup 2 (bCons (bName 3) (bCons (bName 4) bNil))) mYes (mVar 3) (mLc (mItT (mVar 4)) (bName 2) mYes (m2 gIxT (mVar 2) (mC (.int 0))) [2]) [3, 4]))
    (sRet (mS m_come_toK (mCons (mLst (mCons (mC (.int 0)) mNil)) (mCons (mVar 1) mNil)))))
def m_stands_come_to : List D → Option D := mRun 1 5 p_stands_come_to
theorem ok_stands_come_to (T : Env K mg) : FnOk P w K mg base CX0 2 T.f_stands_come_to T.d_stands_come_to ["table"] (spD (cls T) false m_stands_come_to) := fn_ok T.F_stands_come_to sc_stands_come_to 1 5 rfl rfl fun cdv A outer s H E hr => by
  refine ⟨_, (pss_cons (ps_setDc (i := 1) (own := [("stand", 3), ("row", 4)]) (g := gTup K 2 (gCons (gName 3) (gCons (gName 4) gNil))) rfl sc_stands_come_to.nd rfl rfl (swD rfl rfl rfl (by decide +kernel)) (pi_enumT (by rfl) T.z_enumerate (pa_cons (pv 0) pa_nil)) (blkOk_by (own := [("stand", 3), ("row", 4)]) (N := n_stands_come_to) (sc := defScope s_stands_come_to) (by decide +kernel)) (fun _ _ _ _ _ => (pg_tup rfl (pgs_cons (pg_name (i := 3) sc_stands_come_to.nd rfl (Or.inl rfl)) (pgs_cons (pg_name (i := 4) sc_stands_come_to.nd rfl (Or.inl rfl)) pgs_nil)))) (fun _ _ _ _ _ => pts_nil) (fun _ _ _ _ _ => (pv 3)) (fun _ _ _ _ _ => (pe_lc (own := [("step", 2)]) (g := gName 2) rfl sc_stands_come_to.nd (pi_tupK (K := K) rfl (pv 4)) (blkOk_by (own := [("step", 2)]) (N := n_stands_come_to) (sc := ({ kind := .function, names := [(".0", .local), ("stand", .local), ("row", .local)], isGenerator := false, isCoroutine := false } : Scope)) (by decide +kernel)) (fun _ _ _ _ _ => (pg_name (i := 2) sc_stands_come_to.nd rfl (Or.inl rfl))) (fun _ _ _ _ _ => pts_nil) (fun _ _ _ _ _ => (pe_ix (r := rIxT K) ix_tup (pv 2) pe_int (fun _ _ => rfl))))))
    (pss_one (ps_ret (pe_call (ok_come_toK T) (hr.mono (by decide)) rfl T.m_come_to T.F_come_to.kp T.b_come_to .nil pass0 (pa_cons (pe_lst (pa_cons pe_int pa_nil)) (pa_cons (pv 1) pa_nil)))))), ?_⟩
  unfold p_stands_come_to
  exact (ds_seq (ds_set 1 (de_df (df_dcK (DI.e (di_enumT (da_cons (de_var 0) da_nil))) (dg_tup (dgs_cons (dg_name 3 (by decide)) (dgs_cons (dg_name 4 (by decide)) dgs_nil))) dt_yes (de_var 3) (de_df (df_lc (DI.e (di_tup (de_var 4))) (dg_name 2 (by decide)) dt_yes (de_op rd_ixT (de_var 2) (de_int 0))))))) (ds_ret (de_call (by decide) (da_cons (de_lst (da_cons (de_int 0) da_nil)) (da_cons (de_var 1) da_nil)))))
end
end Wl
namespace Wl
open PySem L2 Wb Wd
section
variable {P : Program} {w : World} {K : PySem.W.Frag} {mg : Str → Option Value} {base : Heap}
def p_pairs_behind : FS := (sSeq (sBind (bTup 2 (bCons (bName 2) (bCons (bName 3) bNil))) (mTup (mCons (m2 gIxT (mVar 0) (m2 gIxT (mVar 1) (mC (.int 0)))) (mCons (m2 gIxT (mVar 0) (m2 gIxT (mVar 1) (mC (.int 1)))) mNil))))
    (sRet (fun ρ => (mLc2 (mItT (mVar 2)) (bName 4) mYes (mItT (mVar 3)) (bName 5) (mB (m2 (gEq false) (m2 gIxT (mVar 4) (mC (.int 1))) (m2 gIxT (mVar 5) (mC (.int 1))))) (mS m_as_pair (mCons (m2 gIxT (mVar 4) (mC (.int 0))) (mCons (m2 gIxT (mVar 5) (mC (.int 0))) mNil))) [4, 5] [5] ρ).bind gSortST)))
def m_pairs_behind : List D → Option D := mRun 2 6 p_pairs_behind
theorem ok_pairs_behind (T : Env K mg) : FnOk P w K mg base CX0 2 T.f_pairs_behind T.d_pairs_behind ["table", "pair"] (spD (cls T) false m_pairs_behind) := fn_ok T.F_pairs_behind sc_pairs_behind 2 6 rfl rfl fun cdv A outer s H E hr => by
  refine ⟨_, (pss_cons (ps_asg (pe_tup (pa_cons (pe_ix (r := rIxT K) ix_tup (pv 0) (pe_ix (r := rIxT K) ix_tup (pv 1) pe_int (fun _ _ => rfl)) (fun _ _ => rfl)) (pa_cons (pe_ix (r := rIxT K) ix_tup (pv 0) (pe_ix (r := rIxT K) ix_tup (pv 1) pe_int (fun _ _ => rfl)) (fun _ _ => rfl)) pa_nil))) (pg_tup rfl (pgs_cons (pg_name (i := 2) sc_pairs_behind.nd rfl (Or.inl rfl)) (pgs_cons (pg_name (i := 3) sc_pairs_behind.nd rfl (Or.inr rfl)) pgs_nil))))
    (pss_one (ps_ret (pe_callB (r := rSortedT K P w) (cr_sortedT rfl) (by rfl) T.z_sorted (by decide +kernel) (pa_cons (pe_sc2 (own := [("one", 4), ("other", 5)]) (g := gName 4) (g1 := gName 5) (vs1 := [5]) rfl hr.units sc_pairs_behind.nd (pi_tup (pv 2)) (blkOk_by (own := [("one", 4), ("other", 5)]) (N := n_pairs_behind) (sc := defScope s_pairs_behind) (by decide +kernel)) (by decide) (fun _ _ _ _ _ => (pg_name (i := 4) sc_pairs_behind.nd rfl (Or.inl rfl))) (fun _ _ _ _ _ => pts_nil) (fun _ _ _ _ _ => (pi_tupK (K := K) rfl (pv 3))) (fun _ _ _ _ _ => (pg_name (i := 5) sc_pairs_behind.nd rfl (Or.inl rfl))) (fun _ _ _ _ _ => (pts_one (pt_cmpR op_eq (pe_ix (r := rIxT K) ix_tup (pv 4) pe_int (fun _ _ => rfl)) (pe_ix (r := rIxT K) ix_tup (pv 5) pe_int (fun _ _ => rfl)) (nomark _)))) (fun _ _ _ _ _ => (pe_call (ok_as_pair T) (hr.mono (by decide)) rfl T.m_as_pair T.F_as_pair.kp T.b_as_pair .nil pass0 (pa_cons (pe_ix (r := rIxT K) ix_tup (pv 4) pe_int (fun _ _ => rfl)) (pa_cons (pe_ix (r := rIxT K) ix_tup (pv 5) pe_int (fun _ _ => rfl)) pa_nil))))) pa_nil))))), ?_⟩
  unfold p_pairs_behind
  exact (ds_seq (ds_bind (vs := [2, 3]) (dg_tup (dgs_cons (dg_name 2 (by decide)) (dgs_cons (dg_name 3 (by decide)) dgs_nil))) (de_tup (da_cons (de_op rd_ixT (de_var 0) (de_op rd_ixT (de_var 1) (de_int 0))) (da_cons (de_op rd_ixT (de_var 0) (de_op rd_ixT (de_var 1) (de_int 1))) da_nil)))) (ds_ret (de_sortSc2 (DI.e (di_tup (de_var 2))) (dg_name 4 (by decide)) dt_yes (di_tup (de_var 3)) (dg_name 5 (by decide)) (dt_test (de_op rd_eq (de_op rd_ixT (de_var 4) (de_int 1)) (de_op rd_ixT (de_var 5) (de_int 1)))) (de_call (by decide) (da_cons (de_op rd_ixT (de_var 4) (de_int 0)) (da_cons (de_op rd_ixT (de_var 5) (de_int 0)) da_nil))))))
end
end Wl
namespace Wl
open PySem L2 Wb Wd
section
variable {P : Program} {w : World} {K : PySem.W.Frag} {mg : Str → Option Value} {base : Heap}
def p_first_pairs : FS := (sSeq (sOwn 1 (mLst mNil))
    (sSeq (sFor (mItL (mS m_stands_come_to (mCons (mVar 0) mNil))) (bName 2) (sSeq (sSet 3 (m2 gIxT (mVar 0) (mVar 2)))
    (sFor (mEnumT (mCons (mVar 3) mNil)) (bTup 2 (bCons (bName 4) (bCons (bName 5) bNil))) (sExt 1 (mLc (mItT (mSlT (mVar 3) mNoP (mPart (mVar 4)))) (bName 6) (mB (m2 (gEq false) (m2 gIxT (mVar 6) (mC (.int 1))) (m2 gIxT (mVar 5) (mC (.int 1))))) (mS m_as_pair (mCons (m2 gIxT (mVar 6) (mC (.int 0))) (mCons (m2 gIxT (mVar 5) (mC (.int 0))) mNil))) [6])))))
    (sRet (mVar 1))))
def m_first_pairs : List D → Option D := mRun 1 7 p_first_pairs
theorem ok_first_pairs (T : Env K mg) : FnOk P w K mg base CX0 3 T.f_first_pairs T.d_first_pairs ["table"] (spD (cls T) false m_first_pairs) := fn_ok T.F_first_pairs sc_first_pairs 1 7 rfl rfl fun cdv A outer s H E hr => by
  refine ⟨_, (pss_cons (ps_set (i := 1) sc_first_pairs.nd rfl (Or.inl rfl) (pe_lst pa_nil))
    (pss_cons (ps_for PassesOwn.never rfl (pi_list (pe_call (ok_stands_come_to T) (hr.mono (by decide)) rfl T.m_stands_come_to T.F_stands_come_to.kp T.b_stands_come_to .nil pass0 (pa_cons (pv 0) pa_nil))) (pg_name (i := 2) sc_first_pairs.nd rfl (Or.inl rfl))
      (pss_cons (ps_set (i := 3) sc_first_pairs.nd rfl (Or.inl rfl) (pe_ix (r := rIxT K) ix_tup (pv 0) (pv 2) (fun _ _ => rfl)))
      (pss_one (ps_for PassesOwn.never rfl (pi_enumT (by rfl) T.z_enumerate (pa_cons (pv 3) pa_nil)) (pg_tup rfl (pgs_cons (pg_name (i := 4) sc_first_pairs.nd rfl (Or.inl rfl)) (pgs_cons (pg_name (i := 5) sc_first_pairs.nd rfl (Or.inr rfl)) pgs_nil)))
        (pss_one (ps_expr (pe_bm PySem.F.plainAttrs_list PySem.F.slot_list_extend PySem.F.type_list_extend mt_extend (pv 1) (pa_cons (pe_lc (own := [("twin", 6)]) (g := gName 6) rfl sc_first_pairs.nd (pi_tup (pe_slice (r := rSlA K) sl_tupA (pv 3) po_none (po_some (pv 4)))) (blkOk_by (own := [("twin", 6)]) (N := n_first_pairs) (sc := defScope s_first_pairs) (by decide +kernel)) (fun _ _ _ _ _ => (pg_name (i := 6) sc_first_pairs.nd rfl (Or.inl rfl))) (fun _ _ _ _ _ => pts_one (pt_cmpR op_eq (pe_ix (r := rIxT K) ix_tup (pv 6) pe_int (fun _ _ => rfl)) (pe_ix (r := rIxT K) ix_tup (pv 5) pe_int (fun _ _ => rfl)) (nomark _))) (fun _ _ _ _ _ => (pe_call (ok_as_pair T) (hr.mono (by decide)) rfl T.m_as_pair T.F_as_pair.kp T.b_as_pair .nil pass0 (pa_cons (pe_ix (r := rIxT K) ix_tup (pv 6) pe_int (fun _ _ => rfl)) (pa_cons (pe_ix (r := rIxT K) ix_tup (pv 5) pe_int (fun _ _ => rfl)) pa_nil))))) pa_nil))))))))
    (pss_one (ps_ret (pv 1))))), ?_⟩
  unfold p_first_pairs
  exact (ds_seq (ds_own 1 (df_lst da_nil)) (ds_seq (ds_for (vs := [2]) (di_list (de_call (by decide) (da_cons (de_var 0) da_nil))) (dg_name 2 (by decide)) (ds_seq (ds_set 3 (de_op rd_ixT (de_var 0) (de_var 2))) (ds_for (vs := [4, 5]) (di_enumT (da_cons (de_var 3) da_nil)) (dg_tup (dgs_cons (dg_name 4 (by decide)) (dgs_cons (dg_name 5 (by decide)) dgs_nil))) (ds_ext 1 (de_df (df_lc (DI.e (di_tup (de_slT (de_var 3) do_none (do_some (de_var 4))))) (dg_name 6 (by decide)) (dt_test (de_op rd_eq (de_op rd_ixT (de_var 6) (de_int 1)) (de_op rd_ixT (de_var 5) (de_int 1)))) (de_call (by decide) (da_cons (de_op rd_ixT (de_var 6) (de_int 0)) (da_cons (de_op rd_ixT (de_var 5) (de_int 0)) da_nil))))))))) (ds_ret (de_var 1))))
end
end Wl
namespace Wl
open PySem L2 Wb Wd
section
variable {P : Program} {w : World} {K : PySem.W.Frag} {mg : Str → Option Value} {base : Heap}
def p_pair_leads : FS := (sSeq (sSet 1 (mS gLen (mCons (mVar 0) mNil)))
    (sSeq (sSet 2 (fun ρ => (mLc2 (mRng1 (mCons (mVar 1) mNil)) (bName 3) mYes (mRng2 (mCons (mVar 3) (mCons (mVar 1) mNil))) (bName 4) mYes (mTup (mCons (mVar 3) (mCons (mVar 4) mNil))) [3, 4] [4] ρ).bind fun r => some (.lst r)))
    (sSeq (sSet 5 (mDc true (mItL (mVar 2)) (bName 6) mYes (mVar 6) (mS m_pairs_behind (mCons (mVar 0) (mCons (mVar 6) mNil))) [6]))
    (sRet (mDc true (mItL (mS m_come_to (mCons (mS m_first_pairs (mCons (mVar 0) mNil)) (mCons (mVar 5) mNil)))) (bName 6) mYes (mVar 6) (m2 gGet (mVar 5) (mVar 6)) [6])))))
def m_pair_leads : List D → Option D := mRun 1 7 p_pair_leads
theorem ok_pair_leads (T : Env K mg) : FnOk P w K mg base CX0 4 T.f_pair_leads T.d_pair_leads ["table"] (spD (cls T) false m_pair_leads) := fn_ok T.F_pair_leads sc_pair_leads 1 7 rfl rfl fun cdv A outer s H E hr => by
  refine ⟨_, (pss_cons (ps_set (i := 1) sc_pair_leads.nd rfl (Or.inr rfl) (pe_callB (r := rLenS K) call_lenS (by rfl) T.z_len (by decide +kernel) (pa_cons (pv 0) pa_nil)))
    (pss_cons (ps_setLc2 (i := 2) (own := [("one", 3), ("other", 4)]) (g := gName 3) (g1 := gName 4) (vs1 := [4]) rfl sc_pair_leads.nd rfl rfl (sw_true rfl rfl rfl (by decide +kernel)) (pi_range1 rfl T.z_range (pa_cons (pv 1) pa_nil)) (blkOk_by (own := [("one", 3), ("other", 4)]) (N := n_pair_leads) (sc := defScope s_pair_leads) (by decide +kernel)) (by decide) (fun _ _ _ _ _ => (pg_name (i := 3) sc_pair_leads.nd rfl (Or.inl rfl))) (fun _ _ _ _ _ => pts_nil) (fun _ _ _ _ _ => (pi_range2 (by rfl) T.z_range (pa_cons (pv 3) (pa_cons (pv 1) pa_nil)))) (fun _ _ _ _ _ => (pg_name (i := 4) sc_pair_leads.nd rfl (Or.inl rfl))) (fun _ _ _ _ _ => pts_nil) (fun _ _ _ _ _ => (pe_tup (pa_cons (pv 3) (pa_cons (pv 4) pa_nil)))))
    (pss_cons (ps_set (i := 5) sc_pair_leads.nd rfl (Or.inr rfl) (pe_dcT (own := [("pair", 6)]) (g := gName 6) rfl hr.units sc_pair_leads.nd (pi_list (pv 2)) (blkOk_by (own := [("pair", 6)]) (N := n_pair_leads) (sc := defScope s_pair_leads) (by decide +kernel)) (fun _ _ _ _ _ => (pg_name (i := 6) sc_pair_leads.nd rfl (Or.inl rfl))) (fun _ _ _ _ _ => pts_nil) (fun _ _ _ _ _ => (pv 6)) (fun _ _ _ _ _ => (pe_call (ok_pairs_behind T) (hr.mono (by decide)) rfl T.m_pairs_behind T.F_pairs_behind.kp T.b_pairs_behind .nil pass0 (pa_cons (pv 0) (pa_cons (pv 6) pa_nil))))))
    (pss_one (ps_ret (pe_dcT (own := [("pair", 6)]) (g := gName 6) rfl hr.units sc_pair_leads.nd (pi_list (pe_call (ok_come_to T) (hr.mono (by decide)) rfl T.m_come_to T.F_come_to.kp T.b_come_to .nil pass0 (pa_cons (pe_call (ok_first_pairs T) (hr.mono (by decide)) rfl T.m_first_pairs T.F_first_pairs.kp T.b_first_pairs .nil pass0 (pa_cons (pv 0) pa_nil)) (pa_cons (pv 5) pa_nil)))) (blkOk_by (own := [("pair", 6)]) (N := n_pair_leads) (sc := defScope s_pair_leads) (by decide +kernel)) (fun _ _ _ _ _ => (pg_name (i := 6) sc_pair_leads.nd rfl (Or.inl rfl))) (fun _ _ _ _ _ => pts_nil) (fun _ _ _ _ _ => (pv 6)) (fun _ _ _ _ _ => (pe_dget (un1 hr) (pv 5) (pv 6) (fun _ _ => rfl))))))))), ?_⟩
  unfold p_pair_leads
  exact (ds_seq (ds_set 1 (de_cb rd_len (da_cons (de_var 0) da_nil))) (ds_seq (ds_set 2 (de_df (df_lc2 (DI.e (di_rng1 (da_cons (de_var 1) da_nil))) (dg_name 3 (by decide)) dt_yes (di_rng2 (da_cons (de_var 3) (da_cons (de_var 1) da_nil))) (dg_name 4 (by decide)) dt_yes (de_tup (da_cons (de_var 3) (da_cons (de_var 4) da_nil)))))) (ds_seq (ds_set 5 (de_df (df_dcT (DI.e (di_list (de_var 2))) (dg_name 6 (by decide)) dt_yes (de_var 6) (de_call (by decide) (da_cons (de_var 0) (da_cons (de_var 6) da_nil)))))) (ds_ret (de_df (df_dcT (DI.e (di_list (de_call (by decide) (da_cons (de_call (by decide) (da_cons (de_var 0) da_nil)) (da_cons (de_var 5) da_nil))))) (dg_name 6 (by decide)) dt_yes (de_var 6) (de_dget (de_var 5) (de_var 6))))))))
end
end Wl
namespace Wl
open PySem L2 Wb Wd
section
variable {P : Program} {w : World} {K : PySem.W.Frag} {mg : Str → Option Value} {base : Heap}
def p_rank_pairs : FS := (sSeq (sOwn 1 (mC (.dic true [] [])))
    (sSeq (sSet 2 (mVar 0))
    (sSeq (sSet 3 (mC (.int 0)))
    (sSeq (whileD (mTruT (mVar 2)) (sSeq (sLock 2 (sSet 4 (mLc (mKeys 2) (bName 5) (mThaw (mB (mS gAll (mCons (mLc (mItL (m2 gGet (mVar 2) (mVar 5))) (bName 6) mYes (m2 (gDIn false) (mVar 6) (mVar 1)) [6]) mNil)))) (mVar 5) [5])))
    (sSeq (sIf (mNot (mTru (mVar 4))) (sRet (mC .non)) sNx)
    (sSeq (sFor (mItL (mVar 4)) (bName 5) (sPut 1 (mVar 5) (mVar 3)))
    (sSeq (sLock 2 (sSet 2 (mDc true (mKeys 2) (bName 5) (mThaw (mB (m2 (gDIn true) (mVar 5) (mVar 1)))) (mVar 5) (m2 gGet (mVar 2) (mVar 5)) [5])))
    (sAug 3 (fun i j => i + j) (mC (.int 1))))))) 5000)
    (sRet (mVar 1))))))
def m_rank_pairs : List D → Option D := mRun 1 7 p_rank_pairs
theorem ok_rank_pairs (T : Env K mg) : FnOk P w K mg base CX0 1 T.f_rank_pairs T.d_rank_pairs ["leads"] (spD (cls T) true m_rank_pairs) := fn_ok T.F_rank_pairs sc_rank_pairs 1 7 rfl rfl fun cdv A outer s H E hr => by
  refine ⟨_, (pss_cons (ps_set (i := 1) sc_rank_pairs.nd rfl (Or.inr rfl) pe_dnewT)
    (pss_cons (ps_set (i := 2) sc_rank_pairs.nd rfl (Or.inr rfl) (pv 0))
    (pss_cons (ps_set (i := 3) sc_rank_pairs.nd rfl (Or.inl rfl) pe_int)
    (pss_cons (ps_while PassesOwn.never (pt_truthR (r := rTruT) (pv 2) tru_dT (by intro _; rfl))
      (pss_cons (ps_lock (ps_setLc (i := 4) (own := [("pair", 5)]) (g := gName 5) rfl sc_rank_pairs.nd rfl rfl (sw_true rfl rfl rfl (by decide +kernel)) (pi_keys (pv 2)) (blkOk_by (own := [("pair", 5)]) (N := n_rank_pairs) (sc := defScope s_rank_pairs) (by decide +kernel)) (fun _ _ _ _ _ => (pg_name (i := 5) sc_rank_pairs.nd rfl (Or.inl rfl))) (fun _ _ _ _ _ => pts_one (pt_val (pe_callB (r := rAll K) (cr_all rfl) (by rfl) T.z_all (by decide +kernel) (pa_cons (pe_lc (own := [("behind", 6)]) (g := gName 6) rfl sc_rank_pairs.nd (pi_listK (K := K) rfl (pe_dget (un1 hr) (pv 2) (pv 5) (fun _ _ => rfl))) (blkOk_by (own := [("behind", 6)]) (N := n_rank_pairs) (sc := ({ kind := .function, names := [(".0", .local), ("pair", .local), ("all", .globalImplicit), ("found", .cell), ("left", .cell)], isGenerator := false, isCoroutine := false } : Scope)) (by decide +kernel)) (fun _ _ _ _ _ => (pg_name (i := 6) sc_rank_pairs.nd rfl (Or.inl rfl))) (fun _ _ _ _ _ => pts_nil) (fun _ _ _ _ _ => (pe_cmp (pc_din (un1 hr) (pv 6) (pv 1)) (by rfl)))) pa_nil)))) (fun _ _ _ _ _ => (pv 5))))
      (pss_cons (ps_if (pt_not (pt_truth (pv 4) (by intro _; rfl)))
        (pss_one (ps_ret pe_non))
        pss_nil)
      (pss_cons (ps_for PassesOwn.never rfl (pi_list (pv 4)) (pg_name (i := 5) sc_rank_pairs.nd rfl (Or.inl rfl))
        (pss_one (ps_dput (un1 hr) (pv 1) (pv 5) (pv 3) (by rfl))))
      (pss_cons (ps_set (i := 2) sc_rank_pairs.nd rfl (Or.inr rfl) (pe_lock (pe_dcT (own := [("pair", 5)]) (g := gName 5) rfl hr.units sc_rank_pairs.nd (pi_keys (pv 2)) (blkOk_by (own := [("pair", 5)]) (N := n_rank_pairs) (sc := defScope s_rank_pairs) (by decide +kernel)) (fun _ _ _ _ _ => (pg_name (i := 5) sc_rank_pairs.nd rfl (Or.inl rfl))) (fun _ _ _ _ _ => (pts_one (pt_cmp (pc_dnotin (un1 hr) (pv 5) (pv 1)) (by rfl)))) (fun _ _ _ _ _ => (pv 5)) (fun _ _ _ _ _ => (pe_dget (un1 hr) (pv 2) (pv 5) (fun _ _ => rfl))))))
      (pss_one (ps_aug (i := 3) sc_rank_pairs.nd rfl (Or.inl rfl) pe_int ip_add)))))))
    (pss_one (ps_ret (pv 1))))))), ?_⟩
  unfold p_rank_pairs
  exact (ds_seq (ds_own 1 df_dT) (ds_seq (ds_set 2 (de_var 0)) (ds_seq (ds_set 3 (de_int 0)) (ds_seq (ds_while 5000 (dt_truT rfl (de_var 2)) (ds_seq (ds_lock 2 (ds_set 4 (de_df (df_lc (DI.e (di_keys 2)) (dg_name 5 (by decide)) (dt_thaw (dt_B (de_cb rd_all (da_cons (de_df (df_lc (DI.e (di_list (de_dget (de_var 2) (de_var 5)))) (dg_name 6 (by decide)) dt_yes (de_din (de_var 6) (de_var 1)))) da_nil)))) (de_var 5))))) (ds_seq (ds_if (dt_not (dt_tru (de_var 4))) (ds_ret de_non) ds_nil) (ds_seq (ds_for (vs := [5]) (di_list (de_var 4)) (dg_name 5 (by decide)) (ds_put 1 (de_var 5) (de_var 3))) (ds_seq (ds_lock 2 (ds_set 2 (de_df (df_dcT (DI.e (di_keys 2)) (dg_name 5 (by decide)) (dt_thaw (dt_B (de_dnotin (de_var 5) (de_var 1)))) (de_var 5) (de_dget (de_var 2) (de_var 5)))))) (ds_aug 3 (de_int 1))))))) (ds_ret (de_var 1))))))
end
end Wl
namespace Wl
open PySem L2 Wb Wd
section
variable {P : Program} {w : World} {K : PySem.W.Frag} {mg : Str → Option Value} {base : Heap}
def p_may_read : FS := (sSeq (sIf (mB (m2 (gEq false) (mVar 0) (mC (.int 2)))) (sRet (mC (.bl true))) sNx)
    (sRet (mOrV (m2 gLt (mVar 1) (mVar 2)) (mAndV (m2 (gEq false) (mVar 0) (mC (.int 1))) (m2 (gEq false) (mVar 1) (mVar 2))))))
def m_may_read : List D → Option D := mRun 3 3 p_may_read
theorem ok_may_read (T : Env K mg) : FnOk P w K mg base CX0 1 T.f_may_read T.d_may_read ["how", "one", "other"] (spD (cls T) false m_may_read) := fn_ok T.F_may_read sc_may_read 3 3 rfl rfl fun cdv A outer s H E hr => by
  refine ⟨_, (pss_cons (ps_if (pt_cmpR op_eq (pv 0) (pe_glob (v := .int 2) rfl T.m_APART ⟨_, rfl⟩) (nomark _))
      (pss_one (ps_ret pe_bl))
      pss_nil)
    (pss_one (ps_ret (pe_or (pe_cmpR op_lt (pv 1) (pv 2) (nomark _)) (pe_one (pe_and (pe_cmpR op_eq (pv 0) (pe_glob (v := .int 1) rfl T.m_TOGETHER ⟨_, rfl⟩) (nomark _)) (pe_one (pe_cmpR op_eq (pv 1) (pv 2) (nomark _))))))))), ?_⟩
  unfold p_may_read
  exact (ds_seq (ds_if (dt_test (de_op rd_eq (de_var 0) (de_int 2))) (ds_ret (de_bl true)) ds_nil) (ds_ret (de_orV (de_op rd_lt (de_var 1) (de_var 2)) (de_andV (de_op rd_eq (de_var 0) (de_int 1)) (de_op rd_eq (de_var 1) (de_var 2))))))
end
end Wl
namespace Wl
open PySem L2 Wb Wd
section
variable {P : Program} {w : World} {K : PySem.W.Frag} {mg : Str → Option Value} {base : Heap}
def p_how_behind : FS := (sSeq (sIf (mOr (mB (m2 (gEq false) (mVar 0) (mC (.int 2)))) (mB (m2 (gEq true) (mVar 1) (mVar 2)))) (sRet (mC (.int 2))) sNx)
    (sRet (mC (.int 1))))
def m_how_behind : List D → Option D := mRun 3 3 p_how_behind
theorem ok_how_behind (T : Env K mg) : FnOk P w K mg base CX0 1 T.f_how_behind T.d_how_behind ["how", "one", "other"] (spD (cls T) false m_how_behind) := fn_ok T.F_how_behind sc_how_behind 3 3 rfl rfl fun cdv A outer s H E hr => by
  refine ⟨_, (pss_cons (ps_if (PW.pt (pw_or (pt_cmpR op_eq (pv 0) (pe_glob (v := .int 2) rfl T.m_APART ⟨_, rfl⟩) (nomark _)) (pw_or1 (pt_cmpR op_ne (pv 1) (pv 2) (nomark _)))))
      (pss_one (ps_ret (pe_glob (v := .int 2) rfl T.m_APART ⟨_, rfl⟩)))
      pss_nil)
    (pss_one (ps_ret (pe_glob (v := .int 1) rfl T.m_TOGETHER ⟨_, rfl⟩)))), ?_⟩
  unfold p_how_behind
  exact (ds_seq (ds_if (dt_or (dt_test (de_op rd_eq (de_var 0) (de_int 2))) (dt_test (de_op rd_ne (de_var 1) (de_var 2)))) (ds_ret (de_int 2)) ds_nil) (ds_ret (de_int 1)))
end
end Wl
namespace Wl
open PySem L2 Wb Wd
section
variable {P : Program} {w : World} {K : PySem.W.Frag} {mg : Str → Option Value} {base : Heap}
def p_moves_of : FS := (sSeq (sBind (bTup 3 (bCons (bName 2) (bCons (bName 3) (bCons (bName 4) bNil)))) (mVar 1))
    (sSeq (sOwn 5 (mLst mNil))
    (sSeq (sFor (mEnumT (mCons (m2 gIxT (mVar 0) (mVar 2)) mNil)) (bTup 2 (bCons (bName 6) (bCons (bName 7) bNil))) (sFor (mEnumT (mCons (m2 gIxT (mVar 0) (mVar 3)) mNil)) (bTup 2 (bCons (bName 8) (bCons (bName 9) bNil))) (sIf (mAnd (mB (m2 (gEq false) (m2 gIxT (mVar 7) (mC (.int 1))) (m2 gIxT (mVar 9) (mC (.int 1))))) (mB (mS m_may_read (mCons (mVar 4) (mCons (mVar 6) (mCons (mVar 8) mNil)))))) (sApp 5 (mTup (mCons (mVar 6) (mCons (mVar 8) (mCons (mTup (mCons (m2 gIxT (mVar 7) (mC (.int 0))) (mCons (m2 gIxT (mVar 9) (mC (.int 0))) (mCons (mS m_how_behind (mCons (mVar 4) (mCons (mVar 6) (mCons (mVar 8) mNil)))) mNil)))) mNil))))) sNx)))
    (sRet (mVar 5)))))
def m_moves_of : List D → Option D := mRun 2 10 p_moves_of
theorem ok_moves_of (T : Env K mg) : FnOk P w K mg base CX0 2 T.f_moves_of T.d_moves_of ["table", "state"] (spD (cls T) false m_moves_of) := fn_ok T.F_moves_of sc_moves_of 2 10 rfl rfl fun cdv A outer s H E hr => by
  refine ⟨_, (pss_cons (ps_asg (pv 1) (pg_tup rfl (pgs_cons (pg_name (i := 2) sc_moves_of.nd rfl (Or.inl rfl)) (pgs_cons (pg_name (i := 3) sc_moves_of.nd rfl (Or.inl rfl)) (pgs_cons (pg_name (i := 4) sc_moves_of.nd rfl (Or.inl rfl)) pgs_nil)))))
    (pss_cons (ps_set (i := 5) sc_moves_of.nd rfl (Or.inl rfl) (pe_lst pa_nil))
    (pss_cons (ps_for PassesOwn.never rfl (pi_enumT (by rfl) T.z_enumerate (pa_cons (pe_ix (r := rIxT K) ix_tup (pv 0) (pv 2) (fun _ _ => rfl)) pa_nil)) (pg_tup rfl (pgs_cons (pg_name (i := 6) sc_moves_of.nd rfl (Or.inl rfl)) (pgs_cons (pg_name (i := 7) sc_moves_of.nd rfl (Or.inl rfl)) pgs_nil)))
      (pss_one (ps_for PassesOwn.never rfl (pi_enumT (by rfl) T.z_enumerate (pa_cons (pe_ix (r := rIxT K) ix_tup (pv 0) (pv 3) (fun _ _ => rfl)) pa_nil)) (pg_tup rfl (pgs_cons (pg_name (i := 8) sc_moves_of.nd rfl (Or.inl rfl)) (pgs_cons (pg_name (i := 9) sc_moves_of.nd rfl (Or.inl rfl)) pgs_nil)))
        (pss_one (ps_if (PW.pt (pw_and (pt_cmpR op_eq (pe_ix (r := rIxT K) ix_tup (pv 7) pe_int (fun _ _ => rfl)) (pe_ix (r := rIxT K) ix_tup (pv 9) pe_int (fun _ _ => rfl)) (nomark _)) (pw_and1 (pt_val (pe_call (ok_may_read T) (hr.mono (by decide)) rfl T.m_may_read T.F_may_read.kp T.b_may_read .nil pass0 (pa_cons (pv 4) (pa_cons (pv 6) (pa_cons (pv 8) pa_nil))))))))
          (pss_one (ps_expr (pe_bm PySem.F.plainAttrs_list PySem.F.slot_list_append PySem.F.type_list_append mt_append (pv 5) (pa_cons (pe_tup (pa_cons (pv 6) (pa_cons (pv 8) (pa_cons (pe_tup (pa_cons (pe_ix (r := rIxT K) ix_tup (pv 7) pe_int (fun _ _ => rfl)) (pa_cons (pe_ix (r := rIxT K) ix_tup (pv 9) pe_int (fun _ _ => rfl)) (pa_cons (pe_call (ok_how_behind T) (hr.mono (by decide)) rfl T.m_how_behind T.F_how_behind.kp T.b_how_behind .nil pass0 (pa_cons (pv 4) (pa_cons (pv 6) (pa_cons (pv 8) pa_nil)))) pa_nil)))) pa_nil)))) pa_nil))))
          pss_nil)))))
    (pss_one (ps_ret (pv 5)))))), ?_⟩
  unfold p_moves_of
  exact (ds_seq (ds_bind (vs := [2, 3, 4]) (dg_tup (dgs_cons (dg_name 2 (by decide)) (dgs_cons (dg_name 3 (by decide)) (dgs_cons (dg_name 4 (by decide)) dgs_nil)))) (de_var 1)) (ds_seq (ds_own 5 (df_lst da_nil)) (ds_seq (ds_for (vs := [6, 7]) (di_enumT (da_cons (de_op rd_ixT (de_var 0) (de_var 2)) da_nil)) (dg_tup (dgs_cons (dg_name 6 (by decide)) (dgs_cons (dg_name 7 (by decide)) dgs_nil))) (ds_for (vs := [8, 9]) (di_enumT (da_cons (de_op rd_ixT (de_var 0) (de_var 3)) da_nil)) (dg_tup (dgs_cons (dg_name 8 (by decide)) (dgs_cons (dg_name 9 (by decide)) dgs_nil))) (ds_if (dt_and (dt_test (de_op rd_eq (de_op rd_ixT (de_var 7) (de_int 1)) (de_op rd_ixT (de_var 9) (de_int 1)))) (dt_B (de_call (by decide) (da_cons (de_var 4) (da_cons (de_var 6) (da_cons (de_var 8) da_nil)))))) (ds_app 5 (de_tup (da_cons (de_var 6) (da_cons (de_var 8) (da_cons (de_tup (da_cons (de_op rd_ixT (de_var 7) (de_int 0)) (da_cons (de_op rd_ixT (de_var 9) (de_int 0)) (da_cons (de_call (by decide) (da_cons (de_var 4) (da_cons (de_var 6) (da_cons (de_var 8) da_nil)))) da_nil)))) da_nil))))) ds_nil))) (ds_ret (de_var 5)))))
end
end Wl
namespace Wl
open PySem L2 Wb Wd
section
variable {P : Program} {w : World} {K : PySem.W.Frag} {mg : Str → Option Value} {base : Heap}
def p_moves_from : FS := (sSeq (sOwn 2 (mC (.dic true [] [])))
    (sSeq (sOwn 3 (mLst (mCons (mVar 1) mNil)))
    (sSeq (whileD (mThaw (mTru (mVar 3))) (sSeq (sPop 3 4)
    (sIf (mThaw (mB (m2 (gDIn true) (mVar 4) (mVar 2)))) (sSeq (sPut 2 (mVar 4) (mS m_moves_of (mCons (mVar 0) (mCons (mVar 4) mNil))))
    (sExt 3 (mLc (mItL (mOwnGet 2 (mVar 4))) (bTup 3 (bCons (bName 5) (bCons (bName 5) (bCons (bName 6) bNil)))) mYes (mVar 6) [5, 6]))) sNx)) 5000)
    (sRet (mVar 2)))))
def m_moves_from : List D → Option D := mRun 2 7 p_moves_from
theorem ok_moves_from (T : Env K mg) : FnOk P w K mg base CX0 3 T.f_moves_from T.d_moves_from ["table", "start"] (spD (cls T) false m_moves_from) := fn_ok T.F_moves_from sc_moves_from 2 7 rfl rfl fun cdv A outer s H E hr => by
  refine ⟨_, (pss_cons (ps_set (i := 2) sc_moves_from.nd rfl (Or.inl rfl) pe_dnewT)
    (pss_cons (ps_set (i := 3) sc_moves_from.nd rfl (Or.inl rfl) (pe_lst (pa_cons (pv 1) pa_nil)))
    (pss_cons (ps_while PassesOwn.never (pt_truth (pv 3) (by intro _; rfl))
      (pss_cons (ps_set (i := 4) sc_moves_from.nd rfl (Or.inl rfl) (pe_bm0 PySem.F.plainAttrs_list PySem.F.slot_list_pop PySem.F.type_list_pop mt_pop (pv 3)))
      (pss_one (ps_if (pt_cmp (pc_dnotin (un1 hr) (pv 4) (pv 2)) (by rfl))
        (pss_cons (ps_dput (un1 hr) (pv 2) (pv 4) (pe_call (ok_moves_of T) (hr.mono (by decide)) rfl T.m_moves_of T.F_moves_of.kp T.b_moves_of .nil pass0 (pa_cons (pv 0) (pa_cons (pv 4) pa_nil))) (by rfl))
        (pss_one (ps_expr (pe_bm PySem.F.plainAttrs_list PySem.F.slot_list_extend PySem.F.type_list_extend mt_extend (pv 3) (pa_cons (pe_lc (own := [("_", 5), ("behind", 6)]) (g := gTup K 3 (gCons (gName 5) (gCons (gName 5) (gCons (gName 6) gNil)))) rfl sc_moves_from.nd (pi_list (pe_dget (un1 hr) (pv 2) (pv 4) (fun _ _ => rfl))) (blkOk_by (own := [("_", 5), ("behind", 6)]) (N := n_moves_from) (sc := defScope s_moves_from) (by decide +kernel)) (fun _ _ _ _ _ => (pg_tup rfl (pgs_cons (pg_name (i := 5) sc_moves_from.nd rfl (Or.inl rfl)) (pgs_cons (pg_name (i := 5) sc_moves_from.nd rfl (Or.inl rfl)) (pgs_cons (pg_name (i := 6) sc_moves_from.nd rfl (Or.inl rfl)) pgs_nil))))) (fun _ _ _ _ _ => pts_nil) (fun _ _ _ _ _ => (pv 6))) pa_nil)))))
        pss_nil))))
    (pss_one (ps_ret (pv 2)))))), ?_⟩
  unfold p_moves_from
  exact (ds_seq (ds_own 2 df_dT) (ds_seq (ds_own 3 (df_lst (da_cons (de_var 1) da_nil))) (ds_seq (ds_while 5000 (dt_thaw (dt_tru (de_var 3))) (ds_seq (ds_pop 3 4) (ds_if (dt_thaw (dt_B (de_dnotin (de_var 4) (de_var 2)))) (ds_seq (ds_put 2 (de_var 4) (de_call (by decide) (da_cons (de_var 0) (da_cons (de_var 4) da_nil)))) (ds_ext 3 (de_df (df_lc (DI.e (di_list (de_dgetOwn 2 (de_var 4)))) (dg_tup (dgs_cons (dg_name 5 (by decide)) (dgs_cons (dg_name 5 (by decide)) (dgs_cons (dg_name 6 (by decide)) dgs_nil)))) dt_yes (de_var 6))))) ds_nil))) (ds_ret (de_var 2)))))
end
end Wl
namespace Wl
open PySem L2 Wb Wd
section
variable {P : Program} {w : World} {K : PySem.W.Frag} {mg : Str → Option Value} {base : Heap}
def p_states_before : FS := (sRet (mLock 0 (mDc true (mKeys 0) (bName 2) (mB (mS gAny (mCons (mLc (mItL (m2 gGet (mVar 0) (mVar 2))) (bTup 3 (bCons (bName 3) (bCons (bName 3) (bCons (bName 4) bNil)))) mYes (m2 (gDIn false) (mVar 4) (mVar 1)) [3, 4]) mNil))) (mVar 2) (mC (.bl true)) [2])))
def m_states_before : List D → Option D := mRun 2 5 p_states_before
theorem ok_states_before (T : Env K mg) : FnOk P w K mg base CX0 1 T.f_states_before T.d_states_before ["moves", "states"] (spD (cls T) true m_states_before) := fn_ok T.F_states_before sc_states_before 2 5 rfl rfl fun cdv A outer s H E hr => by
  refine ⟨_, (pss_one (ps_ret (pe_lock (pe_dcT (own := [("state", 2)]) (g := gName 2) rfl hr.units sc_states_before.nd (pi_keys (pv 0)) (blkOk_by (own := [("state", 2)]) (N := n_states_before) (sc := defScope s_states_before) (by decide +kernel)) (fun _ _ _ _ _ => (pg_name (i := 2) sc_states_before.nd rfl (Or.inl rfl))) (fun _ _ _ _ _ => (pts_one (pt_val (pe_callB (r := rAny K) (cr_any rfl) (by rfl) T.z_any (by decide +kernel) (pa_cons (pe_lc (own := [("_", 3), ("behind", 4)]) (g := gTup K 3 (gCons (gName 3) (gCons (gName 3) (gCons (gName 4) gNil)))) rfl sc_states_before.nd (pi_listK (K := K) rfl (pe_dget (un1 hr) (pv 0) (pv 2) (fun _ _ => rfl))) (blkOk_by (own := [("_", 3), ("behind", 4)]) (N := n_states_before) (sc := ({ kind := .function, names := [(".0", .local), ("state", .local), ("any", .globalImplicit), ("moves", .cell), ("states", .cell)], isGenerator := false, isCoroutine := false } : Scope)) (by decide +kernel)) (fun _ _ _ _ _ => (pg_tup rfl (pgs_cons (pg_name (i := 3) sc_states_before.nd rfl (Or.inl rfl)) (pgs_cons (pg_name (i := 3) sc_states_before.nd rfl (Or.inl rfl)) (pgs_cons (pg_name (i := 4) sc_states_before.nd rfl (Or.inl rfl)) pgs_nil))))) (fun _ _ _ _ _ => pts_nil) (fun _ _ _ _ _ => (pe_cmp (pc_din (un1 hr) (pv 4) (pv 1)) (by rfl)))) pa_nil))))) (fun _ _ _ _ _ => (pv 2)) (fun _ _ _ _ _ => pe_bl))))), ?_⟩
  unfold p_states_before
  exact (ds_ret (de_lockE 0 (de_df (df_dcT (DI.e (di_keys 0)) (dg_name 2 (by decide)) (dt_B (de_cb rd_any (da_cons (de_df (df_lc (DI.e (di_list (de_dget (de_var 0) (de_var 2)))) (dg_tup (dgs_cons (dg_name 3 (by decide)) (dgs_cons (dg_name 3 (by decide)) (dgs_cons (dg_name 4 (by decide)) dgs_nil)))) dt_yes (de_din (de_var 4) (de_var 1)))) da_nil))) (de_var 2) (de_bl true)))))
end
end Wl
namespace Wl
open PySem L2 Wb Wd
section
variable {P : Program} {w : World} {K : PySem.W.Frag} {mg : Str → Option Value} {base : Heap}
def p_least_first : FS := (sSeq (sOwn 3 (mLst mNil))
    (sSeq (sSet 4 (mLst (mCons (mVar 1) mNil)))
    (sSeq (sFor (mRev (mSlL (mVar 2) mNoP (mPart (m1 (fun d => (unI d).bind fun i => some (.int (-i))) (mC (.int 1)))))) (bName 5) (sSeq (sSet 6 (fun ρ => (mLc2 (mItL (mVar 4)) (bName 7) mYes (mItL (m2 gGet (mVar 0) (mVar 7))) (bTup 3 (bCons (bName 8) (bCons (bName 9) (bCons (bName 10) bNil)))) (mB (m2 (gDIn false) (mVar 10) (mVar 5))) (mTup (mCons (mVar 8) (mCons (mVar 10) mNil))) [7, 8, 9, 10] [8, 9, 10] ρ).bind fun r => some (.lst r)))
    (sSeq (sSet 11 (mS gMinL (mCons (mLc (mItL (mVar 6)) (bTup 2 (bCons (bName 8) (bCons (bName 9) bNil))) mYes (mVar 8) [8, 9]) mNil)))
    (sSeq (sSet 4 (mSc1 (mItL (mVar 6)) (bTup 2 (bCons (bName 8) (bCons (bName 10) bNil))) (mB (m2 (gEq false) (mVar 8) (mVar 11))) (mVar 10) [8, 10]))
    (sApp 3 (mVar 11))))))
    (sRet (mS gTup (mCons (mVar 3) mNil))))))
def m_least_first : List D → Option D := mRun 3 12 p_least_first
theorem ok_least_first (T : Env K mg) : FnOk P w K mg base CX0 1 T.f_least_first T.d_least_first ["moves", "start", "levels"] (spD (cls T) false m_least_first) := fn_ok T.F_least_first sc_least_first 3 12 rfl rfl fun cdv A outer s H E hr => by
  refine ⟨_, (pss_cons (ps_set (i := 3) sc_least_first.nd rfl (Or.inl rfl) (pe_lst pa_nil))
    (pss_cons (ps_set (i := 4) sc_least_first.nd rfl (Or.inl rfl) (pe_lst (pa_cons (pv 1) pa_nil)))
    (pss_cons (ps_for PassesOwn.never rfl (RT.pi_revA rfl T.z_reversed (pe_slice (r := rSlL K) sl_list (pv 2) po_none (po_some (pe_un un_neg pe_int)))) (pg_name (i := 5) sc_least_first.nd rfl (Or.inr rfl))
      (pss_cons (ps_setLc2 (i := 6) (own := [("state", 7), ("one", 8), ("_", 9), ("behind", 10)]) (g := gName 7) (g1 := gTup K 3 (gCons (gName 8) (gCons (gName 9) (gCons (gName 10) gNil)))) (vs1 := [8, 9, 10]) rfl sc_least_first.nd rfl rfl (sw_true rfl rfl rfl (by decide +kernel)) (pi_list (pv 4)) (blkOk_by (own := [("state", 7), ("one", 8), ("_", 9), ("behind", 10)]) (N := n_least_first) (sc := defScope s_least_first) (by decide +kernel)) (by decide) (fun _ _ _ _ _ => (pg_name (i := 7) sc_least_first.nd rfl (Or.inl rfl))) (fun _ _ _ _ _ => pts_nil) (fun _ _ _ _ _ => (pi_listK (K := K) rfl (pe_dget (un1 hr) (pv 0) (pv 7) (fun _ _ => rfl)))) (fun _ _ _ _ _ => (pg_tup rfl (pgs_cons (pg_name (i := 8) sc_least_first.nd rfl (Or.inl rfl)) (pgs_cons (pg_name (i := 9) sc_least_first.nd rfl (Or.inl rfl)) (pgs_cons (pg_name (i := 10) sc_least_first.nd rfl (Or.inl rfl)) pgs_nil))))) (fun _ _ _ _ _ => (pts_one (pt_cmp (pc_din (un1 hr) (pv 10) (pv 5)) (by rfl)))) (fun _ _ _ _ _ => (pe_tup (pa_cons (pv 8) (pa_cons (pv 10) pa_nil)))))
      (pss_cons (ps_set (i := 11) sc_least_first.nd rfl (Or.inr rfl) (pe_callB (r := rMin K) (cr_min rfl) (by rfl) T.z_min (by decide +kernel) (pa_cons (pe_lc (own := [("one", 8), ("_", 9)]) (g := gTup K 2 (gCons (gName 8) (gCons (gName 9) gNil))) rfl sc_least_first.nd (pi_list (pv 6)) (blkOk_by (own := [("one", 8), ("_", 9)]) (N := n_least_first) (sc := defScope s_least_first) (by decide +kernel)) (fun _ _ _ _ _ => (pg_tup rfl (pgs_cons (pg_name (i := 8) sc_least_first.nd rfl (Or.inl rfl)) (pgs_cons (pg_name (i := 9) sc_least_first.nd rfl (Or.inl rfl)) pgs_nil)))) (fun _ _ _ _ _ => pts_nil) (fun _ _ _ _ _ => (pv 8))) pa_nil)))
      (pss_cons (ps_set (i := 4) sc_least_first.nd rfl (Or.inl rfl) (pe_callB (r := rSortedT K P w) (cr_sortedT rfl) (by rfl) T.z_sorted (by decide +kernel) (pa_cons (pe_sc1 (own := [("one", 8), ("behind", 10)]) (g := gTup K 2 (gCons (gName 8) (gCons (gName 10) gNil))) rfl hr.units sc_least_first.nd (pi_list (pv 6)) (blkOk_by (own := [("one", 8), ("behind", 10)]) (N := n_least_first) (sc := defScope s_least_first) (by decide +kernel)) (fun _ _ _ _ _ => (pg_tup rfl (pgs_cons (pg_name (i := 8) sc_least_first.nd rfl (Or.inl rfl)) (pgs_cons (pg_name (i := 10) sc_least_first.nd rfl (Or.inl rfl)) pgs_nil)))) (fun _ _ _ _ _ => pts_one (pt_cmpR op_eq (pv 8) (pv 11) (nomark _))) (fun _ _ _ _ _ => (pv 10))) pa_nil)))
      (pss_one (ps_expr (pe_bm PySem.F.plainAttrs_list PySem.F.slot_list_append PySem.F.type_list_append mt_append (pv 3) (pa_cons (pv 11) pa_nil))))))))
    (pss_one (ps_ret (pe_callTy (r := rTupOf K) call_tupS (by rfl) T.z_tuple (by decide +kernel) (pa_cons (pv 3) pa_nil))))))), ?_⟩
  unfold p_least_first
  exact (ds_seq (ds_own 3 (df_lst da_nil)) (ds_seq (ds_set 4 (de_lst (da_cons (de_var 1) da_nil))) (ds_seq (ds_for (vs := [5]) (di_rev (de_slL (de_var 2) do_none (do_some (de_un rd_neg (de_int 1))))) (dg_name 5 (by decide)) (ds_seq (ds_set 6 (de_df (df_lc2 (DI.e (di_list (de_var 4))) (dg_name 7 (by decide)) dt_yes (di_list (de_dget (de_var 0) (de_var 7))) (dg_tup (dgs_cons (dg_name 8 (by decide)) (dgs_cons (dg_name 9 (by decide)) (dgs_cons (dg_name 10 (by decide)) dgs_nil)))) (dt_B (de_din (de_var 10) (de_var 5))) (de_tup (da_cons (de_var 8) (da_cons (de_var 10) da_nil)))))) (ds_seq (ds_set 11 (de_cb rd_minL (da_cons (de_df (df_lc (DI.e (di_list (de_var 6))) (dg_tup (dgs_cons (dg_name 8 (by decide)) (dgs_cons (dg_name 9 (by decide)) dgs_nil))) dt_yes (de_var 8))) da_nil))) (ds_seq (ds_set 4 (de_sortSc1 (DI.e (di_list (de_var 6))) (dg_tup (dgs_cons (dg_name 8 (by decide)) (dgs_cons (dg_name 10 (by decide)) dgs_nil))) (dt_test (de_op rd_eq (de_var 8) (de_var 11))) (de_var 10))) (ds_app 3 (de_var 11)))))) (ds_ret (de_cb rd_tuple (da_cons (de_var 3) da_nil))))))
end
end Wl
namespace Wl
open PySem L2 Wb Wd
section
variable {P : Program} {w : World} {K : PySem.W.Frag} {mg : Str → Option Value} {base : Heap}
def p_states_before_by : FS := (sSeq (sOwn 3 (mC (.dic true [] [])))
    (sSeq (sLock 1 (sFor (mKeys 1) (bName 4) (sIf (mB (mS gAny (mCons (mLc (mItL (m2 gGet (mVar 1) (mVar 4))) (bTup 3 (bCons (bName 5) (bCons (bName 6) (bCons (bName 7) bNil)))) mYes (mAndV (m2 (gEq false) (mVar 5) (mVar 0)) (m2 (gDIn false) (mVar 7) (mVar 2))) [5, 6, 7]) mNil))) (sPut 3 (mVar 4) (mC (.bl true))) sNx)))
    (sRet (mVar 3))))
def m_states_before_by : List D → Option D := mRun 3 8 p_states_before_by
theorem ok_states_before_by (T : Env K mg) : FnOk P w K mg base CX0 1 T.f_states_before_by T.d_states_before_by ["letter", "moves", "states"] (spD (cls T) true m_states_before_by) := fn_ok T.F_states_before_by sc_states_before_by 3 8 rfl rfl fun cdv A outer s H E hr => by
  refine ⟨_, (pss_cons (ps_set (i := 3) sc_states_before_by.nd rfl (Or.inl rfl) pe_dnewT)
    (pss_cons (ps_lock (ps_for PassesOwn.never rfl (pi_keys (pv 1)) (pg_name (i := 4) sc_states_before_by.nd rfl (Or.inl rfl))
      (pss_one (ps_if (pt_val (pe_callB (r := rAny K) (cr_any rfl) (by rfl) T.z_any (by decide +kernel) (pa_cons (pe_lc (own := [("one", 5), ("_", 6), ("behind", 7)]) (g := gTup K 3 (gCons (gName 5) (gCons (gName 6) (gCons (gName 7) gNil)))) rfl sc_states_before_by.nd (pi_list (pe_dget (un1 hr) (pv 1) (pv 4) (fun _ _ => rfl))) (blkOk_by (own := [("one", 5), ("_", 6), ("behind", 7)]) (N := n_states_before_by) (sc := defScope s_states_before_by) (by decide +kernel)) (fun _ _ _ _ _ => (pg_tup rfl (pgs_cons (pg_name (i := 5) sc_states_before_by.nd rfl (Or.inl rfl)) (pgs_cons (pg_name (i := 6) sc_states_before_by.nd rfl (Or.inl rfl)) (pgs_cons (pg_name (i := 7) sc_states_before_by.nd rfl (Or.inl rfl)) pgs_nil))))) (fun _ _ _ _ _ => pts_nil) (fun _ _ _ _ _ => (pe_and (pe_cmpR op_eq (pv 5) (pv 0) (nomark _)) (pe_one (pe_cmp (pc_din (un1 hr) (pv 7) (pv 2)) (by rfl)))))) pa_nil)))
        (pss_one (ps_dput (un1 hr) (pv 3) (pv 4) pe_bl (by rfl)))
        pss_nil))))
    (pss_one (ps_ret (pv 3))))), ?_⟩
  unfold p_states_before_by
  exact (ds_seq (ds_own 3 df_dT) (ds_seq (ds_lock 1 (ds_for (vs := [4]) (di_keys 1) (dg_name 4 (by decide)) (ds_if (dt_B (de_cb rd_any (da_cons (de_df (df_lc (DI.e (di_list (de_dget (de_var 1) (de_var 4)))) (dg_tup (dgs_cons (dg_name 5 (by decide)) (dgs_cons (dg_name 6 (by decide)) (dgs_cons (dg_name 7 (by decide)) dgs_nil)))) dt_yes (de_andV (de_op rd_eq (de_var 5) (de_var 0)) (de_din (de_var 7) (de_var 2))))) da_nil))) (ds_put 3 (de_var 4) (de_bl true)) ds_nil))) (ds_ret (de_var 3))))
end
end Wl
namespace Wl
open PySem L2 Wb Wd
section
variable {P : Program} {w : World} {K : PySem.W.Frag} {mg : Str → Option Value} {base : Heap}
def p_levels_beside : FS := (sSeq (sOwn 3 (mLst (mCons (mVar 2) mNil)))
    (sSeq (sFor (mRev (mSlT (mVar 1) (mPart (mC (.int 1))) mNoP)) (bName 4) (sApp 3 (mS m_states_before_by (mCons (mVar 4) (mCons (mVar 0) (mCons (mOwnIx 3 (m1 (fun d => (unI d).bind fun i => some (.int (-i))) (mC (.int 1)))) mNil))))))
    (sRet (m1 gRevL (mVar 3)))))
def m_levels_beside : List D → Option D := mRun 3 5 p_levels_beside
theorem ok_levels_beside (T : Env K mg) : FnOk P w K mg base CX0 2 T.f_levels_beside T.d_levels_beside ["moves", "first", "ends"] (spD (cls T) true m_levels_beside) := fn_ok T.F_levels_beside sc_levels_beside 3 5 rfl rfl fun cdv A outer s H E hr => by
  refine ⟨_, (pss_cons (ps_set (i := 3) sc_levels_beside.nd rfl (Or.inl rfl) (pe_lst (pa_cons (pv 2) pa_nil)))
    (pss_cons (ps_for PassesOwn.never rfl (RT.pi_revA rfl T.z_reversed (pe_slice (r := rSlA K) sl_tupA (pv 1) (po_some pe_int) po_none)) (pg_name (i := 4) sc_levels_beside.nd rfl (Or.inl rfl))
      (pss_one (ps_expr (pe_bm PySem.F.plainAttrs_list PySem.F.slot_list_append PySem.F.type_list_append mt_append (pv 3) (pa_cons (pe_call (ok_states_before_by T) (hr.mono (by decide)) rfl T.m_states_before_by T.F_states_before_by.kp T.b_states_before_by .nil pass0 (pa_cons (pv 4) (pa_cons (pv 0) (pa_cons (pe_ix (r := rIxL K) ix_list (pv 3) (pe_un un_neg pe_int) (fun _ _ => rfl)) pa_nil)))) pa_nil)))))
    (pss_one (ps_ret (pe_revL (pv 3)))))), ?_⟩
  unfold p_levels_beside
  exact (ds_seq (ds_own 3 (df_lst (da_cons (de_var 2) da_nil))) (ds_seq (ds_for (vs := [4]) (di_rev (de_slT (de_var 1) (do_some (de_int 1)) do_none)) (dg_name 4 (by decide)) (ds_app 3 (de_call (by decide) (da_cons (de_var 4) (da_cons (de_var 0) (da_cons (de_ixOwnL 3 (de_un rd_neg (de_int 1))) da_nil)))))) (ds_ret (de_revL (de_var 3)))))
end
end Wl
namespace Wl
open PySem L2 Wb Wd
section
variable {P : Program} {w : World} {K : PySem.W.Frag} {mg : Str → Option Value} {base : Heap}
def p_least_second : FS := (sSeq (sOwn 4 (mLst mNil))
    (sSeq (sSet 5 (mVar 1))
    (sSeq (sFor (mZipW (mCons (mVar 2) (mCons (mS m_levels_beside (mCons (mVar 0) (mCons (mVar 2) (mCons (mVar 3) mNil)))) mNil))) (bTup 2 (bCons (bName 6) (bCons (bName 7) bNil))) (sSeq (sSet 8 (mLc (mItL (m2 gGet (mVar 0) (mVar 5))) (bTup 3 (bCons (bName 9) (bCons (bName 10) (bCons (bName 11) bNil)))) (mAnd (mB (m2 (gEq false) (mVar 9) (mVar 6))) (mB (m2 (gDIn false) (mVar 11) (mVar 7)))) (mTup (mCons (mVar 10) (mCons (mVar 11) mNil))) [9, 10, 11]))
    (sSeq (sBind (bTup 2 (bCons (bName 12) (bCons (bName 5) bNil))) (mS gMinD (mCons (mVar 8) mNil)))
    (sApp 4 (mVar 12)))))
    (sRet (mS gTup (mCons (mVar 4) mNil))))))
def m_least_second : List D → Option D := mRun 4 13 p_least_second
theorem ok_least_second (T : Env K mg) : FnOk P w K mg base CX0 3 T.f_least_second T.d_least_second ["moves", "start", "first", "ends"] (spD (cls T) true m_least_second) := fn_ok T.F_least_second sc_least_second 4 13 rfl rfl fun cdv A outer s H E hr => by
  refine ⟨_, (pss_cons (ps_set (i := 4) sc_least_second.nd rfl (Or.inl rfl) (pe_lst pa_nil))
    (pss_cons (ps_set (i := 5) sc_least_second.nd rfl (Or.inl rfl) (pv 1))
    (pss_cons (ps_for PassesOwn.never rfl (pi_zipW (by rfl) T.z_zip (pa_cons (pv 2) (pa_cons (pe_call (ok_levels_beside T) (hr.mono (by decide)) rfl T.m_levels_beside T.F_levels_beside.kp T.b_levels_beside .nil pass0 (pa_cons (pv 0) (pa_cons (pv 2) (pa_cons (pv 3) pa_nil)))) pa_nil))) (pg_tup rfl (pgs_cons (pg_name (i := 6) sc_least_second.nd rfl (Or.inr rfl)) (pgs_cons (pg_name (i := 7) sc_least_second.nd rfl (Or.inr rfl)) pgs_nil)))
      (pss_cons (ps_setLc (i := 8) (own := [("one", 9), ("other", 10), ("behind", 11)]) (g := gTup K 3 (gCons (gName 9) (gCons (gName 10) (gCons (gName 11) gNil)))) rfl sc_least_second.nd rfl rfl (sw_true rfl rfl rfl (by decide +kernel)) (pi_list (pe_dget (un1 hr) (pv 0) (pv 5) (fun _ _ => rfl))) (blkOk_by (own := [("one", 9), ("other", 10), ("behind", 11)]) (N := n_least_second) (sc := defScope s_least_second) (by decide +kernel)) (fun _ _ _ _ _ => (pg_tup rfl (pgs_cons (pg_name (i := 9) sc_least_second.nd rfl (Or.inl rfl)) (pgs_cons (pg_name (i := 10) sc_least_second.nd rfl (Or.inl rfl)) (pgs_cons (pg_name (i := 11) sc_least_second.nd rfl (Or.inl rfl)) pgs_nil))))) (fun _ _ _ _ _ => pts_one (PW.pt (pw_and (pt_cmpR op_eq (pv 9) (pv 6) (nomark _)) (pw_and1 (pt_cmp (pc_din (un1 hr) (pv 11) (pv 7)) (by rfl)))))) (fun _ _ _ _ _ => (pe_tup (pa_cons (pv 10) (pa_cons (pv 11) pa_nil)))))
      (pss_cons (ps_asg (pe_callB (r := rMinD K) (cr_minD hr.units rfl) (by rfl) T.z_min (by decide +kernel) (pa_cons (pv 8) pa_nil)) (pg_tup rfl (pgs_cons (pg_name (i := 12) sc_least_second.nd rfl (Or.inl rfl)) (pgs_cons (pg_name (i := 5) sc_least_second.nd rfl (Or.inl rfl)) pgs_nil))))
      (pss_one (ps_expr (pe_bm PySem.F.plainAttrs_list PySem.F.slot_list_append PySem.F.type_list_append mt_append (pv 4) (pa_cons (pv 12) pa_nil)))))))
    (pss_one (ps_ret (pe_callTy (r := rTupOf K) call_tupS (by rfl) T.z_tuple (by decide +kernel) (pa_cons (pv 4) pa_nil))))))), ?_⟩
  unfold p_least_second
  exact (ds_seq (ds_own 4 (df_lst da_nil)) (ds_seq (ds_set 5 (de_var 1)) (ds_seq (ds_for (vs := [6, 7]) (di_zipW (da_cons (de_var 2) (da_cons (de_call (by decide) (da_cons (de_var 0) (da_cons (de_var 2) (da_cons (de_var 3) da_nil)))) da_nil))) (dg_tup (dgs_cons (dg_name 6 (by decide)) (dgs_cons (dg_name 7 (by decide)) dgs_nil))) (ds_seq (ds_set 8 (de_df (df_lc (DI.e (di_list (de_dget (de_var 0) (de_var 5)))) (dg_tup (dgs_cons (dg_name 9 (by decide)) (dgs_cons (dg_name 10 (by decide)) (dgs_cons (dg_name 11 (by decide)) dgs_nil)))) (dt_and (dt_test (de_op rd_eq (de_var 9) (de_var 6))) (dt_B (de_din (de_var 11) (de_var 7)))) (de_tup (da_cons (de_var 10) (da_cons (de_var 11) da_nil)))))) (ds_seq (ds_bind (vs := [12, 5]) (dg_tup (dgs_cons (dg_name 12 (by decide)) (dgs_cons (dg_name 5 (by decide)) dgs_nil))) (de_cb rd_minD (da_cons (de_var 8) da_nil))) (ds_app 4 (de_var 12))))) (ds_ret (de_cb rd_tuple (da_cons (de_var 4) da_nil))))))
end
end Wl
namespace Wl
open PySem L2 Wb Wd
section
variable {P : Program} {w : World} {K : PySem.W.Frag} {mg : Str → Option Value} {base : Heap}
def p_least_rows : FS := (sSeq (sSet 3 (mS m_least_first (mCons (mVar 0) (mCons (mVar 1) (mCons (mVar 2) mNil)))))
    (sRet (mTup (mCons (mVar 3) (mCons (mS m_least_second (mCons (mVar 0) (mCons (mVar 1) (mCons (mVar 3) (mCons (m2 gIxL (mVar 2) (mC (.int 0))) mNil))))) mNil)))))
def m_least_rows : List D → Option D := mRun 3 4 p_least_rows
theorem ok_least_rows (T : Env K mg) : FnOk P w K mg base CX0 4 T.f_least_rows T.d_least_rows ["moves", "start", "levels"] (spD (cls T) true m_least_rows) := fn_ok T.F_least_rows sc_least_rows 3 4 rfl rfl fun cdv A outer s H E hr => by
  refine ⟨_, (pss_cons (ps_set (i := 3) sc_least_rows.nd rfl (Or.inl rfl) (pe_call (ok_least_first T) (hr.mono (by decide)) rfl T.m_least_first T.F_least_first.kp T.b_least_first .nil pass0 (pa_cons (pv 0) (pa_cons (pv 1) (pa_cons (pv 2) pa_nil)))))
    (pss_one (ps_ret (pe_tup (pa_cons (pv 3) (pa_cons (pe_call (ok_least_second T) (hr.mono (by decide)) rfl T.m_least_second T.F_least_second.kp T.b_least_second .nil pass0 (pa_cons (pv 0) (pa_cons (pv 1) (pa_cons (pv 3) (pa_cons (pe_ix (r := rIxL K) ix_list (pv 2) pe_int (fun _ _ => rfl)) pa_nil))))) pa_nil)))))), ?_⟩
  unfold p_least_rows
  exact (ds_seq (ds_set 3 (de_call (by decide) (da_cons (de_var 0) (da_cons (de_var 1) (da_cons (de_var 2) da_nil))))) (ds_ret (de_tup (da_cons (de_var 3) (da_cons (de_call (by decide) (da_cons (de_var 0) (da_cons (de_var 1) (da_cons (de_var 3) (da_cons (de_op rd_ixL (de_var 2) (de_int 0)) da_nil))))) da_nil)))))
end
end Wl
namespace Wl
open PySem L2 Wb Wd
section
variable {P : Program} {w : World} {K : PySem.W.Frag} {mg : Str → Option Value} {base : Heap}
def p_Writer_table : FS := (sRet (m1 (gFld 6 "_table") (mVar 0)))
def m_Writer_table : List D → Option D := mRun 1 1 p_Writer_table
theorem ok_Writer_table (T : Env K mg) : FnOk P w K mg base CX0 1 T.f_Writer_table T.d_Writer_table ["self"] (spD (cls T) false m_Writer_table) := fn_ok T.F_Writer_table sc_Writer_table 1 1 rfl rfl fun cdv A outer s H E hr => by
  refine ⟨_, (pss_one (ps_ret (pe_fld (pv 0) rfl))), ?_⟩
  unfold p_Writer_table
  exact (ds_ret (de_fld (c := 6) T.cl_Writer T.no_Writer_table (de_var 0)))
end
end Wl
namespace Wl
open PySem L2 Wb Wd
section
variable {P : Program} {w : World} {K : PySem.W.Frag} {mg : Str → Option Value} {base : Heap}
def p_word : FS := (sSeq (sSet 1 (mS m_pair_leads (mCons (m1 (gProp 6 m_Writer_table) (mVar 0)) mNil)))
    (sSeq (sIf (mB (m2 (gIsN true) (mS m_rank_pairs (mCons (mVar 1) mNil)) (mC .non))) (sRet (mC (.str "soon"))) sNx)
    (sSeq (sIf (mB (mS gAny (mCons (mLock 1 (mLc (mKeys 1) (bTup 2 (bCons (bName 2) (bCons (bName 3) bNil))) mYes (m2 (gEq false) (mVar 2) (mVar 3)) [2, 3])) mNil))) (sRet (mC (.str "lost"))) sNx)
    (sRet (mC (.str "last"))))))
def m_word : List D → Option D := mRun 1 4 p_word
theorem ok_word (T : Env K mg) : FnOk P w K mg base CX0 5 T.f_word T.d_word ["writer"] (spD (cls T) true m_word) := fn_ok T.F_word sc_word 1 4 rfl rfl fun cdv A outer s H E hr => by
  refine ⟨_, (pss_cons (ps_set (i := 1) sc_word.nd rfl (Or.inl rfl) (pe_call (ok_pair_leads T) (hr.mono (by decide)) rfl T.m_pair_leads T.F_pair_leads.kp T.b_pair_leads .nil pass0 (pa_cons (pe_prop (pv 0) T.cl_Writer T.pr_Writer_table (ok_Writer_table T) (hr.mono (by decide)) T.b_Writer_table .nil pass0 rfl) pa_nil)))
    (pss_cons (ps_if (pt_cmpR op_notN (pe_call (ok_rank_pairs T) (hr.mono (by decide)) rfl T.m_rank_pairs T.F_rank_pairs.kp T.b_rank_pairs .nil pass0 (pa_cons (pv 1) pa_nil)) pe_non (nomark _))
      (pss_one (ps_ret pe_str))
      pss_nil)
    (pss_cons (ps_if (pt_val (pe_callB (r := rAny K) (cr_any rfl) (by rfl) T.z_any (by decide +kernel) (pa_cons (pe_lock (pe_lc (own := [("one", 2), ("other", 3)]) (g := gTup K 2 (gCons (gName 2) (gCons (gName 3) gNil))) rfl sc_word.nd (pi_keys (pv 1)) (blkOk_by (own := [("one", 2), ("other", 3)]) (N := n_word) (sc := defScope s_word) (by decide +kernel)) (fun _ _ _ _ _ => (pg_tup rfl (pgs_cons (pg_name (i := 2) sc_word.nd rfl (Or.inl rfl)) (pgs_cons (pg_name (i := 3) sc_word.nd rfl (Or.inl rfl)) pgs_nil)))) (fun _ _ _ _ _ => pts_nil) (fun _ _ _ _ _ => (pe_cmpR op_eq (pv 2) (pv 3) (nomark _))))) pa_nil)))
      (pss_one (ps_ret pe_str))
      pss_nil)
    (pss_one (ps_ret pe_str))))), ?_⟩
  unfold p_word
  exact (ds_seq (ds_set 1 (de_call (by decide) (da_cons (de_prop (c := 6) (by decide) (de_var 0)) da_nil))) (ds_seq (ds_if (dt_test (de_op rd_notN (de_call (by decide) (da_cons (de_var 1) da_nil)) de_non)) (ds_ret (de_str "soon")) ds_nil) (ds_seq (ds_if (dt_B (de_cb rd_any (da_cons (de_lockE 1 (de_df (df_lc (DI.e (di_keys 1)) (dg_tup (dgs_cons (dg_name 2 (by decide)) (dgs_cons (dg_name 3 (by decide)) dgs_nil))) dt_yes (de_op rd_eq (de_var 2) (de_var 3))))) da_nil))) (ds_ret (de_str "lost")) ds_nil) (ds_ret (de_str "last")))))
end
end Wl
namespace Wl
open PySem L2 Wb Wd
section
variable {P : Program} {w : World} {K : PySem.W.Frag} {mg : Str → Option Value} {base : Heap}
def p_leads_down : FS := (sRet (mS gAll (mCons (mLc (mItL (mS m_pairs_behind (mCons (mVar 0) (mCons (mVar 1) mNil)))) (bName 3) mYes (mAndV (m2 (gDIn false) (mVar 3) (mVar 2)) (m2 gLt (m2 gGet (mVar 2) (mVar 3)) (m2 gGet (mVar 2) (mVar 1)))) [3]) mNil)))
def m_leads_down : List D → Option D := mRun 3 4 p_leads_down
theorem ok_leads_down (T : Env K mg) : FnOk P w K mg base CX0 3 T.f_leads_down T.d_leads_down ["table", "pair", "told"] (spD (cls T) false m_leads_down) := fn_ok T.F_leads_down sc_leads_down 3 4 rfl rfl fun cdv A outer s H E hr => by
  refine ⟨_, (pss_one (ps_ret (pe_callB (r := rAll K) (cr_all rfl) (by rfl) T.z_all (by decide +kernel) (pa_cons (pe_lc (own := [("behind", 3)]) (g := gName 3) rfl sc_leads_down.nd (pi_list (pe_call (ok_pairs_behind T) (hr.mono (by decide)) rfl T.m_pairs_behind T.F_pairs_behind.kp T.b_pairs_behind .nil pass0 (pa_cons (pv 0) (pa_cons (pv 1) pa_nil)))) (blkOk_by (own := [("behind", 3)]) (N := n_leads_down) (sc := defScope s_leads_down) (by decide +kernel)) (fun _ _ _ _ _ => (pg_name (i := 3) sc_leads_down.nd rfl (Or.inl rfl))) (fun _ _ _ _ _ => pts_nil) (fun _ _ _ _ _ => (pe_and (pe_cmp (pc_din (un1 hr) (pv 3) (pv 2)) (by rfl)) (pe_one (pe_cmpR op_lt (pe_dget (un1 hr) (pv 2) (pv 3) (fun _ _ => rfl)) (pe_dget (un1 hr) (pv 2) (pv 1) (fun _ _ => rfl)) (nomark _)))))) pa_nil)))), ?_⟩
  unfold p_leads_down
  exact (ds_ret (de_cb rd_all (da_cons (de_df (df_lc (DI.e (di_list (de_call (by decide) (da_cons (de_var 0) (da_cons (de_var 1) da_nil))))) (dg_name 3 (by decide)) dt_yes (de_andV (de_din (de_var 3) (de_var 2)) (de_op rd_lt (de_dget (de_var 2) (de_var 3)) (de_dget (de_var 2) (de_var 1)))))) da_nil)))
end
end Wl
namespace Wl
open PySem L2 Wb Wd
section
variable {P : Program} {w : World} {K : PySem.W.Frag} {mg : Str → Option Value} {base : Heap}
def p_is_ranked_pair : FS := (sSeq (sIf (mOr (mNot (mB (mS m_is_tuple_of (mCons (mVar 0) (mCons (mC (.int 2)) (mCons (mC (.int 2)) mNil)))))) (mNot (mB (mS m_is_tuple_of (mCons (m2 gIx (mVar 0) (mC (.int 0))) (mCons (mC (.int 2)) (mCons (mC (.int 2)) mNil))))))) (sRet (mC (.bl false))) sNx)
    (sSeq (sBind (bTup 2 (bCons (bName 3) (bCons (bName 4) bNil))) (m2 gIx (mVar 0) (mC (.int 0))))
    (sSeq (sIf (mOr (mNot (mB (mS m_is_between (mCons (mVar 4) (mCons (mC (.int 0)) (mCons (m2 gSub (mVar 1) (mC (.int 1))) mNil)))))) (mNot (mB (mS m_is_between (mCons (mVar 3) (mCons (mC (.int 0)) (mCons (mVar 4) mNil))))))) (sRet (mC (.bl false))) sNx)
    (sRet (mS m_is_between (mCons (m2 gIx (mVar 0) (mC (.int 1))) (mCons (mC (.int 0)) (mCons (m2 gSub (mVar 2) (mC (.int 1))) mNil))))))))
def m_is_ranked_pair : List D → Option D := mRun 3 5 p_is_ranked_pair
theorem ok_is_ranked_pair (T : Env K mg) : FnOk P w K mg base CX0 2 T.f_is_ranked_pair T.d_is_ranked_pair ["value", "stands", "bound"] (spD (cls T) false m_is_ranked_pair) := fn_ok T.F_is_ranked_pair sc_is_ranked_pair 3 5 rfl rfl fun cdv A outer s H E hr => by
  refine ⟨_, (pss_cons (ps_if (PW.pt (pw_or (pt_not (pt_val (pe_call (ok_is_tuple_of T) (hr.mono (by decide)) rfl T.m_is_tuple_of T.F_is_tuple_of.kp T.b_is_tuple_of .nil pass0 (pa_cons (pv 0) (pa_cons pe_int (pa_cons pe_int pa_nil)))))) (pw_or1 (pt_not (pt_val (pe_call (ok_is_tuple_of T) (hr.mono (by decide)) rfl T.m_is_tuple_of T.F_is_tuple_of.kp T.b_is_tuple_of .nil pass0 (pa_cons (pe_ix (r := rIx K) ix_seq (pv 0) pe_int (fun _ _ => rfl)) (pa_cons pe_int (pa_cons pe_int pa_nil)))))))))
      (pss_one (ps_ret pe_bl))
      pss_nil)
    (pss_cons (ps_asg (pe_ix (r := rIx K) ix_seq (pv 0) pe_int (fun _ _ => rfl)) (pg_tup rfl (pgs_cons (pg_name (i := 3) sc_is_ranked_pair.nd rfl (Or.inl rfl)) (pgs_cons (pg_name (i := 4) sc_is_ranked_pair.nd rfl (Or.inl rfl)) pgs_nil))))
    (pss_cons (ps_if (PW.pt (pw_or (pt_not (pt_val (pe_call (ok_is_between T) (hr.mono (by decide)) rfl T.m_is_between T.F_is_between.kp T.b_is_between .nil pass0 (pa_cons (pv 4) (pa_cons pe_int (pa_cons (pe_op op_sub (pv 1) pe_int) pa_nil)))))) (pw_or1 (pt_not (pt_val (pe_call (ok_is_between T) (hr.mono (by decide)) rfl T.m_is_between T.F_is_between.kp T.b_is_between .nil pass0 (pa_cons (pv 3) (pa_cons pe_int (pa_cons (pv 4) pa_nil)))))))))
      (pss_one (ps_ret pe_bl))
      pss_nil)
    (pss_one (ps_ret (pe_call (ok_is_between T) (hr.mono (by decide)) rfl T.m_is_between T.F_is_between.kp T.b_is_between .nil pass0 (pa_cons (pe_ix (r := rIx K) ix_seq (pv 0) pe_int (fun _ _ => rfl)) (pa_cons pe_int (pa_cons (pe_op op_sub (pv 2) pe_int) pa_nil))))))))), ?_⟩
  unfold p_is_ranked_pair
  exact (ds_seq (ds_if (dt_or (dt_not (dt_B (de_call (by decide) (da_cons (de_var 0) (da_cons (de_int 2) (da_cons (de_int 2) da_nil)))))) (dt_not (dt_B (de_call (by decide) (da_cons (de_op rd_ix (de_var 0) (de_int 0)) (da_cons (de_int 2) (da_cons (de_int 2) da_nil))))))) (ds_ret (de_bl false)) ds_nil) (ds_seq (ds_bind (vs := [3, 4]) (dg_tup (dgs_cons (dg_name 3 (by decide)) (dgs_cons (dg_name 4 (by decide)) dgs_nil))) (de_op rd_ix (de_var 0) (de_int 0))) (ds_seq (ds_if (dt_or (dt_not (dt_B (de_call (by decide) (da_cons (de_var 4) (da_cons (de_int 0) (da_cons (de_op rd_sub (de_var 1) (de_int 1)) da_nil)))))) (dt_not (dt_B (de_call (by decide) (da_cons (de_var 3) (da_cons (de_int 0) (da_cons (de_var 4) da_nil))))))) (ds_ret (de_bl false)) ds_nil) (ds_ret (de_call (by decide) (da_cons (de_op rd_ix (de_var 0) (de_int 1)) (da_cons (de_int 0) (da_cons (de_op rd_sub (de_var 2) (de_int 1)) da_nil))))))))
end
end Wl
namespace Wl
open PySem L2 Wb Wd
section
variable {P : Program} {w : World} {K : PySem.W.Frag} {mg : Str → Option Value} {base : Heap}
def p_told_ranks : FS := (sSeq (sIf (mNot (mB (mIsi2 "list" "tuple" (mVar 0)))) (sRet (mC .non)) sNx)
    (sSeq (sOwn 3 (mC (.dic true [] [])))
    (sSeq (sFor (mItS (mVar 0)) (bName 4) (sSeq (sIf (mThaw (mOr (mNot (mB (mS m_is_ranked_pair (mCons (mVar 4) (mCons (mVar 1) (mCons (mVar 2) mNil)))))) (mB (m2 (gDIn false) (m2 gIx (mVar 4) (mC (.int 0))) (mVar 3))))) (sRet (mC .non)) sNx)
    (sPut 3 (m2 gIx (mVar 4) (mC (.int 0))) (m2 gIx (mVar 4) (mC (.int 1))))))
    (sRet (mVar 3)))))
def m_told_ranks : List D → Option D := mRun 3 5 p_told_ranks
theorem ok_told_ranks (T : Env K mg) : FnOk P w K mg base CX0 3 T.f_told_ranks T.d_told_ranks ["value", "stands", "bound"] (spD (cls T) false m_told_ranks) := fn_ok T.F_told_ranks sc_told_ranks 3 5 rfl rfl fun cdv A outer s H E hr => by
  refine ⟨_, (pss_cons (ps_if (pt_not (pt_val (pe_callB (r := rIsiT K) call_isiT (by rfl) T.z_isinstance (by decide +kernel) (pa_cons (pv 0) (pa_cons (pe_tup (pa_cons (pe_bltn (v := .ty "list") (u := .type "list") (by rfl) T.z_list (by decide +kernel) rfl) (pa_cons (pe_bltn (v := .ty "tuple") (u := .type "tuple") (by rfl) T.z_tuple (by decide +kernel) rfl) pa_nil))) pa_nil)))))
      (pss_one (ps_ret pe_non))
      pss_nil)
    (pss_cons (ps_set (i := 3) sc_told_ranks.nd rfl (Or.inl rfl) pe_dnewT)
    (pss_cons (ps_for PassesOwn.never rfl (pi_seq (pv 0)) (pg_name (i := 4) sc_told_ranks.nd rfl (Or.inl rfl))
      (pss_cons (ps_if (PW.pt (pw_or (pt_not (pt_val (pe_call (ok_is_ranked_pair T) (hr.mono (by decide)) rfl T.m_is_ranked_pair T.F_is_ranked_pair.kp T.b_is_ranked_pair .nil pass0 (pa_cons (pv 4) (pa_cons (pv 1) (pa_cons (pv 2) pa_nil)))))) (pw_or1 (pt_cmp (pc_din (un1 hr) (pe_ix (r := rIx K) ix_seq (pv 4) pe_int (fun _ _ => rfl)) (pv 3)) (by rfl)))))
        (pss_one (ps_ret pe_non))
        pss_nil)
      (pss_one (ps_dput (un1 hr) (pv 3) (pe_ix (r := rIx K) ix_seq (pv 4) pe_int (fun _ _ => rfl)) (pe_ix (r := rIx K) ix_seq (pv 4) pe_int (fun _ _ => rfl)) (by rfl)))))
    (pss_one (ps_ret (pv 3)))))), ?_⟩
  unfold p_told_ranks
  exact (ds_seq (ds_if (dt_not (dt_B (de_isi2 (by simp) (by simp) (de_var 0)))) (ds_ret de_non) ds_nil) (ds_seq (ds_own 3 df_dT) (ds_seq (ds_for (vs := [4]) (di_seq (de_var 0)) (dg_name 4 (by decide)) (ds_seq (ds_if (dt_thaw (dt_or (dt_not (dt_B (de_call (by decide) (da_cons (de_var 4) (da_cons (de_var 1) (da_cons (de_var 2) da_nil)))))) (dt_B (de_din (de_op rd_ix (de_var 4) (de_int 0)) (de_var 3))))) (ds_ret de_non) ds_nil) (ds_put 3 (de_op rd_ix (de_var 4) (de_int 0)) (de_op rd_ix (de_var 4) (de_int 1))))) (ds_ret (de_var 3)))))
end
end Wl
namespace Wl
open PySem L2 Wb Wd
section
variable {P : Program} {w : World} {K : PySem.W.Frag} {mg : Str → Option Value} {base : Heap}
def p_shows : FSF := (fSeq (fDropCall m_check_size (mCons (mVar 1) (mCons (mC (.int 0)) (mCons (mC (.int 60)) mNil))))
    (fSeq (fL (sSet 3 (mS m_told_ranks (mCons (mVar 2) (mCons (m1 (gOwnLen 6 m_Writer_len) (mVar 0)) (mCons (mVar 1) mNil))))))
    (fSeq (fL (sIf (mB (m2 (gIsN false) (mVar 3) (mC .non))) (sRet (mC (.bl false))) sNx))
    (fSeq (fL (sIf (mNot (mB (mS gAll (mCons (mLc (mItL (mS m_first_pairs (mCons (m1 (gProp 6 m_Writer_table) (mVar 0)) mNil))) (bName 4) mYes (m2 (gDIn false) (mVar 4) (mVar 3)) [4]) mNil)))) (sRet (mC (.bl false))) sNx))
    (fL (sRet (mS gAll (mCons (mLock 3 (mLc (mKeys 3) (bName 4) mYes (mS m_leads_down (mCons (m1 (gProp 6 m_Writer_table) (mVar 0)) (mCons (mVar 4) (mCons (mVar 3) mNil)))) [4])) mNil))))))))
def m_shows : List D → Option (RX ⊕ D) := mRunF 3 5 p_shows
theorem ok_shows (T : Env K mg) : FnOk P w K mg base (L2N.CX P w) 4 T.f_shows T.d_shows ["writer", "bound", "value"] (spDF (cls T) true "index" (exV T) m_shows) := fnf_okN T.F_shows sc_shows 3 5 rfl rfl fun cdv A outer s H E hr => by
  refine ⟨_, (pss_cons (ps_expr (pe_callS (ok_check_size T) (hr.mono (by decide)) rfl T.m_check_size T.F_check_size.kp T.b_check_size (fun σ => L2N.passAt (L2N.takes_of rfl rfl rfl rfl) σ) (pa_cons (pv 1) (pa_cons pe_int (pa_cons (pe_glob (v := .int 60) rfl T.m_LONGEST ⟨_, rfl⟩) pa_nil)))))
    (pss_cons (ps_set (i := 3) sc_shows.nd rfl (Or.inr rfl) (pe_call (ok_told_ranks T) (hr.mono (by decide)) rfl T.m_told_ranks T.F_told_ranks.kp T.b_told_ranks .nil pass0 (pa_cons (pv 2) (pa_cons (pe_callB (call_ownLen (ok_Writer_len T) (hr.mono (by decide)) T.at_Writer_len T.fn_Writer_len T.b_Writer_len) (by rfl) T.z_len (by decide +kernel) (pa_cons (pv 0) pa_nil)) (pa_cons (pv 1) pa_nil)))))
    (pss_cons (ps_if (pt_cmpR op_isN (pv 3) pe_non (nomark _))
      (pss_one (ps_ret pe_bl))
      pss_nil)
    (pss_cons (ps_if (pt_not (pt_val (pe_callB (r := rAll K) (cr_all rfl) (by rfl) T.z_all (by decide +kernel) (pa_cons (pe_lc (own := [("pair", 4)]) (g := gName 4) rfl sc_shows.nd (pi_list (pe_call (ok_first_pairs T) (hr.mono (by decide)) rfl T.m_first_pairs T.F_first_pairs.kp T.b_first_pairs .nil pass0 (pa_cons (pe_prop (pv 0) T.cl_Writer T.pr_Writer_table (ok_Writer_table T) (hr.mono (by decide)) T.b_Writer_table .nil pass0 rfl) pa_nil))) (blkOk_by (own := [("pair", 4)]) (N := n_shows) (sc := defScope s_shows) (by decide +kernel)) (fun _ _ _ _ _ => (pg_name (i := 4) sc_shows.nd rfl (Or.inl rfl))) (fun _ _ _ _ _ => pts_nil) (fun _ _ _ _ _ => (pe_cmp (pc_din (un1 hr) (pv 4) (pv 3)) (by rfl)))) pa_nil))))
      (pss_one (ps_ret pe_bl))
      pss_nil)
    (pss_one (ps_ret (pe_callB (r := rAll K) (cr_all rfl) (by rfl) T.z_all (by decide +kernel) (pa_cons (pe_lock (pe_lc (own := [("pair", 4)]) (g := gName 4) rfl sc_shows.nd (pi_keys (pv 3)) (blkOk_by (own := [("pair", 4)]) (N := n_shows) (sc := defScope s_shows) (by decide +kernel)) (fun _ _ _ _ _ => (pg_name (i := 4) sc_shows.nd rfl (Or.inl rfl))) (fun _ _ _ _ _ => pts_nil) (fun _ _ _ _ _ => (pe_call (ok_leads_down T) (hr.mono (by decide)) rfl T.m_leads_down T.F_leads_down.kp T.b_leads_down .nil pass0 (pa_cons (pe_prop (pv 0) T.cl_Writer T.pr_Writer_table (ok_Writer_table T) (hr.mono (by decide)) T.b_Writer_table .nil pass0 rfl) (pa_cons (pv 4) (pa_cons (pv 3) pa_nil))))))) pa_nil)))))))), ?_⟩
  unfold p_shows
  exact (dsf_seq (dsf_dropcall (by decide) (da_cons (de_var 1) (da_cons (de_int 0) (da_cons (de_int 60) da_nil)))) (dsf_seq (dsf_l (ds_set 3 (de_call (by decide) (da_cons (de_var 2) (da_cons (de_ownLen (c := 6) (by decide) (de_var 0)) (da_cons (de_var 1) da_nil)))))) (dsf_seq (dsf_l (ds_if (dt_test (de_op rd_isN (de_var 3) de_non)) (ds_ret (de_bl false)) ds_nil)) (dsf_seq (dsf_l (ds_if (dt_not (dt_B (de_cb rd_all (da_cons (de_df (df_lc (DI.e (di_list (de_call (by decide) (da_cons (de_prop (c := 6) (by decide) (de_var 0)) da_nil)))) (dg_name 4 (by decide)) dt_yes (de_din (de_var 4) (de_var 3)))) da_nil)))) (ds_ret (de_bl false)) ds_nil)) (dsf_l (ds_ret (de_cb rd_all (da_cons (de_lockE 3 (de_df (df_lc (DI.e (di_keys 3)) (dg_name 4 (by decide)) dt_yes (de_call (by decide) (da_cons (de_prop (c := 6) (by decide) (de_var 0)) (da_cons (de_var 4) (da_cons (de_var 3) da_nil))))))) da_nil))))))))
end
end Wl
namespace Wl
open PySem L2 Wb Wd
section
variable {P : Program} {w : World} {K : PySem.W.Frag} {mg : Str → Option Value} {base : Heap}
def p_alike : FSF := (fSeq (fDropCall m_check_stand (mCons (mVar 0) (mCons (mVar 1) mNil)))
    (fSeq (fDropCall m_check_size (mCons (mVar 2) (mCons (mC (.int 1)) (mCons (mC (.int 60)) mNil))))
    (fSeq (fL (sSet 3 (mTup (mCons (mVar 1) (mCons (mVar 1) (mCons (mC (.int 0)) mNil))))))
    (fSeq (fL (sSet 4 (mS m_moves_from (mCons (m1 (gProp 6 m_Writer_table) (mVar 0)) (mCons (mVar 3) mNil)))))
    (fSeq (fL (sOwn 5 (mLst (mCons (mLock 4 (mDc true (mKeys 4) (bName 6) mYes (mVar 6) (mC (.bl true)) [6])) mNil))))
    (fSeq (fL (sFor (mRng1 (mCons (mVar 2) mNil)) (bName 7) (sApp 5 (mS m_states_before (mCons (mVar 4) (mCons (mOwnIx 5 (m1 (fun d => (unI d).bind fun i => some (.int (-i))) (mC (.int 1)))) mNil))))))
    (fSeq (fL (sIf (mThaw (mB (m2 (gDIn true) (mVar 3) (m2 gIxL (mVar 5) (m1 (fun d => (unI d).bind fun i => some (.int (-i))) (mC (.int 1))))))) (sRet (mC .non)) sNx))
    (fL (sRet (mS m_least_rows (mCons (mVar 4) (mCons (mVar 3) (mCons (mVar 5) mNil)))))))))))))
def m_alike : List D → Option (RX ⊕ D) := mRunF 3 8 p_alike
theorem ok_alike (T : Env K mg) : FnOk P w K mg base (L2N.CX P w) 5 T.f_alike T.d_alike ["writer", "stand", "many"] (spDF (cls T) true "index" (exV T) m_alike) := fnf_okN T.F_alike sc_alike 3 8 rfl rfl fun cdv A outer s H E hr => by
  refine ⟨_, (pss_cons (ps_expr (pe_callS (ok_check_stand T) (hr.mono (by decide)) rfl T.m_check_stand T.F_check_stand.kp T.b_check_stand (fun σ => L2N.passAt (L2N.takes_of rfl rfl rfl rfl) σ) (pa_cons (pv 0) (pa_cons (pv 1) pa_nil))))
    (pss_cons (ps_expr (pe_callS (ok_check_size T) (hr.mono (by decide)) rfl T.m_check_size T.F_check_size.kp T.b_check_size (fun σ => L2N.passAt (L2N.takes_of rfl rfl rfl rfl) σ) (pa_cons (pv 2) (pa_cons pe_int (pa_cons (pe_glob (v := .int 60) rfl T.m_LONGEST ⟨_, rfl⟩) pa_nil)))))
    (pss_cons (ps_set (i := 3) sc_alike.nd rfl (Or.inl rfl) (pe_tup (pa_cons (pv 1) (pa_cons (pv 1) (pa_cons (pe_glob (v := .int 0) rfl T.m_PARTING ⟨_, rfl⟩) pa_nil)))))
    (pss_cons (ps_set (i := 4) sc_alike.nd rfl (Or.inl rfl) (pe_call (ok_moves_from T) (hr.mono (by decide)) rfl T.m_moves_from T.F_moves_from.kp T.b_moves_from .nil pass0 (pa_cons (pe_prop (pv 0) T.cl_Writer T.pr_Writer_table (ok_Writer_table T) (hr.mono (by decide)) T.b_Writer_table .nil pass0 rfl) (pa_cons (pv 3) pa_nil))))
    (pss_cons (ps_set (i := 5) sc_alike.nd rfl (Or.inl rfl) (pe_lst (pa_cons (pe_lock (pe_dcT (own := [("state", 6)]) (g := gName 6) rfl hr.units sc_alike.nd (pi_keys (pv 4)) (blkOk_by (own := [("state", 6)]) (N := n_alike) (sc := defScope s_alike) (by decide +kernel)) (fun _ _ _ _ _ => (pg_name (i := 6) sc_alike.nd rfl (Or.inl rfl))) (fun _ _ _ _ _ => pts_nil) (fun _ _ _ _ _ => (pv 6)) (fun _ _ _ _ _ => pe_bl))) pa_nil)))
    (pss_cons (ps_for (passes_of rfl) rfl (pi_range1 rfl T.z_range (pa_cons (pv 2) pa_nil)) (pg_name (i := 7) sc_alike.nd rfl (Or.inl rfl))
      (pss_one (ps_expr (pe_bm PySem.F.plainAttrs_list PySem.F.slot_list_append PySem.F.type_list_append mt_append (pv 5) (pa_cons (pe_call (ok_states_before T) (hr.mono (by decide)) rfl T.m_states_before T.F_states_before.kp T.b_states_before .nil pass0 (pa_cons (pv 4) (pa_cons (pe_ix (r := rIxL K) ix_list (pv 5) (pe_un un_neg pe_int) (fun _ _ => rfl)) pa_nil))) pa_nil)))))
    (pss_cons (ps_if (pt_cmp (pc_dnotin (un1 hr) (pv 3) (pe_ix (r := rIxL K) ix_list (pv 5) (pe_un un_neg pe_int) (fun _ _ => rfl))) (by rfl))
      (pss_one (ps_ret pe_non))
      pss_nil)
    (pss_one (ps_ret (pe_call (ok_least_rows T) (hr.mono (by decide)) rfl T.m_least_rows T.F_least_rows.kp T.b_least_rows .nil pass0 (pa_cons (pv 4) (pa_cons (pv 3) (pa_cons (pv 5) pa_nil))))))))))))), ?_⟩
  unfold p_alike
  exact (dsf_seq (dsf_dropcall (by decide) (da_cons (de_var 0) (da_cons (de_var 1) da_nil))) (dsf_seq (dsf_dropcall (by decide) (da_cons (de_var 2) (da_cons (de_int 1) (da_cons (de_int 60) da_nil)))) (dsf_seq (dsf_l (ds_set 3 (de_tup (da_cons (de_var 1) (da_cons (de_var 1) (da_cons (de_int 0) da_nil)))))) (dsf_seq (dsf_l (ds_set 4 (de_call (by decide) (da_cons (de_prop (c := 6) (by decide) (de_var 0)) (da_cons (de_var 3) da_nil))))) (dsf_seq (dsf_l (ds_own 5 (df_lst (da_cons (de_lockE 4 (de_df (df_dcT (DI.e (di_keys 4)) (dg_name 6 (by decide)) dt_yes (de_var 6) (de_bl true)))) da_nil)))) (dsf_seq (dsf_l (ds_for (vs := [7]) (di_rng1 (da_cons (de_var 2) da_nil)) (dg_name 7 (by decide)) (ds_app 5 (de_call (by decide) (da_cons (de_var 4) (da_cons (de_ixOwnL 5 (de_un rd_neg (de_int 1))) da_nil)))))) (dsf_seq (dsf_l (ds_if (dt_thaw (dt_B (de_dnotin (de_var 3) (de_op rd_ixL (de_var 5) (de_un rd_neg (de_int 1)))))) (ds_ret de_non) ds_nil)) (dsf_l (ds_ret (de_call (by decide) (da_cons (de_var 4) (da_cons (de_var 3) (da_cons (de_var 5) da_nil)))))))))))))
end
end Wl
namespace Wl
open PySem L2 Wb Wd
section
variable {P : Program} {w : World} {K : PySem.W.Frag} {mg : Str → Option Value} {base : Heap}
def p_count_behind : FS := (sSeq (sOwn 3 (mC (.dic false [] [])))
    (sSeq (sLock 1 (sFor (mKeys 1) (bName 4) (sFor (mItT (m2 gIxT (mVar 0) (mVar 4))) (bName 5) (sIf (mB (m2 (gEq false) (m2 gIxT (mVar 5) (mC (.int 1))) (mVar 2))) (sPut 3 (m2 gIxT (mVar 5) (mC (.int 0))) (mFlat (m2 gAdd (mGet2 (mVar 3) (m2 gIxT (mVar 5) (mC (.int 0))) (mC (.int 0))) (m2 gGet (mVar 1) (mVar 4))))) sNx))))
    (sRet (mVar 3))))
def m_count_behind : List D → Option D := mRun 3 6 p_count_behind
theorem ok_count_behind (T : Env K mg) : FnOk P w K mg base CX0 1 T.f_count_behind T.d_count_behind ["table", "counts", "wrote"] (spD (cls T) true m_count_behind) := fn_ok T.F_count_behind sc_count_behind 3 6 rfl rfl fun cdv A outer s H E hr => by
  refine ⟨_, (pss_cons (ps_set (i := 3) sc_count_behind.nd rfl (Or.inl rfl) pe_dnewK)
    (pss_cons (ps_lock (ps_for PassesOwn.never rfl (pi_keys (pv 1)) (pg_name (i := 4) sc_count_behind.nd rfl (Or.inl rfl))
      (pss_one (ps_for PassesOwn.never rfl (pi_tup (pe_ix (r := rIxT K) ix_tup (pv 0) (pv 4) (fun _ _ => rfl))) (pg_name (i := 5) sc_count_behind.nd rfl (Or.inl rfl))
        (pss_one (ps_if (pt_cmpR op_eq (pe_ix (r := rIxT K) ix_tup (pv 5) pe_int (fun _ _ => rfl)) (pv 2) (nomark _))
          (pss_one (ps_dput (un1 hr) (pv 3) (pe_ix (r := rIxT K) ix_tup (pv 5) pe_int (fun _ _ => rfl)) (pe_op op_add (pe_dget2 (un1 hr) (pv 3) (pe_ix (r := rIxT K) ix_tup (pv 5) pe_int (fun _ _ => rfl)) pe_int ⟨rfl, rfl, rfl, rfl⟩) (pe_dget (un1 hr) (pv 1) (pv 4) (fun _ _ => rfl))) (by rfl)))
          pss_nil))))))
    (pss_one (ps_ret (pv 3))))), ?_⟩
  unfold p_count_behind
  exact (ds_seq (ds_own 3 df_dK) (ds_seq (ds_lock 1 (ds_for (vs := [4]) (di_keys 1) (dg_name 4 (by decide)) (ds_for (vs := [5]) (di_tup (de_op rd_ixT (de_var 0) (de_var 4))) (dg_name 5 (by decide)) (ds_if (dt_test (de_op rd_eq (de_op rd_ixT (de_var 5) (de_int 1)) (de_var 2))) (ds_put 3 (de_op rd_ixT (de_var 5) (de_int 0)) (de_flat (de_op rd_add (de_dget2 (de_var 3) (de_op rd_ixT (de_var 5) (de_int 0)) (de_int 0)) (de_dget (de_var 1) (de_var 4))))) ds_nil)))) (ds_ret (de_var 3))))
end
end Wl
namespace Wl
open PySem L2 Wb Wd
section
variable {P : Program} {w : World} {K : PySem.W.Frag} {mg : Str → Option Value} {base : Heap}
def p_count_ends : FS := (sSeq (sSet 3 (mDisp1 (mVar 1) (mC (.int 1))))
    (sSeq (sFor (mItT (mVar 2)) (bName 4) (sSet 3 (mS m_count_behind (mCons (mVar 0) (mCons (mVar 3) (mCons (mVar 4) mNil))))))
    (sRet (mVar 3))))
def m_count_ends : List D → Option D := mRun 3 5 p_count_ends
theorem ok_count_ends (T : Env K mg) : FnOk P w K mg base CX0 2 T.f_count_ends T.d_count_ends ["table", "stand", "written"] (spD (cls T) true m_count_ends) := fn_ok T.F_count_ends sc_count_ends 3 5 rfl rfl fun cdv A outer s H E hr => by
  refine ⟨_, (pss_cons (ps_set (i := 3) sc_count_ends.nd rfl (Or.inl rfl) (pe_disp (pps_cons (pv 1) pe_int pps_nil) rfl rfl (by decide) (by decide)))
    (pss_cons (ps_for PassesOwn.never rfl (pi_tup (pv 2)) (pg_name (i := 4) sc_count_ends.nd rfl (Or.inl rfl))
      (pss_one (ps_set (i := 3) sc_count_ends.nd rfl (Or.inl rfl) (pe_call (ok_count_behind T) (hr.mono (by decide)) rfl T.m_count_behind T.F_count_behind.kp T.b_count_behind .nil pass0 (pa_cons (pv 0) (pa_cons (pv 3) (pa_cons (pv 4) pa_nil)))))))
    (pss_one (ps_ret (pv 3))))), ?_⟩
  unfold p_count_ends
  exact (ds_seq (ds_set 3 (de_disp1 (de_var 1) (de_int 1))) (ds_seq (ds_for (vs := [4]) (di_tup (de_var 2)) (dg_name 4 (by decide)) (ds_set 3 (de_call (by decide) (da_cons (de_var 0) (da_cons (de_var 3) (da_cons (de_var 4) da_nil)))))) (ds_ret (de_var 3))))
end
end Wl
namespace Wl
open PySem L2 Wb Wd
section
variable {P : Program} {w : World} {K : PySem.W.Frag} {mg : Str → Option Value} {base : Heap}
def p_letters_into : FS := (sRet (mLc (mEnumT (mCons (mVar 0) mNil)) (bTup 2 (bCons (bName 3) (bCons (bName 4) bNil))) (mAnd (mB (m2 (gEq false) (m2 gIxT (mVar 4) (mC (.int 1))) (mVar 1))) (mB (m2 (gIn false) (m2 gIxT (mVar 4) (mC (.int 0))) (mVar 2)))) (mVar 3) [3, 4]))
def m_letters_into : List D → Option D := mRun 3 5 p_letters_into
theorem ok_letters_into (T : Env K mg) : FnOk P w K mg base CX0 1 T.f_letters_into T.d_letters_into ["row", "wrote", "ends"] (spD (cls T) false m_letters_into) := fn_ok T.F_letters_into sc_letters_into 3 5 rfl rfl fun cdv A outer s H E hr => by
  refine ⟨_, (pss_one (ps_ret (pe_lc (own := [("letter", 3), ("step", 4)]) (g := gTup K 2 (gCons (gName 3) (gCons (gName 4) gNil))) rfl sc_letters_into.nd (pi_enumT (by rfl) T.z_enumerate (pa_cons (pv 0) pa_nil)) (blkOk_by (own := [("letter", 3), ("step", 4)]) (N := n_letters_into) (sc := defScope s_letters_into) (by decide +kernel)) (fun _ _ _ _ _ => (pg_tup rfl (pgs_cons (pg_name (i := 3) sc_letters_into.nd rfl (Or.inl rfl)) (pgs_cons (pg_name (i := 4) sc_letters_into.nd rfl (Or.inl rfl)) pgs_nil)))) (fun _ _ _ _ _ => pts_one (PW.pt (pw_and (pt_cmpR op_eq (pe_ix (r := rIxT K) ix_tup (pv 4) pe_int (fun _ _ => rfl)) (pv 1) (nomark _)) (pw_and1 (pt_cmpR (r := rIn K false) op_in_seq (pe_ix (r := rIxT K) ix_tup (pv 4) pe_int (fun _ _ => rfl)) (pv 2) (by rfl)))))) (fun _ _ _ _ _ => (pv 3))))), ?_⟩
  unfold p_letters_into
  exact (ds_ret (de_df (df_lc (DI.e (di_enumT (da_cons (de_var 0) da_nil))) (dg_tup (dgs_cons (dg_name 3 (by decide)) (dgs_cons (dg_name 4 (by decide)) dgs_nil))) (dt_and (dt_test (de_op rd_eq (de_op rd_ixT (de_var 4) (de_int 1)) (de_var 1))) (dt_test (de_op rd_in (de_op rd_ixT (de_var 4) (de_int 0)) (de_var 2)))) (de_var 3))))
end
end Wl
namespace Wl
open PySem L2 Wb Wd
section
variable {P : Program} {w : World} {K : PySem.W.Frag} {mg : Str → Option Value} {base : Heap}
def p_levels_to : FS := (sSeq (sOwn 3 (mLst (mCons (mVar 2) mNil)))
    (sSeq (sFor (mRev (mVar 1)) (bName 4) (sApp 3 (mLc (mEnumT (mCons (mVar 0) mNil)) (bTup 2 (bCons (bName 5) (bCons (bName 6) bNil))) (mThaw (mTru (mS m_letters_into (mCons (mVar 6) (mCons (mVar 4) (mCons (m2 gIxL (mVar 3) (m1 (fun d => (unI d).bind fun i => some (.int (-i))) (mC (.int 1)))) mNil)))))) (mVar 5) [5, 6])))
    (sRet (m1 gRevL (mVar 3)))))
def m_levels_to : List D → Option D := mRun 3 7 p_levels_to
theorem ok_levels_to (T : Env K mg) : FnOk P w K mg base CX0 2 T.f_levels_to T.d_levels_to ["table", "written", "ends"] (spD (cls T) false m_levels_to) := fn_ok T.F_levels_to sc_levels_to 3 7 rfl rfl fun cdv A outer s H E hr => by
  refine ⟨_, (pss_cons (ps_set (i := 3) sc_levels_to.nd rfl (Or.inr rfl) (pe_lst (pa_cons (pv 2) pa_nil)))
    (pss_cons (ps_for PassesOwn.never rfl (RT.pi_revA rfl T.z_reversed (pv 1)) (pg_name (i := 4) sc_levels_to.nd rfl (Or.inr rfl))
      (pss_one (ps_expr (pe_bm PySem.F.plainAttrs_list PySem.F.slot_list_append PySem.F.type_list_append mt_append (pv 3) (pa_cons (pe_lc (own := [("stand", 5), ("row", 6)]) (g := gTup K 2 (gCons (gName 5) (gCons (gName 6) gNil))) rfl sc_levels_to.nd (pi_enumT (by rfl) T.z_enumerate (pa_cons (pv 0) pa_nil)) (blkOk_by (own := [("stand", 5), ("row", 6)]) (N := n_levels_to) (sc := defScope s_levels_to) (by decide +kernel)) (fun _ _ _ _ _ => (pg_tup rfl (pgs_cons (pg_name (i := 5) sc_levels_to.nd rfl (Or.inl rfl)) (pgs_cons (pg_name (i := 6) sc_levels_to.nd rfl (Or.inl rfl)) pgs_nil)))) (fun _ _ _ _ _ => pts_one (pt_truthK (K := K) rfl (pe_call (ok_letters_into T) (hr.mono (by decide)) rfl T.m_letters_into T.F_letters_into.kp T.b_letters_into .nil pass0 (pa_cons (pv 6) (pa_cons (pv 4) (pa_cons (pe_ix (r := rIxL K) ix_list (pv 3) (pe_un un_neg pe_int) (fun _ _ => rfl)) pa_nil)))) (by intro _; rfl))) (fun _ _ _ _ _ => (pv 5))) pa_nil)))))
    (pss_one (ps_ret (pe_revL (pv 3)))))), ?_⟩
  unfold p_levels_to
  exact (ds_seq (ds_own 3 (df_lst (da_cons (de_var 2) da_nil))) (ds_seq (ds_for (vs := [4]) (di_rev (de_var 1)) (dg_name 4 (by decide)) (ds_app 3 (de_df (df_lc (DI.e (di_enumT (da_cons (de_var 0) da_nil))) (dg_tup (dgs_cons (dg_name 5 (by decide)) (dgs_cons (dg_name 6 (by decide)) dgs_nil))) (dt_thaw (dt_tru (de_call (by decide) (da_cons (de_var 6) (da_cons (de_var 4) (da_cons (de_op rd_ixL (de_var 3) (de_un rd_neg (de_int 1))) da_nil)))))) (de_var 5))))) (ds_ret (de_revL (de_var 3)))))
end
end Wl
namespace Wl
open PySem L2 Wb Wd
section
variable {P : Program} {w : World} {K : PySem.W.Frag} {mg : Str → Option Value} {base : Heap}
def p_choices_along : FS := (sSeq (sSet 4 (mS m_levels_to (mCons (mVar 0) (mCons (mVar 2) (mCons (mVar 3) mNil)))))
    (sSeq (sIf (mB (m2 (gIn true) (mVar 1) (m2 gIxL (mVar 4) (mC (.int 0))))) (sRet (mC .non)) sNx)
    (sSeq (sOwn 5 (mLst mNil))
    (sSeq (sSet 6 (mVar 1))
    (sSeq (sFor (mZipW (mCons (mVar 2) (mCons (mSlL (mVar 4) (mPart (mC (.int 1))) mNoP) mNil))) (bTup 2 (bCons (bName 7) (bCons (bName 8) bNil))) (sSeq (sApp 5 (mS m_letters_into (mCons (m2 gIxT (mVar 0) (mVar 6)) (mCons (mVar 7) (mCons (mVar 8) mNil)))))
    (sSet 6 (mFlat (m2 gIxT (m2 gIxT (m2 gIxT (mVar 0) (mVar 6)) (m2 gIxL (m2 gIxL (mVar 5) (m1 (fun d => (unI d).bind fun i => some (.int (-i))) (mC (.int 1)))) (mC (.int 0)))) (mC (.int 0)))))))
    (sRet (mVar 5)))))))
def m_choices_along : List D → Option D := mRun 4 9 p_choices_along
theorem ok_choices_along (T : Env K mg) : FnOk P w K mg base CX0 3 T.f_choices_along T.d_choices_along ["table", "stand", "written", "ends"] (spD (cls T) false m_choices_along) := fn_ok T.F_choices_along sc_choices_along 4 9 rfl rfl fun cdv A outer s H E hr => by
  refine ⟨_, (pss_cons (ps_set (i := 4) sc_choices_along.nd rfl (Or.inl rfl) (pe_call (ok_levels_to T) (hr.mono (by decide)) rfl T.m_levels_to T.F_levels_to.kp T.b_levels_to .nil pass0 (pa_cons (pv 0) (pa_cons (pv 2) (pa_cons (pv 3) pa_nil)))))
    (pss_cons (ps_if (pt_cmpR (r := rIn K true) op_notIn_seq (pv 1) (pe_ix (r := rIxL K) ix_list (pv 4) pe_int (fun _ _ => rfl)) (by rfl))
      (pss_one (ps_ret pe_non))
      pss_nil)
    (pss_cons (ps_set (i := 5) sc_choices_along.nd rfl (Or.inl rfl) (pe_lst pa_nil))
    (pss_cons (ps_set (i := 6) sc_choices_along.nd rfl (Or.inl rfl) (pv 1))
    (pss_cons (ps_for PassesOwn.never rfl (pi_zipW (by rfl) T.z_zip (pa_cons (pv 2) (pa_cons (pe_slice (r := rSlL K) sl_list (pv 4) (po_some pe_int) po_none) pa_nil))) (pg_tup rfl (pgs_cons (pg_name (i := 7) sc_choices_along.nd rfl (Or.inl rfl)) (pgs_cons (pg_name (i := 8) sc_choices_along.nd rfl (Or.inl rfl)) pgs_nil)))
      (pss_cons (ps_expr (pe_bm PySem.F.plainAttrs_list PySem.F.slot_list_append PySem.F.type_list_append mt_append (pv 5) (pa_cons (pe_call (ok_letters_into T) (hr.mono (by decide)) rfl T.m_letters_into T.F_letters_into.kp T.b_letters_into .nil pass0 (pa_cons (pe_ix (r := rIxT K) ix_tup (pv 0) (pv 6) (fun _ _ => rfl)) (pa_cons (pv 7) (pa_cons (pv 8) pa_nil)))) pa_nil)))
      (pss_one (ps_set (i := 6) sc_choices_along.nd rfl (Or.inl rfl) (pe_ix (r := rIxT K) ix_tup (pe_ix (r := rIxT K) ix_tup (pe_ix (r := rIxT K) ix_tup (pv 0) (pv 6) (fun _ _ => rfl)) (pe_ix (r := rIxL K) ix_list (pe_ix (r := rIxL K) ix_list (pv 5) (pe_un un_neg pe_int) (fun _ _ => rfl)) pe_int (fun _ _ => rfl)) (fun _ _ => rfl)) pe_int (fun _ _ => rfl))))))
    (pss_one (ps_ret (pv 5)))))))), ?_⟩
  unfold p_choices_along
  exact (ds_seq (ds_set 4 (de_call (by decide) (da_cons (de_var 0) (da_cons (de_var 2) (da_cons (de_var 3) da_nil))))) (ds_seq (ds_if (dt_test (de_op rd_in (de_var 1) (de_op rd_ixL (de_var 4) (de_int 0)))) (ds_ret de_non) ds_nil) (ds_seq (ds_own 5 (df_lst da_nil)) (ds_seq (ds_set 6 (de_var 1)) (ds_seq (ds_for (vs := [7, 8]) (di_zipW (da_cons (de_var 2) (da_cons (de_slL (de_var 4) (do_some (de_int 1)) do_none) da_nil))) (dg_tup (dgs_cons (dg_name 7 (by decide)) (dgs_cons (dg_name 8 (by decide)) dgs_nil))) (ds_seq (ds_app 5 (de_call (by decide) (da_cons (de_op rd_ixT (de_var 0) (de_var 6)) (da_cons (de_var 7) (da_cons (de_var 8) da_nil))))) (ds_set 6 (de_flat (de_op rd_ixT (de_op rd_ixT (de_op rd_ixT (de_var 0) (de_var 6)) (de_op rd_ixL (de_op rd_ixL (de_var 5) (de_un rd_neg (de_int 1))) (de_int 0))) (de_int 0)))))) (ds_ret (de_var 5)))))))
end
end Wl
namespace Wl
open PySem L2 Wb Wd
section
variable {P : Program} {w : World} {K : PySem.W.Frag} {mg : Str → Option Value} {base : Heap}
def p_sure_letters : FS := (sSeq (sSet 2 (mS m_choices_along (mCons (mVar 0) (mCons (mC (.int 0)) (mCons (mVar 1) (mCons (m1 gLstRg (mS gLen (mCons (mVar 0) mNil))) mNil))))))
    (sSeq (sIf (mB (m2 (gIsN false) (mVar 2) (mC .non))) (sRet (mC .non)) sNx)
    (sSeq (sOwn 3 (mLst mNil))
    (sSeq (sFor (mItL (mVar 2)) (bName 4) (sSeq (sIf (mB (m2 gGt (mS gLen (mCons (mVar 4) mNil)) (mC (.int 1)))) sBrk sNx)
    (sApp 3 (m2 gIxL (mVar 4) (mC (.int 0))))))
    (sRet (mS gTup (mCons (mVar 3) mNil)))))))
def m_sure_letters : List D → Option D := mRun 2 5 p_sure_letters
theorem ok_sure_letters (T : Env K mg) : FnOk P w K mg base CX0 4 T.f_sure_letters T.d_sure_letters ["table", "written"] (spD (cls T) false m_sure_letters) := fn_ok T.F_sure_letters sc_sure_letters 2 5 rfl rfl fun cdv A outer s H E hr => by
  refine ⟨_, (pss_cons (ps_set (i := 2) sc_sure_letters.nd rfl (Or.inl rfl) (pe_call (ok_choices_along T) (hr.mono (by decide)) rfl T.m_choices_along T.F_choices_along.kp T.b_choices_along .nil pass0 (pa_cons (pv 0) (pa_cons pe_int (pa_cons (pv 1) (pa_cons (pe_listRg rfl (by rfl) T.z_list (prg_1 (by rfl) T.z_range (pe_callB (r := rLenS K) call_lenS (by rfl) T.z_len (by decide +kernel) (pa_cons (pv 0) pa_nil)))) pa_nil))))))
    (pss_cons (ps_if (pt_cmpR op_isN (pv 2) pe_non (nomark _))
      (pss_one (ps_ret pe_non))
      pss_nil)
    (pss_cons (ps_set (i := 3) sc_sure_letters.nd rfl (Or.inl rfl) (pe_lst pa_nil))
    (pss_cons (ps_for PassesOwn.never rfl (pi_list (pv 2)) (pg_name (i := 4) sc_sure_letters.nd rfl (Or.inl rfl))
      (pss_cons (ps_if (pt_cmpR op_gt (pe_callB (r := rLenS K) call_lenS (by rfl) T.z_len (by decide +kernel) (pa_cons (pv 4) pa_nil)) pe_int (nomark _))
        (pss_one ps_break)
        pss_nil)
      (pss_one (ps_expr (pe_bm PySem.F.plainAttrs_list PySem.F.slot_list_append PySem.F.type_list_append mt_append (pv 3) (pa_cons (pe_ix (r := rIxL K) ix_list (pv 4) pe_int (fun _ _ => rfl)) pa_nil))))))
    (pss_one (ps_ret (pe_callTy (r := rTupOf K) call_tupS (by rfl) T.z_tuple (by decide +kernel) (pa_cons (pv 3) pa_nil)))))))), ?_⟩
  unfold p_sure_letters
  exact (ds_seq (ds_set 2 (de_call (by decide) (da_cons (de_var 0) (da_cons (de_int 0) (da_cons (de_var 1) (da_cons (de_lstRg (de_cb rd_len (da_cons (de_var 0) da_nil))) da_nil)))))) (ds_seq (ds_if (dt_test (de_op rd_isN (de_var 2) de_non)) (ds_ret de_non) ds_nil) (ds_seq (ds_own 3 (df_lst da_nil)) (ds_seq (ds_for (vs := [4]) (di_list (de_var 2)) (dg_name 4 (by decide)) (ds_seq (ds_if (dt_test (de_op rd_gt (de_cb rd_len (da_cons (de_var 4) da_nil)) (de_int 1))) ds_brk ds_nil) (ds_app 3 (de_op rd_ixL (de_var 4) (de_int 0))))) (ds_ret (de_cb rd_tuple (da_cons (de_var 3) da_nil)))))))
end
end Wl
namespace Wl
open PySem L2 Wb Wd
section
variable {P : Program} {w : World} {K : PySem.W.Frag} {mg : Str → Option Value} {base : Heap}
def p_count_rows : FSF := (fSeq (fDropCall m_check_written (mCons (mVar 1) mNil))
    (fL (sRet (mSumV false (mS m_count_ends (mCons (m1 (gProp 6 m_Writer_table) (mVar 0)) (mCons (mC (.int 0)) (mCons (mVar 1) mNil))))))))
def m_count_rows : List D → Option (RX ⊕ D) := mRunF 2 2 p_count_rows
theorem ok_count_rows (T : Env K mg) : FnOk P w K mg base (L2N.CX P w) 4 T.f_count_rows T.d_count_rows ["writer", "written"] (spDF (cls T) true "index" (exV T) m_count_rows) := fnf_okN T.F_count_rows sc_count_rows 2 2 rfl rfl fun cdv A outer s H E hr => by
  refine ⟨_, (pss_cons (ps_expr (pe_callS (ok_check_written T) (hr.mono (by decide)) rfl T.m_check_written T.F_check_written.kp T.b_check_written (fun σ => L2N.passAt (L2N.takes_of rfl rfl rfl rfl) σ) (pa_cons (pv 1) pa_nil)))
    (pss_one (ps_ret (pe_callB (r := rSumV) (cr_sumV rfl) (by rfl) T.z_sum (by decide +kernel) (pa_cons (pe_bm0 PySem.F.plainAttrs_dict PySem.F.slot_dict_values PySem.F.type_dict_values mt_valsK (pe_call (ok_count_ends T) (hr.mono (by decide)) rfl T.m_count_ends T.F_count_ends.kp T.b_count_ends .nil pass0 (pa_cons (pe_prop (pv 0) T.cl_Writer T.pr_Writer_table (ok_Writer_table T) (hr.mono (by decide)) T.b_Writer_table .nil pass0 rfl) (pa_cons pe_int (pa_cons (pv 1) pa_nil))))) pa_nil))))), ?_⟩
  unfold p_count_rows
  exact (dsf_seq (dsf_dropcall (by decide) (da_cons (de_var 1) da_nil)) (dsf_l (ds_ret (de_sumVK rfl (de_call (by decide) (da_cons (de_prop (c := 6) (by decide) (de_var 0)) (da_cons (de_int 0) (da_cons (de_var 1) da_nil))))))))
end
end Wl
namespace Wl
open PySem L2 Wb Wd
section
variable {P : Program} {w : World} {K : PySem.W.Frag} {mg : Str → Option Value} {base : Heap}
def p_stands_after : FSF := (fSeq (fDropCall m_check_written (mCons (mVar 1) mNil))
    (fL (sRet (mS gSortDI (mCons (mS m_count_ends (mCons (m1 (gProp 6 m_Writer_table) (mVar 0)) (mCons (mC (.int 0)) (mCons (mVar 1) mNil)))) mNil)))))
def m_stands_after : List D → Option (RX ⊕ D) := mRunF 2 2 p_stands_after
theorem ok_stands_after (T : Env K mg) : FnOk P w K mg base (L2N.CX P w) 4 T.f_stands_after T.d_stands_after ["writer", "written"] (spDF (cls T) true "index" (exV T) m_stands_after) := fnf_okN T.F_stands_after sc_stands_after 2 2 rfl rfl fun cdv A outer s H E hr => by
  refine ⟨_, (pss_cons (ps_expr (pe_callS (ok_check_written T) (hr.mono (by decide)) rfl T.m_check_written T.F_check_written.kp T.b_check_written (fun σ => L2N.passAt (L2N.takes_of rfl rfl rfl rfl) σ) (pa_cons (pv 1) pa_nil)))
    (pss_one (ps_ret (pe_callB (call_sortedDI rfl) (by rfl) T.z_sorted (by decide +kernel) (pa_cons (pe_call (ok_count_ends T) (hr.mono (by decide)) rfl T.m_count_ends T.F_count_ends.kp T.b_count_ends .nil pass0 (pa_cons (pe_prop (pv 0) T.cl_Writer T.pr_Writer_table (ok_Writer_table T) (hr.mono (by decide)) T.b_Writer_table .nil pass0 rfl) (pa_cons pe_int (pa_cons (pv 1) pa_nil)))) pa_nil))))), ?_⟩
  unfold p_stands_after
  exact (dsf_seq (dsf_dropcall (by decide) (da_cons (de_var 1) da_nil)) (dsf_l (ds_ret (de_cb rd_sortDI (da_cons (de_call (by decide) (da_cons (de_prop (c := 6) (by decide) (de_var 0)) (da_cons (de_int 0) (da_cons (de_var 1) da_nil)))) da_nil)))))
end
end Wl
namespace Wl
open PySem L2 Wb Wd
section
variable {P : Program} {w : World} {K : PySem.W.Frag} {mg : Str → Option Value} {base : Heap}
def p_sure : FSF := (fSeq (fDropCall m_check_written (mCons (mVar 1) mNil))
    (fL (sRet (mS m_sure_letters (mCons (m1 (gProp 6 m_Writer_table) (mVar 0)) (mCons (mVar 1) mNil))))))
def m_sure : List D → Option (RX ⊕ D) := mRunF 2 2 p_sure
theorem ok_sure (T : Env K mg) : FnOk P w K mg base (L2N.CX P w) 5 T.f_sure T.d_sure ["writer", "written"] (spDF (cls T) false "index" (exV T) m_sure) := fnf_okN T.F_sure sc_sure 2 2 rfl rfl fun cdv A outer s H E hr => by
  refine ⟨_, (pss_cons (ps_expr (pe_callS (ok_check_written T) (hr.mono (by decide)) rfl T.m_check_written T.F_check_written.kp T.b_check_written (fun σ => L2N.passAt (L2N.takes_of rfl rfl rfl rfl) σ) (pa_cons (pv 1) pa_nil)))
    (pss_one (ps_ret (pe_call (ok_sure_letters T) (hr.mono (by decide)) rfl T.m_sure_letters T.F_sure_letters.kp T.b_sure_letters .nil pass0 (pa_cons (pe_prop (pv 0) T.cl_Writer T.pr_Writer_table (ok_Writer_table T) (hr.mono (by decide)) T.b_Writer_table .nil pass0 rfl) (pa_cons (pv 1) pa_nil)))))), ?_⟩
  unfold p_sure
  exact (dsf_seq (dsf_dropcall (by decide) (da_cons (de_var 1) da_nil)) (dsf_l (ds_ret (de_call (by decide) (da_cons (de_prop (c := 6) (by decide) (de_var 0)) (da_cons (de_var 1) da_nil))))))
end
end Wl
namespace Wl
open PySem L2 Wb Wd
section
variable {P : Program} {w : World} {K : PySem.W.Frag} {mg : Str → Option Value} {base : Heap}
def p_row_to : FSF := (fSeq (fDropCall m_check_written (mCons (mVar 1) mNil))
    (fSeq (fDropCall m_check_stand (mCons (mVar 0) (mCons (mVar 2) mNil)))
    (fSeq (fL (sSet 3 (mS m_choices_along (mCons (m1 (gProp 6 m_Writer_table) (mVar 0)) (mCons (mC (.int 0)) (mCons (mVar 1) (mCons (mLst (mCons (mVar 2) mNil)) mNil)))))))
    (fSeq (fL (sIf (mB (m2 (gIsN false) (mVar 3) (mC .non))) (sRet (mC .non)) sNx))
    (fL (sRet (mS gTup (mCons (mLc (mItL (mVar 3)) (bName 4) mYes (m2 gIxL (mVar 4) (mC (.int 0))) [4]) mNil))))))))
def m_row_to : List D → Option (RX ⊕ D) := mRunF 3 5 p_row_to
theorem ok_row_to (T : Env K mg) : FnOk P w K mg base (L2N.CX P w) 4 T.f_row_to T.d_row_to ["writer", "written", "stand"] (spDF (cls T) false "index" (exV T) m_row_to) := fnf_okN T.F_row_to sc_row_to 3 5 rfl rfl fun cdv A outer s H E hr => by
  refine ⟨_, (pss_cons (ps_expr (pe_callS (ok_check_written T) (hr.mono (by decide)) rfl T.m_check_written T.F_check_written.kp T.b_check_written (fun σ => L2N.passAt (L2N.takes_of rfl rfl rfl rfl) σ) (pa_cons (pv 1) pa_nil)))
    (pss_cons (ps_expr (pe_callS (ok_check_stand T) (hr.mono (by decide)) rfl T.m_check_stand T.F_check_stand.kp T.b_check_stand (fun σ => L2N.passAt (L2N.takes_of rfl rfl rfl rfl) σ) (pa_cons (pv 0) (pa_cons (pv 2) pa_nil))))
    (pss_cons (ps_set (i := 3) sc_row_to.nd rfl (Or.inl rfl) (pe_call (ok_choices_along T) (hr.mono (by decide)) rfl T.m_choices_along T.F_choices_along.kp T.b_choices_along .nil pass0 (pa_cons (pe_prop (pv 0) T.cl_Writer T.pr_Writer_table (ok_Writer_table T) (hr.mono (by decide)) T.b_Writer_table .nil pass0 rfl) (pa_cons pe_int (pa_cons (pv 1) (pa_cons (pe_lst (pa_cons (pv 2) pa_nil)) pa_nil))))))
    (pss_cons (ps_if (pt_cmpR op_isN (pv 3) pe_non (nomark _))
      (pss_one (ps_ret pe_non))
      pss_nil)
    (pss_one (ps_ret (pe_callTy (r := rTupOf K) call_tupS (by rfl) T.z_tuple (by decide +kernel) (pa_cons (pe_lc (own := [("letters", 4)]) (g := gName 4) rfl sc_row_to.nd (pi_list (pv 3)) (blkOk_by (own := [("letters", 4)]) (N := n_row_to) (sc := defScope s_row_to) (by decide +kernel)) (fun _ _ _ _ _ => (pg_name (i := 4) sc_row_to.nd rfl (Or.inl rfl))) (fun _ _ _ _ _ => pts_nil) (fun _ _ _ _ _ => (pe_ix (r := rIxL K) ix_list (pv 4) pe_int (fun _ _ => rfl)))) pa_nil)))))))), ?_⟩
  unfold p_row_to
  exact (dsf_seq (dsf_dropcall (by decide) (da_cons (de_var 1) da_nil)) (dsf_seq (dsf_dropcall (by decide) (da_cons (de_var 0) (da_cons (de_var 2) da_nil))) (dsf_seq (dsf_l (ds_set 3 (de_call (by decide) (da_cons (de_prop (c := 6) (by decide) (de_var 0)) (da_cons (de_int 0) (da_cons (de_var 1) (da_cons (de_lst (da_cons (de_var 2) da_nil)) da_nil))))))) (dsf_seq (dsf_l (ds_if (dt_test (de_op rd_isN (de_var 3) de_non)) (ds_ret de_non) ds_nil)) (dsf_l (ds_ret (de_cb rd_tuple (da_cons (de_df (df_lc (DI.e (di_list (de_var 3))) (dg_name 4 (by decide)) dt_yes (de_op rd_ixL (de_var 4) (de_int 0)))) da_nil))))))))
end
end Wl
namespace Wl
open PySem L2 Wb Wd
section
variable {P : Program} {w : World} {K : PySem.W.Frag} {mg : Str → Option Value} {base : Heap}
def p_all_tables : FS := (sSeq (sSet 2 (fun ρ => (mLc2 (mRng1 (mCons (mVar 0) mNil)) (bName 3) mYes (mRng1 (mCons (mVar 1) mNil)) (bName 4) mYes (mTup (mCons (mVar 3) (mCons (mVar 4) mNil))) [3, 4] [4] ρ).bind fun r => some (.lst r)))
    (sSeq (sSet 5 (fun ρ => (mLc2 (mItL (mVar 2)) (bName 6) mYes (mItL (mVar 2)) (bName 7) mYes (mTup (mCons (mVar 6) (mCons (mVar 7) mNil))) [6, 7] [7] ρ).bind fun r => some (.lst r)))
    (sSeq (sSet 8 (mLst (mCons (mTup mNil) mNil)))
    (sSeq (sFor (mRng1 (mCons (mVar 0) mNil)) (bName 9) (sSet 8 (fun ρ => (mLc2 (mItL (mVar 8)) (bName 10) mYes (mItL (mVar 5)) (bName 11) mYes (mTup (mStar (mVar 10) (mCons (mVar 11) mNil))) [10, 11] [11] ρ).bind fun r => some (.lst r))))
    (sRet (mVar 8))))))
def m_all_tables : List D → Option D := mRun 2 12 p_all_tables
theorem ok_all_tables (T : Env K mg) : FnOk P w K mg base CX0 1 T.f_all_tables T.d_all_tables ["stands", "written"] (spD (cls T) false m_all_tables) := fn_ok T.F_all_tables sc_all_tables 2 12 rfl rfl fun cdv A outer s H E hr => by
  refine ⟨_, (pss_cons (ps_set (i := 2) sc_all_tables.nd rfl (Or.inr rfl) (pe_lc2 (own := [("behind", 3), ("wrote", 4)]) (g := gName 3) (g1 := gName 4) (vs1 := [4]) rfl sc_all_tables.nd (pi_range1 rfl T.z_range (pa_cons (pv 0) pa_nil)) (blkOk_by (own := [("behind", 3), ("wrote", 4)]) (N := n_all_tables) (sc := defScope s_all_tables) (by decide +kernel)) (by decide) (fun _ _ _ _ _ => (pg_name (i := 3) sc_all_tables.nd rfl (Or.inl rfl))) (fun _ _ _ _ _ => pts_nil) (fun _ _ _ _ _ => (pi_range1 rfl T.z_range (pa_cons (pv 1) pa_nil))) (fun _ _ _ _ _ => (pg_name (i := 4) sc_all_tables.nd rfl (Or.inl rfl))) (fun _ _ _ _ _ => pts_nil) (fun _ _ _ _ _ => (pe_tup (pa_cons (pv 3) (pa_cons (pv 4) pa_nil))))))
    (pss_cons (ps_set (i := 5) sc_all_tables.nd rfl (Or.inr rfl) (pe_lc2 (own := [("one", 6), ("other", 7)]) (g := gName 6) (g1 := gName 7) (vs1 := [7]) rfl sc_all_tables.nd (pi_list (pv 2)) (blkOk_by (own := [("one", 6), ("other", 7)]) (N := n_all_tables) (sc := defScope s_all_tables) (by decide +kernel)) (by decide) (fun _ _ _ _ _ => (pg_name (i := 6) sc_all_tables.nd rfl (Or.inl rfl))) (fun _ _ _ _ _ => pts_nil) (fun _ _ _ _ _ => (pi_listK (K := K) rfl (pv 2))) (fun _ _ _ _ _ => (pg_name (i := 7) sc_all_tables.nd rfl (Or.inl rfl))) (fun _ _ _ _ _ => pts_nil) (fun _ _ _ _ _ => (pe_tup (pa_cons (pv 6) (pa_cons (pv 7) pa_nil))))))
    (pss_cons (ps_set (i := 8) sc_all_tables.nd rfl (Or.inl rfl) (pe_lst (pa_cons (pe_tup pa_nil) pa_nil)))
    (pss_cons (ps_for PassesOwn.never rfl (pi_range1 rfl T.z_range (pa_cons (pv 0) pa_nil)) (pg_name (i := 9) sc_all_tables.nd rfl (Or.inl rfl))
      (pss_one (ps_setLc2 (i := 8) (own := [("table", 10), ("row", 11)]) (g := gName 10) (g1 := gName 11) (vs1 := [11]) rfl sc_all_tables.nd rfl rfl (sw_true rfl rfl rfl (by decide +kernel)) (pi_list (pv 8)) (blkOk_by (own := [("table", 10), ("row", 11)]) (N := n_all_tables) (sc := defScope s_all_tables) (by decide +kernel)) (by decide) (fun _ _ _ _ _ => (pg_name (i := 10) sc_all_tables.nd rfl (Or.inl rfl))) (fun _ _ _ _ _ => pts_nil) (fun _ _ _ _ _ => (pi_listK (K := K) rfl (pv 5))) (fun _ _ _ _ _ => (pg_name (i := 11) sc_all_tables.nd rfl (Or.inl rfl))) (fun _ _ _ _ _ => pts_nil) (fun _ _ _ _ _ => (pe_tup (pa_starK (K := K) rfl (pv 10) (pa_cons (pv 11) pa_nil)))))))
    (pss_one (ps_ret (pv 8))))))), ?_⟩
  unfold p_all_tables
  exact (ds_seq (ds_set 2 (de_df (df_lc2 (DI.e (di_rng1 (da_cons (de_var 0) da_nil))) (dg_name 3 (by decide)) dt_yes (di_rng1 (da_cons (de_var 1) da_nil)) (dg_name 4 (by decide)) dt_yes (de_tup (da_cons (de_var 3) (da_cons (de_var 4) da_nil)))))) (ds_seq (ds_set 5 (de_df (df_lc2 (DI.e (di_list (de_var 2))) (dg_name 6 (by decide)) dt_yes (di_list (de_var 2)) (dg_name 7 (by decide)) dt_yes (de_tup (da_cons (de_var 6) (da_cons (de_var 7) da_nil)))))) (ds_seq (ds_set 8 (de_lst (da_cons (de_tup da_nil) da_nil))) (ds_seq (ds_for (vs := [9]) (di_rng1 (da_cons (de_var 0) da_nil)) (dg_name 9 (by decide)) (ds_set 8 (de_df (df_lc2 (DI.e (di_list (de_var 8))) (dg_name 10 (by decide)) dt_yes (di_list (de_var 5)) (dg_name 11 (by decide)) dt_yes (de_tup (da_star (de_var 10) (da_cons (de_var 11) da_nil))))))) (ds_ret (de_var 8))))))
end
end Wl
namespace Wl
open PySem L2 Wb Wd
section
variable {P : Program} {w : World} {K : PySem.W.Frag} {mg : Str → Option Value} {base : Heap}
def p_is_step : FS := (sSeq (sIf (mNot (mB (mS m_is_tuple_of (mCons (mVar 0) (mCons (mC (.int 2)) (mCons (mC (.int 2)) mNil)))))) (sRet (mC (.bl false))) sNx)
    (sRet (mAndV (mS m_is_between (mCons (m2 gIxT (mVar 0) (mC (.int 0))) (mCons (mC (.int 0)) (mCons (m2 gSub (mVar 1) (mC (.int 1))) mNil)))) (mS m_is_between (mCons (m2 gIxT (mVar 0) (mC (.int 1))) (mCons (mC (.int 0)) (mCons (mC (.int 3)) mNil)))))))
def m_is_step : List D → Option D := mRun 2 2 p_is_step
theorem ok_is_step (T : Env K mg) : FnOk P w K mg base CX0 2 T.f_is_step T.d_is_step ["value", "stands"] (spD (cls T) false m_is_step) := fn_ok T.F_is_step sc_is_step 2 2 rfl rfl fun cdv A outer s H E hr => by
  refine ⟨_, (pss_cons (ps_if (pt_not (pt_val (pe_call (ok_is_tuple_of T) (hr.mono (by decide)) rfl T.m_is_tuple_of T.F_is_tuple_of.kp T.b_is_tuple_of .nil pass0 (pa_cons (pv 0) (pa_cons pe_int (pa_cons pe_int pa_nil))))))
      (pss_one (ps_ret pe_bl))
      pss_nil)
    (pss_one (ps_ret (pe_and (pe_call (ok_is_between T) (hr.mono (by decide)) rfl T.m_is_between T.F_is_between.kp T.b_is_between .nil pass0 (pa_cons (pe_ix (r := rIxT K) ix_tup (pv 0) pe_int (fun _ _ => rfl)) (pa_cons pe_int (pa_cons (pe_op op_sub (pv 1) pe_int) pa_nil)))) (pe_one (pe_call (ok_is_between T) (hr.mono (by decide)) rfl T.m_is_between T.F_is_between.kp T.b_is_between .nil pass0 (pa_cons (pe_ix (r := rIxT K) ix_tup (pv 0) pe_int (fun _ _ => rfl)) (pa_cons pe_int (pa_cons (pe_glob (v := .int 3) rfl T.m_GREATEST_WRITTEN ⟨_, rfl⟩) pa_nil))))))))), ?_⟩
  unfold p_is_step
  exact (ds_seq (ds_if (dt_not (dt_B (de_call (by decide) (da_cons (de_var 0) (da_cons (de_int 2) (da_cons (de_int 2) da_nil)))))) (ds_ret (de_bl false)) ds_nil) (ds_ret (de_andV (de_call (by decide) (da_cons (de_op rd_ixT (de_var 0) (de_int 0)) (da_cons (de_int 0) (da_cons (de_op rd_sub (de_var 1) (de_int 1)) da_nil)))) (de_call (by decide) (da_cons (de_op rd_ixT (de_var 0) (de_int 1)) (da_cons (de_int 0) (da_cons (de_int 3) da_nil)))))))
end
end Wl
namespace Wl
open PySem L2 Wb Wd
section
variable {P : Program} {w : World} {K : PySem.W.Frag} {mg : Str → Option Value} {base : Heap}
def p_is_table_row : FS := (sSeq (sIf (mNot (mB (mS m_is_tuple_of (mCons (mVar 0) (mCons (mC (.int 2)) (mCons (mC (.int 3)) mNil)))))) (sRet (mC (.bl false))) sNx)
    (sRet (mS gAll (mCons (mLc (mItT (mVar 0)) (bName 2) mYes (mS m_is_step (mCons (mVar 2) (mCons (mVar 1) mNil))) [2]) mNil))))
def m_is_table_row : List D → Option D := mRun 2 3 p_is_table_row
theorem ok_is_table_row (T : Env K mg) : FnOk P w K mg base CX0 3 T.f_is_table_row T.d_is_table_row ["value", "stands"] (spD (cls T) false m_is_table_row) := fn_ok T.F_is_table_row sc_is_table_row 2 3 rfl rfl fun cdv A outer s H E hr => by
  refine ⟨_, (pss_cons (ps_if (pt_not (pt_val (pe_call (ok_is_tuple_of T) (hr.mono (by decide)) rfl T.m_is_tuple_of T.F_is_tuple_of.kp T.b_is_tuple_of .nil pass0 (pa_cons (pv 0) (pa_cons (pe_glob (v := .int 2) rfl T.m_LEAST_LETTERS ⟨_, rfl⟩) (pa_cons (pe_glob (v := .int 3) rfl T.m_MOST_LETTERS ⟨_, rfl⟩) pa_nil))))))
      (pss_one (ps_ret pe_bl))
      pss_nil)
    (pss_one (ps_ret (pe_callB (r := rAll K) (cr_all rfl) (by rfl) T.z_all (by decide +kernel) (pa_cons (pe_lc (own := [("step", 2)]) (g := gName 2) rfl sc_is_table_row.nd (pi_tup (pv 0)) (blkOk_by (own := [("step", 2)]) (N := n_is_table_row) (sc := defScope s_is_table_row) (by decide +kernel)) (fun _ _ _ _ _ => (pg_name (i := 2) sc_is_table_row.nd rfl (Or.inl rfl))) (fun _ _ _ _ _ => pts_nil) (fun _ _ _ _ _ => (pe_call (ok_is_step T) (hr.mono (by decide)) rfl T.m_is_step T.F_is_step.kp T.b_is_step .nil pass0 (pa_cons (pv 2) (pa_cons (pv 1) pa_nil))))) pa_nil))))), ?_⟩
  unfold p_is_table_row
  exact (ds_seq (ds_if (dt_not (dt_B (de_call (by decide) (da_cons (de_var 0) (da_cons (de_int 2) (da_cons (de_int 3) da_nil)))))) (ds_ret (de_bl false)) ds_nil) (ds_ret (de_cb rd_all (da_cons (de_df (df_lc (DI.e (di_tup (de_var 0))) (dg_name 2 (by decide)) dt_yes (de_call (by decide) (da_cons (de_var 2) (da_cons (de_var 1) da_nil))))) da_nil))))
end
end Wl
namespace Wl
open PySem L2 Wb Wd
section
variable {P : Program} {w : World} {K : PySem.W.Frag} {mg : Str → Option Value} {base : Heap}
def p_check_table : FS := (sSeq (sIf (mNot (mB (mS m_is_tuple_of (mCons (mVar 0) (mCons (mC (.int 1)) (mCons (mC (.int 6)) mNil)))))) sNever sNx)
    (sFor (mEnumT (mCons (mVar 0) mNil)) (bTup 2 (bCons (bName 1) (bCons (bName 2) bNil))) (sIf (mOr (mNot (mB (mS m_is_table_row (mCons (mVar 2) (mCons (mS gLen (mCons (mVar 0) mNil)) mNil))))) (mB (m2 (gEq true) (mS gLen (mCons (mVar 2) mNil)) (mS gLen (mCons (m2 gIxT (mVar 0) (mC (.int 0))) mNil))))) sNever sNx)))
def m_check_table : List D → Option D := mRun 1 3 p_check_table
theorem ok_check_table (T : Env K mg) : FnOk P w K mg base CX0 4 T.f_check_table T.d_check_table ["table"] (spD (cls T) false m_check_table) := fn_ok T.F_check_table sc_check_table 1 3 rfl rfl fun cdv A outer s H E hr => by
  refine ⟨_, (pss_cons (ps_if (pt_not (pt_val (pe_call (ok_is_tuple_of T) (hr.mono (by decide)) rfl T.m_is_tuple_of T.F_is_tuple_of.kp T.b_is_tuple_of .nil pass0 (pa_cons (pv 0) (pa_cons pe_int (pa_cons (pe_glob (v := .int 6) rfl T.m_MOST_STANDS ⟨_, rfl⟩) pa_nil))))))
      (pss_one ps_never)
      pss_nil)
    (pss_one (ps_for PassesOwn.never rfl (pi_enumT (by rfl) T.z_enumerate (pa_cons (pv 0) pa_nil)) (pg_tup rfl (pgs_cons (pg_name (i := 1) sc_check_table.nd rfl (Or.inl rfl)) (pgs_cons (pg_name (i := 2) sc_check_table.nd rfl (Or.inl rfl)) pgs_nil)))
      (pss_one (ps_if (PW.pt (pw_or (pt_not (pt_val (pe_call (ok_is_table_row T) (hr.mono (by decide)) rfl T.m_is_table_row T.F_is_table_row.kp T.b_is_table_row .nil pass0 (pa_cons (pv 2) (pa_cons (pe_callB (r := rLenS K) call_lenS (by rfl) T.z_len (by decide +kernel) (pa_cons (pv 0) pa_nil)) pa_nil))))) (pw_or1 (pt_cmpR op_ne (pe_callB (r := rLenS K) call_lenS (by rfl) T.z_len (by decide +kernel) (pa_cons (pv 2) pa_nil)) (pe_callB (r := rLenS K) call_lenS (by rfl) T.z_len (by decide +kernel) (pa_cons (pe_ix (r := rIxT K) ix_tup (pv 0) pe_int (fun _ _ => rfl)) pa_nil)) (nomark _)))))
        (pss_one ps_never)
        pss_nil))))), ?_⟩
  unfold p_check_table
  exact (ds_seq (ds_if (dt_not (dt_B (de_call (by decide) (da_cons (de_var 0) (da_cons (de_int 1) (da_cons (de_int 6) da_nil)))))) ds_never ds_nil) (ds_for (vs := [1, 2]) (di_enumT (da_cons (de_var 0) da_nil)) (dg_tup (dgs_cons (dg_name 1 (by decide)) (dgs_cons (dg_name 2 (by decide)) dgs_nil))) (ds_if (dt_or (dt_not (dt_B (de_call (by decide) (da_cons (de_var 2) (da_cons (de_cb rd_len (da_cons (de_var 0) da_nil)) da_nil))))) (dt_test (de_op rd_ne (de_cb rd_len (da_cons (de_var 2) da_nil)) (de_cb rd_len (da_cons (de_op rd_ixT (de_var 0) (de_int 0)) da_nil))))) ds_never ds_nil)))
end
end Wl
namespace Wl
open PySem L2 Wb Wd
section
variable {P : Program} {w : World} {K : PySem.W.Frag} {mg : Str → Option Value} {base : Heap}
theorem ok_Writer_init (T : Env K mg) : FnOk P w K mg base CX0 5 T.f_Writer_init T.d_Writer_init ["self", "table"] (spKeep (cls T) 6 "_table" false m_check_table) := by
  refine T.F_Writer_init.ok sc_Writer_init (fun vs H Q E h => ?_) (fun cdv A outer s H vs Q E hr h => ?_)
  · (obtain ⟨x, dx, v, G, d, e, rfl, _⟩ := h; rfl)
  obtain ⟨x, dx, v, G, d, e, rfl, hx, gx, sb, ex, rv, hm, q⟩ := h
  refine ⟨_, (pss_cons (ps_expr (pe_call (ok_check_table T) (hr.mono (by decide)) rfl T.m_check_table T.F_check_table.kp T.b_check_table .nil pass0 (pa_cons (pv 1) pa_nil)))
    (pss_one (ps_fld (pv 0) (pv 1) rfl))), ?_⟩
  refine ⟨_, rfl, ?_⟩
  refine ⟨G, [d], e, sb, ex, .cons rv .nil, hm, fun u H2 G2 x2 _ => ?_⟩
  refine ⟨_, rfl, _, rfl, x, T.c_Writer, dx, [], rfl, x2.same _ _ hx, T.cl_Writer, T.no_Writer_table, (by show 0 < 1000; decide), ?_⟩
  exact q H2 G2 x2
end
end Wl
namespace Wl
open PySem L2 Wb Wd
section
variable {P : Program} {w : World} {K : PySem.W.Frag} {mg : Str → Option Value} {base : Heap}
def p_Writer_letters : FS := (sRet (mS gLen (mCons (m2 gIxT (m1 (gFld 6 "_table") (mVar 0)) (mC (.int 0))) mNil)))
def m_Writer_letters : List D → Option D := mRun 1 1 p_Writer_letters
theorem ok_Writer_letters (T : Env K mg) : FnOk P w K mg base CX0 1 T.f_Writer_letters T.d_Writer_letters ["self"] (spD (cls T) false m_Writer_letters) := fn_ok T.F_Writer_letters sc_Writer_letters 1 1 rfl rfl fun cdv A outer s H E hr => by
  refine ⟨_, (pss_one (ps_ret (pe_callB (r := rLenS K) call_lenS (by rfl) T.z_len (by decide +kernel) (pa_cons (pe_ix (r := rIxT K) ix_tup (pe_fld (pv 0) rfl) pe_int (fun _ _ => rfl)) pa_nil)))), ?_⟩
  unfold p_Writer_letters
  exact (ds_ret (de_cb rd_len (da_cons (de_op rd_ixT (de_fld (c := 6) T.cl_Writer T.no_Writer_table (de_var 0)) (de_int 0)) da_nil)))
end
end Wl
namespace Wl
open PySem L2 Wb Wd
section
variable {P : Program} {w : World} {K : PySem.W.Frag} {mg : Str → Option Value} {base : Heap}
def p_check_row : FSF := (fSeq (fIf (mNot (mB (mS m_is_tuple_of (mCons (mVar 1) (mCons (mC (.int 0)) (mCons (mC (.int 60)) mNil)))))) (fRaiseV 0 (mC .non)) (fL sNx))
    (fSeq (fL (sSet 2 (mS m_first_outside (mCons (mVar 1) (mCons (m2 gSub (m1 (gProp 6 m_Writer_letters) (mVar 0)) (mC (.int 1))) mNil)))))
    (fIf (mB (m2 (gIsN true) (mVar 2) (mC .non))) (fRaiseV 0 (mVar 2)) (fL sNx))))
def m_check_row : List D → Option (RX ⊕ D) := mRunF 2 3 p_check_row
theorem ok_check_row (T : Env K mg) : FnOk P w K mg base (L2N.CX P w) 3 T.f_check_row T.d_check_row ["writer", "row"] (spDF (cls T) false "index" (exV T) m_check_row) := fnf_okN T.F_check_row sc_check_row 2 3 rfl rfl fun cdv A outer s H E hr => by
  refine ⟨_, (pss_cons (ps_if (pt_not (pt_val (pe_call (ok_is_tuple_of T) (hr.mono (by decide)) rfl T.m_is_tuple_of T.F_is_tuple_of.kp T.b_is_tuple_of .nil pass0 (pa_cons (pv 1) (pa_cons pe_int (pa_cons (pe_glob (v := .int 60) rfl T.m_LONGEST ⟨_, rfl⟩) pa_nil))))))
      (pss_one (L2N.ps_raise rfl (L2N.takes_of rfl rfl rfl rfl) (WbN.mkO T.ox_BadRow T.ini_BadRow T.tyi_BadRow (ok_BadRow_init T) (hr.mono (by decide)) T.b_BadRow_init pass0 rfl T.m_BadRow (pa_cons pe_non pa_nil))))
      pss_nil)
    (pss_cons (ps_set (i := 2) sc_check_row.nd rfl (Or.inl rfl) (pe_call (ok_first_outside T) (hr.mono (by decide)) rfl T.m_first_outside T.F_first_outside.kp T.b_first_outside .nil pass0 (pa_cons (pv 1) (pa_cons (pe_op op_sub (pe_prop (pv 0) T.cl_Writer T.pr_Writer_letters (ok_Writer_letters T) (hr.mono (by decide)) T.b_Writer_letters .nil pass0 rfl) pe_int) pa_nil))))
    (pss_one (ps_if (pt_cmpR op_notN (pv 2) pe_non (nomark _))
      (pss_one (L2N.ps_raise rfl (L2N.takes_of rfl rfl rfl rfl) (WbN.mkO T.ox_BadRow T.ini_BadRow T.tyi_BadRow (ok_BadRow_init T) (hr.mono (by decide)) T.b_BadRow_init pass0 rfl T.m_BadRow (pa_cons (pv 2) pa_nil))))
      pss_nil)))), ?_⟩
  unfold p_check_row
  exact (dsf_seq (dsf_if (dt_not (dt_B (de_call (by decide) (da_cons (de_var 1) (da_cons (de_int 0) (da_cons (de_int 60) da_nil)))))) (dsf_raiseV (ex := exV T) (c := T.c_BadRow) 0 rfl de_non) (dsf_l ds_nil)) (dsf_seq (dsf_l (ds_set 2 (de_call (by decide) (da_cons (de_var 1) (da_cons (de_op rd_sub (de_prop (c := 6) (by decide) (de_var 0)) (de_int 1)) da_nil))))) (dsf_if (dt_test (de_op rd_notN (de_var 2) de_non)) (dsf_raiseV (ex := exV T) (c := T.c_BadRow) 0 rfl (de_var 2)) (dsf_l ds_nil))))
end
end Wl
namespace Wl
open PySem L2 Wb Wd
section
variable {P : Program} {w : World} {K : PySem.W.Frag} {mg : Str → Option Value} {base : Heap}
def p_stands_of : FSF := (fSeq (fDropCall m_check_row (mCons (mVar 0) (mCons (mVar 1) mNil)))
    (fSeq (fL (sOwn 2 (mLst (mCons (mC (.int 0)) mNil))))
    (fSeq (fL (sFor (mItT (mVar 1)) (bName 3) (sApp 2 (mFlat (m2 gIxT (m2 gIxT (m2 gIxT (m1 (gProp 6 m_Writer_table) (mVar 0)) (m2 gIxL (mVar 2) (m1 (fun d => (unI d).bind fun i => some (.int (-i))) (mC (.int 1))))) (mVar 3)) (mC (.int 0)))))))
    (fL (sRet (mVar 2))))))
def m_stands_of : List D → Option (RX ⊕ D) := mRunF 2 4 p_stands_of
theorem ok_stands_of (T : Env K mg) : FnOk P w K mg base (L2N.CX P w) 4 T.f_stands_of T.d_stands_of ["writer", "row"] (spDF (cls T) false "index" (exV T) m_stands_of) := fnf_okN T.F_stands_of sc_stands_of 2 4 rfl rfl fun cdv A outer s H E hr => by
  refine ⟨_, (pss_cons (ps_expr (pe_callS (ok_check_row T) (hr.mono (by decide)) rfl T.m_check_row T.F_check_row.kp T.b_check_row (fun σ => L2N.passAt (L2N.takes_of rfl rfl rfl rfl) σ) (pa_cons (pv 0) (pa_cons (pv 1) pa_nil))))
    (pss_cons (ps_set (i := 2) sc_stands_of.nd rfl (Or.inl rfl) (pe_lst (pa_cons pe_int pa_nil)))
    (pss_cons (ps_for (passes_of rfl) rfl (pi_tup (pv 1)) (pg_name (i := 3) sc_stands_of.nd rfl (Or.inl rfl))
      (pss_one (ps_expr (pe_bm PySem.F.plainAttrs_list PySem.F.slot_list_append PySem.F.type_list_append mt_append (pv 2) (pa_cons (pe_ix (r := rIxT K) ix_tup (pe_ix (r := rIxT K) ix_tup (pe_ix (r := rIxT K) ix_tup (pe_prop (pv 0) T.cl_Writer T.pr_Writer_table (ok_Writer_table T) (hr.mono (by decide)) T.b_Writer_table .nil pass0 rfl) (pe_ix (r := rIxL K) ix_list (pv 2) (pe_un un_neg pe_int) (fun _ _ => rfl)) (fun _ _ => rfl)) (pv 3) (fun _ _ => rfl)) pe_int (fun _ _ => rfl)) pa_nil)))))
    (pss_one (ps_ret (pv 2)))))), ?_⟩
  unfold p_stands_of
  exact (dsf_seq (dsf_dropcall (by decide) (da_cons (de_var 0) (da_cons (de_var 1) da_nil))) (dsf_seq (dsf_l (ds_own 2 (df_lst (da_cons (de_int 0) da_nil)))) (dsf_seq (dsf_l (ds_for (vs := [3]) (di_tup (de_var 1)) (dg_name 3 (by decide)) (ds_app 2 (de_flat (de_op rd_ixT (de_op rd_ixT (de_op rd_ixT (de_prop (c := 6) (by decide) (de_var 0)) (de_op rd_ixL (de_var 2) (de_un rd_neg (de_int 1)))) (de_var 3)) (de_int 0)))))) (dsf_l (ds_ret (de_var 2))))))
end
end Wl
namespace Wl
open PySem L2 Wb Wd
section
variable {P : Program} {w : World} {K : PySem.W.Frag} {mg : Str → Option Value} {base : Heap}
def p_write_row : FSF := (fSeq (fSetCall 2 m_stands_of (mCons (mVar 0) (mCons (mVar 1) mNil)))
    (fL (sRet (mS gTup (mCons (mLc (mZipM (mCons (mVar 2) (mCons (mVar 1) mNil))) (bTup 2 (bCons (bName 3) (bCons (bName 4) bNil))) mYes (m2 gIxT (m2 gIxT (m2 gIxT (m1 (gProp 6 m_Writer_table) (mVar 0)) (mVar 3)) (mVar 4)) (mC (.int 1))) [3, 4]) mNil)))))
def m_write_row : List D → Option (RX ⊕ D) := mRunF 2 5 p_write_row
theorem ok_write_row (T : Env K mg) : FnOk P w K mg base (L2N.CX P w) 5 T.f_write_row T.d_write_row ["writer", "row"] (spDF (cls T) false "index" (exV T) m_write_row) := fnf_okN T.F_write_row sc_write_row 2 5 rfl rfl fun cdv A outer s H E hr => by
  refine ⟨_, (pss_cons (ps_set (i := 2) sc_write_row.nd rfl (Or.inl rfl) (pe_callS (ok_stands_of T) (hr.mono (by decide)) rfl T.m_stands_of T.F_stands_of.kp T.b_stands_of (fun σ => L2N.passAt (L2N.takes_of rfl rfl rfl rfl) σ) (pa_cons (pv 0) (pa_cons (pv 1) pa_nil))))
    (pss_one (ps_ret (pe_callTy (r := rTupOf K) call_tupS (by rfl) T.z_tuple (by decide +kernel) (pa_cons (pe_lc (own := [("stand", 3), ("letter", 4)]) (g := gTup K 2 (gCons (gName 3) (gCons (gName 4) gNil))) rfl sc_write_row.nd (pi_zipM (by rfl) T.z_zip (pa_cons (pv 2) (pa_cons (pv 1) pa_nil))) (blkOk_by (own := [("stand", 3), ("letter", 4)]) (N := n_write_row) (sc := defScope s_write_row) (by decide +kernel)) (fun _ _ _ _ _ => (pg_tup rfl (pgs_cons (pg_name (i := 3) sc_write_row.nd rfl (Or.inl rfl)) (pgs_cons (pg_name (i := 4) sc_write_row.nd rfl (Or.inl rfl)) pgs_nil)))) (fun _ _ _ _ _ => pts_nil) (fun _ _ _ _ _ => (pe_ix (r := rIxT K) ix_tup (pe_ix (r := rIxT K) ix_tup (pe_ix (r := rIxT K) ix_tup (pe_prop (pv 0) T.cl_Writer T.pr_Writer_table (ok_Writer_table T) (hr.mono (by decide)) T.b_Writer_table .nil pass0 rfl) (pv 3) (fun _ _ => rfl)) (pv 4) (fun _ _ => rfl)) pe_int (fun _ _ => rfl)))) pa_nil))))), ?_⟩
  unfold p_write_row
  exact (dsf_seq (dsf_setcall 2 (by decide) (da_cons (de_var 0) (da_cons (de_var 1) da_nil))) (dsf_l (ds_ret (de_cb rd_tuple (da_cons (de_df (df_lc (DI.e (di_zipM (da_cons (de_var 2) (da_cons (de_var 1) da_nil)))) (dg_tup (dgs_cons (dg_name 3 (by decide)) (dgs_cons (dg_name 4 (by decide)) dgs_nil))) dt_yes (de_op rd_ixT (de_op rd_ixT (de_op rd_ixT (de_prop (c := 6) (by decide) (de_var 0)) (de_var 3)) (de_var 4)) (de_int 1)))) da_nil)))))
end
end Wl
namespace Wl
open PySem L2 Wb Wd
section
variable {P : Program} {w : World} {K : PySem.W.Frag} {mg : Str → Option Value} {base : Heap}
def p_census : FSF := (fSeq (fDropCall m_check_size (mCons (mVar 0) (mCons (mC (.int 1)) (mCons (mC (.int 2)) mNil))))
    (fSeq (fDropCall m_check_size (mCons (mVar 1) (mCons (mC (.int 1)) (mCons (mC (.int 2)) mNil))))
    (fSeq (fL (sSet 2 (mLc (mItL (mS m_all_tables (mCons (mVar 0) (mCons (mVar 1) mNil)))) (bName 3) mYes (mS m_word (mCons (mS (gMake 6 "_table" m_check_table) (mCons (mVar 3) mNil)) mNil)) [3])))
    (fL (sRet (mTup (mCons (m2 gCnt (mVar 2) (mC (.str "soon"))) (mCons (m2 gCnt (mVar 2) (mC (.str "last"))) (mCons (m2 gCnt (mVar 2) (mC (.str "lost"))) mNil)))))))))
def m_census : List D → Option (RX ⊕ D) := mRunF 2 4 p_census
theorem ok_census (T : Env K mg) : FnOk P w K mg base (L2N.CX P w) 7 T.f_census T.d_census ["stands", "written"] (spDF (cls T) true "index" (exV T) m_census) := fnf_okN T.F_census sc_census 2 4 rfl rfl fun cdv A outer s H E hr => by
  refine ⟨_, (pss_cons (ps_expr (pe_callS (ok_check_size T) (hr.mono (by decide)) rfl T.m_check_size T.F_check_size.kp T.b_check_size (fun σ => L2N.passAt (L2N.takes_of rfl rfl rfl rfl) σ) (pa_cons (pv 0) (pa_cons pe_int (pa_cons pe_int pa_nil)))))
    (pss_cons (ps_expr (pe_callS (ok_check_size T) (hr.mono (by decide)) rfl T.m_check_size T.F_check_size.kp T.b_check_size (fun σ => L2N.passAt (L2N.takes_of rfl rfl rfl rfl) σ) (pa_cons (pv 1) (pa_cons pe_int (pa_cons pe_int pa_nil)))))
    (pss_cons (ps_setLc (i := 2) (own := [("table", 3)]) (g := gName 3) rfl sc_census.nd rfl rfl (sw_true rfl rfl rfl (by decide +kernel)) (pi_list (pe_call (ok_all_tables T) (hr.mono (by decide)) rfl T.m_all_tables T.F_all_tables.kp T.b_all_tables .nil pass0 (pa_cons (pv 0) (pa_cons (pv 1) pa_nil)))) (blkOk_by (own := [("table", 3)]) (N := n_census) (sc := defScope s_census) (by decide +kernel)) (fun _ _ _ _ _ => (pg_name (i := 3) sc_census.nd rfl (Or.inl rfl))) (fun _ _ _ _ _ => pts_nil) (fun _ _ _ _ _ => (pe_call (ok_word T) (hr.mono (by decide)) rfl T.m_word T.F_word.kp T.b_word .nil pass0 (pa_cons (pe_make T.mk_Writer (ok_Writer_init T) (hr.mono (by decide)) (by rfl) T.m_Writer T.b_Writer_init .nil pass0 (pa_cons (pv 3) pa_nil)) pa_nil))))
    (pss_one (ps_ret (pe_tup (pa_cons (pe_bm PySem.F.plainAttrs_list PySem.F.slot_list_count PySem.F.type_list_count mt_lcountV (pv 2) (pa_cons pe_str pa_nil)) (pa_cons (pe_bm PySem.F.plainAttrs_list PySem.F.slot_list_count PySem.F.type_list_count mt_lcountV (pv 2) (pa_cons pe_str pa_nil)) (pa_cons (pe_bm PySem.F.plainAttrs_list PySem.F.slot_list_count PySem.F.type_list_count mt_lcountV (pv 2) (pa_cons pe_str pa_nil)) pa_nil))))))))), ?_⟩
  unfold p_census
  exact (dsf_seq (dsf_dropcall (by decide) (da_cons (de_var 0) (da_cons (de_int 1) (da_cons (de_int 2) da_nil)))) (dsf_seq (dsf_dropcall (by decide) (da_cons (de_var 1) (da_cons (de_int 1) (da_cons (de_int 2) da_nil)))) (dsf_seq (dsf_l (ds_set 2 (de_df (df_lc (DI.e (di_list (de_call (by decide) (da_cons (de_var 0) (da_cons (de_var 1) da_nil))))) (dg_name 3 (by decide)) dt_yes (de_call (by decide) (da_cons (de_make (c := 6) (by decide) (da_cons (de_var 3) da_nil)) da_nil)))))) (dsf_l (ds_ret (de_tup (da_cons (de_count (de_var 2) (de_str "soon")) (da_cons (de_count (de_var 2) (de_str "last")) (da_cons (de_count (de_var 2) (de_str "lost")) da_nil)))))))))
end
end Wl
namespace Wl
open PySem L2 Wb Wd
section
variable {P : Program} {w : World} {K : PySem.W.Frag} {mg : Str → Option Value} {base : Heap}
def spMix (K : PySem.W.Frag) : Sp := fun vs H Q _ => ∃ (a : Addr) (ns : List Int) (sd : Int), vs = [.ref a, .int sd] ∧ SqL K H a (ns.map V.int) ∧ ns.length ≤ 63 ∧
  ∀ h l H', Same H H' → H h = none → H l = none → Src h l H' → Q (.ref h) H'
theorem ok_law_mix (T : Env K mg) : FnOk P w K mg base CX0 1 T.f_law_mix T.d_law_mix ["_law_script", "_law_seed"] (spMix K) := by
  refine T.F_law_mix.ok sc_law_mix (fun vs H Q E h => ?_) (fun cdv A outer s H vs Q E hr h => ?_)
  · (obtain ⟨a, ns, sd, rfl, _⟩ := h; rfl)
  obtain ⟨a, ns, sd, rfl, hS, hl, q⟩ := h
  refine ⟨_, (pss_cons (ps_set (i := 2) sc_law_mix.nd rfl (Or.inl rfl) (pv 1))
    (pss_cons (ps_for PassesOwn.never rfl (pi_list (pv 0)) (pg_name (i := 3) sc_law_mix.nd rfl (Or.inl rfl))
      (pss_one (ps_set (i := 2) sc_law_mix.nd rfl (Or.inl rfl) (pe_op op_mod (pe_callTy call_int1 (by rfl) T.z_int (by decide +kernel) (pa_cons (pe_op op_add (pe_op op_add (pe_op op_mul (pv 2) pe_int) (pe_op op_mod (pe_callTy call_int1 (by rfl) T.z_int (by decide +kernel) (pa_cons (pv 3) pa_nil)) pe_int)) pe_int) pa_nil)) pe_int))))
    (pss_one (ps_ret (pe_lst (pa_cons (pv 2) (pa_cons (pe_callTy (r := rListOf K) call_listS (by rfl) T.z_list (by decide +kernel) (pa_cons (pv 0) pa_nil)) (pa_cons pe_int pa_nil)))))))), ?_⟩
  refine ⟨_, rfl, ?_⟩
  refine ⟨_, rfl, a, rfl, ⟨_, hS⟩, for_list (K := K) (a := a) (xs := ns.map V.int) (fun i σ H' => (∃ (st : Int) (y : Option V), σ = [some (.ref a), some (.int sd), some (.int st), y]) ∧ H' = H)
    ⟨⟨_, _, rfl⟩, rfl⟩ (fun i σ H' _ z => z.2 ▸ hS) (fun i x σ H' hi z => ?_) (fun σ H' z => ?_)⟩
  · obtain ⟨⟨st, y, rfl⟩, rfl⟩ := z
    obtain ⟨n, hn, rfl⟩ : ∃ n, ns[i]? = some n ∧ x = .int n := by
      rw [List.getElem?_map] at hi
      cases e : ns[i]? with
      | none => rw [e] at hi; cases hi
      | some n => rw [e] at hi; exact ⟨n, rfl, (Option.some.inj hi).symm⟩
    exact ⟨_, rfl, _, _, rfl, rfl, .inr ⟨by decide, by decide⟩, _, rfl, .inl ⟨_, rfl, _, _, rfl, rfl, (by show (0 : Int) < _; decide), _, _, rfl, rfl, _, _, rfl, rfl, .inl ⟨_, rfl, _, _, rfl, rfl, (by show (0 : Int) < _; decide), ⟨_, _, rfl⟩, rfl⟩⟩⟩
  · obtain ⟨⟨st, y, rfl⟩, rfl⟩ := z
    refine ⟨_, rfl, _, rfl, a, _, rfl, .inl hS, fun l hl2 => ⟨(by show 3 ≤ sizeLine; decide), fun h hh => ?_⟩⟩
    have ne : h ≠ l := fun e => by subst e; rw [upd_same] at hh; cases hh
    have hh0 : H' h = none := by rw [upd_ne ne] at hh; exact hh
    refine q h l _ ((same_new hl2 _).trans (same_new hh _)) hh0 hl2 ⟨ne, st, 0, ns, upd_same, ?_, hl⟩
    rw [upd_ne ne.symm]
    exact upd_same
end
end Wl
namespace Wl
open PySem L2 Wb Wd
section
variable {P : Program} {w : World} {K : PySem.W.Frag} {mg : Str → Option Value} {base : Heap}
def nextS (s : Src) (cap : Int) : Int × Src :=
  let m : Int := if (s.cs.length : Int) > 1 then (s.cs.length : Int) else 1
  let k := (s.ix % m).toNat
  let c := (s.cs ++ [0]).getD k 0
  if 1000000000000000000 ≤ c then (c % cap, ⟨s.st, s.cs.set k (c / cap), s.ix⟩)
  else (((s.st * 48271 + c * 69621 + 11) % 2147483647) / 7 % cap, ⟨(s.st * 48271 + c * 69621 + 11) % 2147483647, s.cs, s.ix + 1⟩)
def nextM : MS := fun s ds => match ds with
  | [.int cap] => if decide (0 < cap) && decide (cap < 1073741824) then some (.int (nextS s cap).1, (nextS s cap).2) else none
  | _ => none
abbrev m_law_next : MS := nextM
theorem nextM_inv {s s' : Src} {ds : List D} {d : D} (h : nextM s ds = some (d, s')) : ∃ cap, ds = [.int cap] ∧ 0 < cap ∧ cap < 1073741824 ∧ d = .int (nextS s cap).1 ∧ s' = (nextS s cap).2 := by
  unfold nextM at h
  split at h
  · obtain ⟨h1, h2⟩ := oif h
    rw [Bool.and_eq_true] at h1
    cases h2
    exact ⟨_, rfl, of_decide_eq_true h1.1, of_decide_eq_true h1.2, rfl, rfl⟩
  · cases h
theorem extS_old {h l : Addr} {H G H' : Hp} {xs ys : List V} (o : ∀ b u, H b = some u → b ≠ h → b ≠ l → H' b = some u) (gh : G h = none) (gl : G l = none) (hh : H h = some (.lst xs)) (hl : H l = some (.lst ys)) (s : Sub G H) : ExtS h l H G H' G := by
  have ng : ∀ b u, G b = some u → b ≠ h ∧ b ≠ l := fun b u hb => ⟨(fun q => by rw [q, gh] at hb; cases hb), fun q => by rw [q, gl] at hb; cases hb⟩
  refine ⟨fun b u z n1 n2 _ => o b u z n1 n2, fun b ps z n1 n2 => ⟨ps, o b _ z n1 n2⟩, Same.refl _, ⟨fun b u hb n => ?_, fun b u hb n => ?_⟩, fun _ _ _ _ z => z, fun _ _ z => .inl z⟩
  · rcases s.at_ b u hb n with z | ⟨d, ob, z⟩
    · exact .inl (o b u z (ng b u hb).1 (ng b u hb).2)
    · exact .inr ⟨d, ob, o b _ z (ng b u hb).1 (ng b u hb).2⟩
  · obtain ⟨q, eq, ps, h1, h2, h3⟩ := s.tb b u hb n
    refine ⟨q, eq, ps, o b _ h1 (ng b u hb).1 (ng b u hb).2, h2, fun pos cv hc => ?_⟩
    obtain ⟨c, e1, e2⟩ := h3 pos cv hc
    exact ⟨c, e1, o c _ e2 (fun z => by rw [z, hh] at e2; cases e2) fun z => by rw [z, hl] at e2; cases e2⟩
theorem cells_getD (cs : List Int) {k : Nat} (h : k < cs.length + 1) : (cs.map V.int ++ [V.int 0])[k]? = some (.int ((cs ++ [0]).getD k 0)) ∧ (cs.length ≤ k → (cs ++ [0]).getD k 0 = 0) := by
  have e : (cs ++ [0])[k]? = some ((cs ++ [0]).getD k 0) := by
    rw [List.getD_eq_getElem?_getD, List.getElem?_eq_getElem (by rw [List.length_append]; exact h)]
    rfl
  refine ⟨?_, fun z => ?_⟩
  · have e2 : cs.map V.int ++ [V.int 0] = (cs ++ [0]).map V.int := by rw [List.map_append]; rfl
    rw [e2, List.getElem?_map, e]
    rfl
  · have e3 : k = cs.length := by omega
    subst e3
    rw [List.getD_eq_getElem?_getD, List.getElem?_concat_length]
    rfl
theorem mod_nat {i j : Int} (h : 0 < j) : i % j = ((i % j).toNat : Int) ∧ ((i % j).toNat : Int) < j :=
  ⟨(Int.toNat_of_nonneg (Int.emod_nonneg i (by omega))).symm, by
    have a := Int.emod_lt_of_pos i h
    have b := Int.emod_nonneg i (show j ≠ 0 by omega)
    omega⟩
theorem ok_law_next (T : Env K mg) : FnOk P w K mg base CX0 1 T.f_law_next T.d_law_next ["_law_h", "_law_cap"] (spS (cls T) false nextM) := by
  refine T.F_law_next.ok sc_law_next (fun vs H Q E h => ?_) (fun cdv A outer s H vs Q E hr h => ?_)
  · (obtain ⟨h', l, s0, G, rest, ds, d, s', rfl, _, _, _, _, _, r, hm, _⟩ := h; obtain ⟨cap, rfl, _⟩ := nextM_inv hm; rw [List.length_cons, r.len]; rfl)
  obtain ⟨h, l, ⟨st, cs, ix⟩, G, rest, ds, d, s', rfl, ⟨ne, hh, hl, h63⟩, gh, gl, sb, ex, r, hm, q0⟩ := h
  obtain ⟨cap, rfl, cp, cm, rfl, rfl⟩ := nextM_inv hm
  obtain ⟨x, rfl, rx⟩ := rps1 r
  cases rx
  have h63 : cs.length ≤ 63 := h63
  have hh : H h = some (.lst [.int st, .ref l, .int ix]) := hh
  have hl : H l = some (.lst (cs.map V.int)) := hl
  have q : ∀ (r : Int) (s2 : Src) (H' : Hp), nextS ⟨st, cs, ix⟩ cap = (r, s2) → SrcAt H' h l s2 → Old h l H H' → Q (.int r) H' := fun r s2 H' e sa o => by
    rw [e] at q0
    exact q0 _ H' G (extS_old o gh gl hh hl sb.sub) sa (.int r)
  refine ⟨_, (pss_cons (ps_set (i := 2) sc_law_next.nd rfl (Or.inl rfl) (pe_ix (r := rIxL K) ix_list (pe_op op_cat (pe_ix (r := rIxL K) ix_list (pv 0) pe_int (fun _ _ => rfl)) (pe_lst (pa_cons pe_int pa_nil))) (pe_op op_mod (pe_callTy call_int1 (by rfl) T.z_int (by decide +kernel) (pa_cons (pe_ix (r := rIxL K) ix_list (pv 0) pe_int (fun _ _ => rfl)) pa_nil)) (pe_callB (call_max2 rfl) (by rfl) T.z_max (by decide +kernel) (pa_cons pe_int (pa_cons (pe_callB (r := rLenS K) call_lenS (by rfl) T.z_len (by decide +kernel) (pa_cons (pe_ix (r := rIxL K) ix_list (pv 0) pe_int (fun _ _ => rfl)) pa_nil)) pa_nil)))) (fun _ _ => rfl)))
    (pss_cons (ps_if (pt_cmpR op_ge (pv 2) (pe_op op_pow pe_int pe_int) (nomark _))
      (pss_cons (ps_asg (pe_op op_fdiv (pv 2) (pv 1)) (pg_sub (pe_ix (r := rIxL K) ix_list (pv 0) pe_int (fun _ _ => rfl)) (pe_op op_mod (pe_callTy call_int1 (by rfl) T.z_int (by decide +kernel) (pa_cons (pe_ix (r := rIxL K) ix_list (pv 0) pe_int (fun _ _ => rfl)) pa_nil)) (pe_callB (r := rLenS K) call_lenS (by rfl) T.z_len (by decide +kernel) (pa_cons (pe_ix (r := rIxL K) ix_list (pv 0) pe_int (fun _ _ => rfl)) pa_nil))) set_list))
      (pss_one (ps_ret (pe_op op_mod (pe_callTy call_int1 (by rfl) T.z_int (by decide +kernel) (pa_cons (pv 2) pa_nil)) (pv 1)))))
      pss_nil)
    (pss_cons (ps_asg (pe_op op_mod (pe_callTy call_int1 (by rfl) T.z_int (by decide +kernel) (pa_cons (pe_op op_add (pe_op op_add (pe_op op_mul (pe_ix (r := rIxL K) ix_list (pv 0) pe_int (fun _ _ => rfl)) pe_int) (pe_op op_mul (pv 2) pe_int)) pe_int) pa_nil)) pe_int) (pg_sub (pv 0) pe_int set_list))
    (pss_cons (ps_asg (pe_op op_add (pe_ix (r := rIxL K) ix_list (pv 0) pe_int (fun _ _ => rfl)) pe_int) (pg_sub (pv 0) pe_int set_list))
    (pss_one (ps_ret (pe_op op_mod (pe_callTy call_int1 (by rfl) T.z_int (by decide +kernel) (pa_cons (pe_op op_fdiv (pe_ix (r := rIxL K) ix_list (pv 0) pe_int (fun _ _ => rfl)) pe_int) pa_nil)) (pv 1)))))))), ?_⟩
  -- what is drawn from: the two new lists
  refine ⟨_, rfl, h, _, _, _, rfl, rfl, SqL.of hh, at_of (j := 1) rfl rfl, (by show 1 ≤ sizeLine; decide), fun p1 n1 => ?_⟩
  have ne1 : l ≠ p1 := ne_of_none hl n1
  have nh1 : h ≠ p1 := ne_of_none hh n1
  have s1 := same_new n1 (.lst [V.int 0])
  refine ⟨l, p1, _, _, rfl, rfl, s1 _ _ hl, upd_same, (by rw [List.length_map]; exact Nat.le_of_lt (small1000 (by show cs.length + 1 ≤ 1000; omega))), fun p2 n2 => ?_⟩
  have s2 := s1.trans (same_new n2 (.lst (cs.map V.int ++ [V.int 0])))
  have hh2 := s2 _ _ hh
  have hl2 := s2 _ _ hl
  have nh2 : p2 ≠ h := (ne_of_none (s1 _ _ hh) n2).symm
  have nl2 : p2 ≠ l := (ne_of_none (s1 _ _ hl) n2).symm
  have cl : (cs.map V.int).length = cs.length := List.length_map _
  obtain ⟨m, em, m1, m2⟩ : ∃ m : Int, (if ((cs.map V.int).length : Int) > 1 then ((cs.map V.int).length : Int) else 1) = m ∧ 0 < m ∧ m ≤ (cs.length : Int) + 1 ∧ (0 < cs.length → m = (cs.length : Int)) := by
    rw [cl]
    by_cases h1 : (cs.length : Int) > 1
    · exact ⟨_, by rw [if_pos h1], by omega, by omega, by omega⟩
    · exact ⟨_, by rw [if_neg h1], by omega, by omega, by omega⟩
  obtain ⟨m2, m3⟩ := m2
  obtain ⟨ek, hk⟩ := mod_nat (i := ix) m1
  generalize hkk : (ix % m).toNat = k at ek hk
  obtain ⟨hc, hc0⟩ := cells_getD cs (k := k) (by omega)
  have hS : nextS ⟨st, cs, ix⟩ cap = if 1000000000000000000 ≤ (cs ++ [0]).getD k 0 then ((cs ++ [0]).getD k 0 % cap, ⟨st, cs.set k ((cs ++ [0]).getD k 0 / cap), ix⟩)
      else (((st * 48271 + (cs ++ [0]).getD k 0 * 69621 + 11) % 2147483647) / 7 % cap, ⟨(st * 48271 + (cs ++ [0]).getD k 0 * 69621 + 11) % 2147483647, cs, ix + 1⟩) := by
    rw [cl] at em
    unfold nextS
    simp only [em, hkk]
  generalize (cs ++ [0]).getD k 0 = c at hc hc0 hS
  refine ⟨_, rfl, h, _, _, _, rfl, rfl, SqL.of hh2, at_of (j := 2) rfl rfl, .inl ⟨_, rfl, _, rfl, h, _, _, _, rfl, rfl, SqL.of hh2, at_of (j := 1) rfl rfl, l, _, rfl, .inl (SqL.of hl2), _, _, rfl, _, _, rfl, rfl, (by rw [em]; exact m1),
    p2, _, _, _, rfl, rfl, SqL.of upd_same, at_of (j := k) (by rw [em]; exact ek) hc, ?_⟩⟩
  -- is the cell great?
  refine ⟨_, rfl, _, _, rfl, rfl, ⟨by decide, by decide, by decide⟩, _, _, rfl, rfl, _, rfl, ?_⟩
  refine ite2 (fun big => ?_) (fun small => ?_)
  · have big' : (10 : Int) ^ (18 : Int).toNat ≤ c := of_decide_eq_true big
    have pos : 0 < cs.length := by
      rcases Nat.eq_zero_or_pos cs.length with z | z
      · have := hc0 (by omega)
        rw [this] at big'
        exact absurd big' (by decide)
      · exact z
    have km : k < cs.length := by have := m3 pos; omega
    refine ⟨_, rfl, _, rfl, _, _, rfl, rfl, ⟨cp, cm⟩, _, rfl, h, _, _, _, rfl, rfl, SqL.of hh2, at_of (j := 1) rfl rfl, _, rfl, h, _, _, _, rfl, rfl, SqL.of hh2, at_of (j := 2) rfl rfl, .inl ⟨_, rfl, _, rfl, h, _, _, _, rfl, rfl, SqL.of hh2, at_of (j := 1) rfl rfl,
      l, _, rfl, .inl (SqL.of hl2), _, _, rfl, rfl, (by rw [cl]; omega), l, _, _, k, rfl, rfl, hl2, ?_, ?_⟩⟩
    · rw [cl, ← m3 pos, ek]
      unfold ixN
      rw [if_pos (by omega), if_pos (by have := m3 pos; omega), Int.toNat_natCast]
    · refine ⟨_, rfl, .inl ⟨_, rfl, _, rfl, _, _, rfl, rfl, cp, ?_⟩⟩
      rw [if_pos (show (1000000000000000000 : Int) ≤ c from big')] at hS
      refine q _ _ _ hS ⟨ne, ?_, ?_, by show (cs.set k (c / cap)).length ≤ 63; rw [List.length_set]; exact h63⟩ fun b o hb bh bl => ?_
      · rw [upd_ne ne]
        exact hh2
      · rw [upd_same, List.map_set]
      · rw [upd_ne bl]
        exact s2 _ _ hb
  · refine ⟨_, rfl, h, _, _, _, rfl, rfl, SqL.of hh2, at_of (j := 0) rfl rfl, _, _, rfl, rfl, .inr ⟨by decide, by decide⟩, _, rfl, _, _, rfl, rfl, .inr ⟨by decide, by decide⟩, _, _, rfl, rfl, _, _, rfl, rfl, .inl ⟨_, rfl, _, _, rfl, rfl, (by show (0 : Int) < _; decide), _, rfl,
      h, _, _, 0, rfl, rfl, hh2, rfl, ?_⟩⟩
    have hh3 : ∀ o, (upd (upd (upd H p1 (.lst [V.int 0])) p2 (.lst (cs.map V.int ++ [V.int 0]))) h o) h = some o := fun o => upd_same
    refine ⟨_, rfl, h, _, _, _, rfl, rfl, SqL.of upd_same, at_of (j := 2) rfl rfl, _, _, rfl, rfl, _, rfl, h, _, _, 2, rfl, rfl, upd_same, rfl, ?_⟩
    refine ⟨_, rfl, h, _, _, _, rfl, rfl, SqL.of upd_same, at_of (j := 0) rfl rfl, _, _, rfl, rfl, ⟨by decide, by decide⟩, .inl ⟨_, rfl, _, rfl, _, _, rfl, rfl, cp, ?_⟩⟩
    rw [if_neg (show ¬ (1000000000000000000 : Int) ≤ c from fun z => small (decide_eq_true (show (10 : Int) ^ (18 : Int).toNat ≤ c from z)))] at hS
    refine q _ _ _ hS ⟨ne, upd_same, ?_, h63⟩ fun b o hb bh bl => ?_
    · rw [upd_ne ne.symm, upd_ne ne.symm]
      exact hl2
    · rw [upd_ne bh, upd_ne bh]
      exact s2 _ _ hb
end
end Wl
namespace Wl
open PySem L2 Wb Wd
section
variable {P : Program} {w : World} {K : PySem.W.Frag} {mg : Str → Option Value} {base : Heap}
def p_law_pick : FS := (sRetX 0 (mXop gIxL (mX (i := 0) (mVar 1)) (mXcall m_law_next (mXA (i := 0) (mCons (mS gLen (mCons (mVar 1) mNil)) mNil)))))
def m_law_pick : MS := mRunS 2 2 p_law_pick
theorem ok_law_pick (T : Env K mg) : FnOk P w K mg base CX0 2 T.f_law_pick T.d_law_pick ["_law_h", "_law_things"] (spS (cls T) false m_law_pick) := fnS_ok T.F_law_pick sc_law_pick 2 2 rfl rfl fun cdv A outer s H E hr => by
  refine ⟨_, (pss_one (ps_ret (pe_ix (r := rIxL K) ix_list (pv 1) (pe_call (ok_law_next T) (hr.mono (by decide)) rfl T.m_law_next T.F_law_next.kp T.b_law_next .nil pass0 (pa_cons (pv 0) (pa_cons (pe_callB (r := rLenS K) call_lenS (by rfl) T.z_len (by decide +kernel) (pa_cons (pv 1) pa_nil)) pa_nil))) (fun _ _ => rfl)))), ?_⟩
  unfold p_law_pick
  exact (ds_retX (i := 0) (dx_op rd_ixL (dx_pure (de_var 1)) (dx_callS (by decide) (dxa_pure (da_cons (de_cb rd_len (da_cons (de_var 1) da_nil)) da_nil)))))
end
end Wl
namespace Wl
open PySem L2 Wb Wd
section
variable {P : Program} {w : World} {K : PySem.W.Frag} {mg : Str → Option Value} {base : Heap}
def p_law_ask : FSF := (fSeq (fIf (mB (m2 gLt (mVar 0) (mC (.int 2)))) (fRetW [m_write_row, m_stands_of] (mVar 0) (mCons (mVar 1) (mCons (m2 gIxL (mVar 2) (mC (.int 0))) mNil))) (fL sNx))
    (fSeq (fIf (mB (m2 gLt (mVar 0) (mC (.int 5)))) (fRetW [m_count_rows, m_stands_after, m_sure] (m2 gSub (mVar 0) (mC (.int 2))) (mCons (mVar 1) (mCons (m2 gIxL (mVar 2) (mC (.int 1))) mNil))) (fL sNx))
    (fSeq (fIf (mB (m2 (gEq false) (mVar 0) (mC (.int 5)))) (fRetCall m_row_to (mCons (mVar 1) (mCons (m2 gIxL (mVar 2) (mC (.int 1))) (mCons (m2 gIxL (mVar 2) (mC (.int 2))) mNil)))) (fL sNx))
    (fSeq (fIf (mB (m2 (gEq false) (mVar 0) (mC (.int 6)))) (fRetCall m_alike (mCons (mVar 1) (mCons (m2 gIxL (mVar 2) (mC (.int 2))) (mCons (m2 gIxL (mVar 2) (mC (.int 3))) mNil)))) (fL sNx))
    (fIf (mB (m2 (gEq false) (mVar 0) (mC (.int 7)))) (fRetCall m_shows (mCons (mVar 1) (mCons (m2 gIxL (mVar 2) (mC (.int 4))) (mCons (mLst mNil) mNil)))) (fRetCall m_census (mCons (m2 gIxL (mVar 2) (mC (.int 5))) (mCons (m2 gIxL (mVar 2) (mC (.int 6))) mNil))))))))
def m_law_ask : List D → Option (RX ⊕ D) := mRunF 3 3 p_law_ask
theorem ok_law_ask (T : Env K mg) : FnOk P w K mg base (L2N.CX P w) 8 T.f_law_ask T.d_law_ask ["_law_kind", "_law_writer", "_law_some"] (spDF (cls T) true "index" (exV T) m_law_ask) := fnf_okN T.F_law_ask sc_law_ask 3 3 rfl rfl fun cdv A outer s H E hr => by
  refine ⟨_, (pss_cons (ps_if (pt_cmpR op_lt (pv 0) pe_int (nomark _))
      (pss_one (ps_ret (pe_callV (A := (OneOf (cls T) true "index" (exV T) [(T.f_write_row, m_write_row), (T.f_stands_of, m_stands_of)])) (fun f sp h => by
  obtain ⟨m, z, e⟩ := h
  subst e
  rcases List.mem_cons.mp z with z | z
  · cases z
    exact ⟨_, _, _, fnf_free (ok_write_row T), hr.mono (by decide), T.F_write_row.kp, T.b_write_row⟩
  rcases List.mem_cons.mp z with z | z
  · cases z
    exact ⟨_, _, _, fnf_free (ok_stands_of T), hr.mono (by decide), T.F_stands_of.kp, T.b_stands_of⟩
  exact nomatch z) (fun σ => L2N.passAt (L2N.takes_of rfl rfl rfl rfl) σ) (pe_ix (r := rIxL K) ix_list (pe_lst (pa_cons (pe_glob (v := .ref T.f_write_row) rfl T.m_write_row rfl) (pa_cons (pe_glob (v := .ref T.f_stands_of) rfl T.m_stands_of rfl) pa_nil))) (pv 0) (fun _ _ => rfl)) (pa_cons (pv 1) (pa_cons (pe_ix (r := rIxL K) ix_list (pv 2) pe_int (fun _ _ => rfl)) pa_nil)))))
      pss_nil)
    (pss_cons (ps_if (pt_cmpR op_lt (pv 0) pe_int (nomark _))
      (pss_one (ps_ret (pe_callV (A := (OneOf (cls T) true "index" (exV T) [(T.f_count_rows, m_count_rows), (T.f_stands_after, m_stands_after), (T.f_sure, m_sure)])) (fun f sp h => by
  obtain ⟨m, z, e⟩ := h
  subst e
  rcases List.mem_cons.mp z with z | z
  · cases z
    exact ⟨_, _, _, ok_count_rows T, hr.mono (by decide), T.F_count_rows.kp, T.b_count_rows⟩
  rcases List.mem_cons.mp z with z | z
  · cases z
    exact ⟨_, _, _, ok_stands_after T, hr.mono (by decide), T.F_stands_after.kp, T.b_stands_after⟩
  rcases List.mem_cons.mp z with z | z
  · cases z
    exact ⟨_, _, _, fnf_free (ok_sure T), hr.mono (by decide), T.F_sure.kp, T.b_sure⟩
  exact nomatch z) (fun σ => L2N.passAt (L2N.takes_of rfl rfl rfl rfl) σ) (pe_ix (r := rIxL K) ix_list (pe_lst (pa_cons (pe_glob (v := .ref T.f_count_rows) rfl T.m_count_rows rfl) (pa_cons (pe_glob (v := .ref T.f_stands_after) rfl T.m_stands_after rfl) (pa_cons (pe_glob (v := .ref T.f_sure) rfl T.m_sure rfl) pa_nil)))) (pe_op op_sub (pv 0) pe_int) (fun _ _ => rfl)) (pa_cons (pv 1) (pa_cons (pe_ix (r := rIxL K) ix_list (pv 2) pe_int (fun _ _ => rfl)) pa_nil)))))
      pss_nil)
    (pss_cons (ps_if (pt_cmpR op_eq (pv 0) pe_int (nomark _))
      (pss_one (ps_ret (pe_callS (ok_row_to T) (hr.mono (by decide)) rfl T.m_row_to T.F_row_to.kp T.b_row_to (fun σ => L2N.passAt (L2N.takes_of rfl rfl rfl rfl) σ) (pa_cons (pv 1) (pa_cons (pe_ix (r := rIxL K) ix_list (pv 2) pe_int (fun _ _ => rfl)) (pa_cons (pe_ix (r := rIxL K) ix_list (pv 2) pe_int (fun _ _ => rfl)) pa_nil))))))
      pss_nil)
    (pss_cons (ps_if (pt_cmpR op_eq (pv 0) pe_int (nomark _))
      (pss_one (ps_ret (pe_callS (ok_alike T) (hr.mono (by decide)) rfl T.m_alike T.F_alike.kp T.b_alike (fun σ => L2N.passAt (L2N.takes_of rfl rfl rfl rfl) σ) (pa_cons (pv 1) (pa_cons (pe_ix (r := rIxL K) ix_list (pv 2) pe_int (fun _ _ => rfl)) (pa_cons (pe_ix (r := rIxL K) ix_list (pv 2) pe_int (fun _ _ => rfl)) pa_nil))))))
      pss_nil)
    (pss_one (ps_ret (pe_ifExp (pt_cmpR op_eq (pv 0) pe_int (nomark _)) (pe_callS (ok_shows T) (hr.mono (by decide)) rfl T.m_shows T.F_shows.kp T.b_shows (fun σ => L2N.passAt (L2N.takes_of rfl rfl rfl rfl) σ) (pa_cons (pv 1) (pa_cons (pe_ix (r := rIxL K) ix_list (pv 2) pe_int (fun _ _ => rfl)) (pa_cons (pe_lst pa_nil) pa_nil)))) (pe_callS (ok_census T) (hr.mono (by decide)) rfl T.m_census T.F_census.kp T.b_census (fun σ => L2N.passAt (L2N.takes_of rfl rfl rfl rfl) σ) (pa_cons (pe_ix (r := rIxL K) ix_list (pv 2) pe_int (fun _ _ => rfl)) (pa_cons (pe_ix (r := rIxL K) ix_list (pv 2) pe_int (fun _ _ => rfl)) pa_nil)))))))))), ?_⟩
  unfold p_law_ask
  exact (dsf_seq (dsf_if (dt_test (de_op rd_lt (de_var 0) (de_int 2))) (dsf_retW [(T.f_write_row, m_write_row), (T.f_stands_of, m_stands_of)] (fun _ _ _ r => r) (Nat.le_of_ble_eq_true rfl) (by decide) (de_var 0) (da_cons (de_var 1) (da_cons (de_op rd_ixL (de_var 2) (de_int 0)) da_nil))) (dsf_l ds_nil)) (dsf_seq (dsf_if (dt_test (de_op rd_lt (de_var 0) (de_int 5))) (dsf_retW [(T.f_count_rows, m_count_rows), (T.f_stands_after, m_stands_after), (T.f_sure, m_sure)] (fun _ _ _ r => r) (Nat.le_of_ble_eq_true rfl) (by decide) (de_op rd_sub (de_var 0) (de_int 2)) (da_cons (de_var 1) (da_cons (de_op rd_ixL (de_var 2) (de_int 1)) da_nil))) (dsf_l ds_nil)) (dsf_seq (dsf_if (dt_test (de_op rd_eq (de_var 0) (de_int 5))) (dsf_retcall (by decide) (da_cons (de_var 1) (da_cons (de_op rd_ixL (de_var 2) (de_int 1)) (da_cons (de_op rd_ixL (de_var 2) (de_int 2)) da_nil)))) (dsf_l ds_nil)) (dsf_seq (dsf_if (dt_test (de_op rd_eq (de_var 0) (de_int 6))) (dsf_retcall (by decide) (da_cons (de_var 1) (da_cons (de_op rd_ixL (de_var 2) (de_int 2)) (da_cons (de_op rd_ixL (de_var 2) (de_int 3)) da_nil)))) (dsf_l ds_nil)) (dsf_retif (dt_test (de_op rd_eq (de_var 0) (de_int 7))) (dsf_retcall (by decide) (da_cons (de_var 1) (da_cons (de_op rd_ixL (de_var 2) (de_int 4)) (da_cons (de_lst da_nil) da_nil)))) (dsf_retcall (by decide) (da_cons (de_op rd_ixL (de_var 2) (de_int 5)) (da_cons (de_op rd_ixL (de_var 2) (de_int 6)) da_nil))))))))
end
end Wl
namespace Wl
open PySem L2 Wb Wd
section
variable {P : Program} {w : World} {K : PySem.W.Frag} {mg : Str → Option Value} {base : Heap}
def p_law_error : FS := (sSeq (sSet 3 (mLst mNil))
    (sSeq (sTryF 4 4 (fDropCall m_law_ask (mCons (mVar 0) (mCons (mVar 1) (mCons (mVar 2) mNil)))) (((fun k => [true, false, false, false].getD k false), (fun k => [(sErrIdx 3 "row"), fun _ _ => none, fun _ _ => none, fun _ _ => none].getD k (fun _ _ => none))) :: ((fun k => [false, true, false, false].getD k false), (fun k => [fun _ _ => none, (sErrIdx 3 "written"), fun _ _ => none, fun _ _ => none].getD k (fun _ _ => none))) :: ((fun k => [true, true, true, true].getD k false), (fun k => [fun _ _ => none, fun _ _ => none, (oN (kSeq (sOwn 5 (mC (.lst ([true, false].map D.bl)))) (sSet 3 (mLc (mRng1 (mCons (mC (.int 2)) mNil)) (bName 6) (mThaw (mB (m2 gIxL (mVar 5) (mVar 6)))) (m2 gIxL (mLst (mCons (mC (.str "stand")) (mCons (mC (.str "size")) mNil))) (mVar 6)) [6])))), (oN (kSeq (sOwn 5 (mC (.lst ([false, true].map D.bl)))) (sSet 3 (mLc (mRng1 (mCons (mC (.int 2)) mNil)) (bName 6) (mThaw (mB (m2 gIxL (mVar 5) (mVar 6)))) (m2 gIxL (mLst (mCons (mC (.str "stand")) (mCons (mC (.str "size")) mNil))) (mVar 6)) [6]))))].getD k (fun _ _ => none))) :: []))
    (sRet (mVar 3))))
def m_law_error : List D → Option D := mRun 3 7 p_law_error
theorem ok_law_error (T : Env K mg) : FnOk P w K mg base CX0 9 T.f_law_error T.d_law_error ["_law_kind", "_law_writer", "_law_some"] (spD (cls T) true m_law_error) := fn_ok T.F_law_error sc_law_error 3 7 rfl rfl fun cdv A outer s H E hr => by
  refine ⟨_, (pss_cons (ps_set (i := 3) sc_law_error.nd rfl (Or.inl rfl) (pe_lst pa_nil))
    (pss_cons (WbN.ps_tryN rfl rfl sc_law_error.nd WbN.none0
      (fun W pn xe tk _ => (pss_one (ps_expr (pe_callS (ok_law_ask T) (hr.mono (by decide)) rfl T.m_law_ask T.F_law_ask.kp T.b_law_ask (fun σ => L2N.passAt tk σ) (pa_cons (pv 0) (pa_cons (pv 1) (pa_cons (pv 2) pa_nil)))))))
      (.cons (i := 4) ⟨rfl, by decide, .inl T.m_BadRow⟩ rfl rfl
      (fun a oe cls d pn hz hf => (pss_one (ps_set (i := 3) sc_law_error.nd rfl (Or.inl rfl) (pe_ifExp (pt_val (pe_callB (call_isX T.ex_BadRow hz.zc hf) (by rfl) T.z_isinstance (by decide +kernel) (pa_cons (pv 4) (pa_cons (pe_glob (v := .ref T.c_WriterError) rfl T.m_WriterError rfl) pa_nil)))) (pe_lst (pa_cons pe_str (pa_cons (pe_xf T.xf_BadRow T.no_BadRow_index hz.zc hf (pv 4)) pa_nil))) (pe_lst pa_nil)))))
      (.cons (i := 4) ⟨rfl, by decide, .inl T.m_BadWritten⟩ rfl rfl
      (fun a oe cls d pn hz hf => (pss_one (ps_set (i := 3) sc_law_error.nd rfl (Or.inl rfl) (pe_ifExp (pt_val (pe_callB (call_isX T.ex_BadWritten hz.zc hf) (by rfl) T.z_isinstance (by decide +kernel) (pa_cons (pv 4) (pa_cons (pe_glob (v := .ref T.c_WriterError) rfl T.m_WriterError rfl) pa_nil)))) (pe_lst (pa_cons pe_str (pa_cons (pe_xf T.xf_BadWritten T.no_BadWritten_index hz.zc hf (pv 4)) pa_nil))) (pe_lst pa_nil)))))
      (.cons (i := 4) ⟨rfl, by decide, .inl T.m_WriterError⟩ rfl rfl
      (fun a oe cls d pn hz hf => pss_exC (P := fun D1 => cls = .ref D1 ∧ d = none ∧ ExcC K D1) fun D1 hp => (pss_cons (ps_set (i := 5) sc_law_error.nd rfl (Or.inr rfl) (pe_lst (pa_cons (pe_callB (call_isE hp.2.2 (zc_of ⟨hp.1, hp.2.1⟩ hz.zc) hf) (by rfl) T.z_isinstance (by decide +kernel) (pa_cons (pv 4) (pa_cons (pe_glob (v := .ref T.c_BadStand) rfl T.m_BadStand rfl) pa_nil))) (pa_cons (pe_callB (call_isE hp.2.2 (zc_of ⟨hp.1, hp.2.1⟩ hz.zc) hf) (by rfl) T.z_isinstance (by decide +kernel) (pa_cons (pv 4) (pa_cons (pe_glob (v := .ref T.c_BadSize) rfl T.m_BadSize rfl) pa_nil))) pa_nil))))
        (pss_one (WbN.ps_setLcH (i := 3) (own := [("_law_k", 6)]) (g := gName 6) (WbN.hotS hz hf) sc_law_error.nd rfl rfl (sw_true rfl rfl rfl (by decide +kernel)) (L2H.pi_range1H rfl T.z_range (pa_cons pe_int pa_nil)) (blkOk_by (own := [("_law_k", 6)]) (N := n_law_error) (sc := defScope s_law_error) (by decide +kernel)) (fun _ _ _ _ _ => (pg_name (i := 6) sc_law_error.nd rfl (Or.inl rfl))) (fun _ _ _ _ _ => pts_one (pt_val (pe_ix (r := rIxL K) ix_list (pv 5) (pv 6) (fun _ _ => rfl)))) (fun _ _ _ _ _ => (pe_ix (r := rIxL K) ix_list (pe_lst (pa_cons pe_str (pa_cons pe_str pa_nil))) (pv 6) (fun _ _ => rfl)))))))
      .nil))))
    (pss_one (ps_ret (pv 3))))), ?_⟩
  unfold p_law_error
  exact (ds_seq (ds_set 3 (de_lst da_nil)) (ds_seq (ds_tryF (N := 4) (ex := exV T) (nm := "index") (fun W => (dsf_dropcall (by decide) (da_cons (de_var 0) (da_cons (de_var 1) (da_cons (de_var 2) da_nil))))) (.cons (t := fun k => [true, false, false, false].getD k false) (h := (fun k => [(sErrIdx 3 "row"), fun _ _ => none, fun _ _ => none, fun _ _ => none].getD k (fun _ _ => none))) (fun k hk => match k, hk with | 0, _ => T.ey_BadRow_BadRow | 1, _ => T.ey_BadWritten_BadRow | 2, _ => T.ey_BadStand_BadRow | 3, _ => T.ey_BadSize_BadRow | n + 4, hk => absurd hk (by omega)) (fun k hk ht => match k, hk, ht with | 0, _, _ => (dse_idxX 3 T.ky_BadRow_WriterError) | 1, _, hk => nomatch hk | 2, _, hk => nomatch hk | 3, _, hk => nomatch hk | n + 4, hk, _ => absurd hk (by omega)) (.cons (t := fun k => [false, true, false, false].getD k false) (h := (fun k => [fun _ _ => none, (sErrIdx 3 "written"), fun _ _ => none, fun _ _ => none].getD k (fun _ _ => none))) (fun k hk => match k, hk with | 0, _ => T.ey_BadRow_BadWritten | 1, _ => T.ey_BadWritten_BadWritten | 2, _ => T.ey_BadStand_BadWritten | 3, _ => T.ey_BadSize_BadWritten | n + 4, hk => absurd hk (by omega)) (fun k hk ht => match k, hk, ht with | 0, _, hk => nomatch hk | 1, _, _ => (dse_idxX 3 T.ky_BadWritten_WriterError) | 2, _, hk => nomatch hk | 3, _, hk => nomatch hk | n + 4, hk, _ => absurd hk (by omega)) (.cons (t := fun k => [true, true, true, true].getD k false) (h := (fun k => [fun _ _ => none, fun _ _ => none, (oN (kSeq (sOwn 5 (mC (.lst ([true, false].map D.bl)))) (sSet 3 (mLc (mRng1 (mCons (mC (.int 2)) mNil)) (bName 6) (mThaw (mB (m2 gIxL (mVar 5) (mVar 6)))) (m2 gIxL (mLst (mCons (mC (.str "stand")) (mCons (mC (.str "size")) mNil))) (mVar 6)) [6])))), (oN (kSeq (sOwn 5 (mC (.lst ([false, true].map D.bl)))) (sSet 3 (mLc (mRng1 (mCons (mC (.int 2)) mNil)) (bName 6) (mThaw (mB (m2 gIxL (mVar 5) (mVar 6)))) (m2 gIxL (mLst (mCons (mC (.str "stand")) (mCons (mC (.str "size")) mNil))) (mVar 6)) [6]))))].getD k (fun _ _ => none))) (fun k hk => match k, hk with | 0, _ => T.ey_BadRow_WriterError | 1, _ => T.ey_BadWritten_WriterError | 2, _ => T.ey_BadStand_WriterError | 3, _ => T.ey_BadSize_WriterError | n + 4, hk => absurd hk (by omega)) (fun k hk ht => match k, hk, ht with | 0, _, _ => DSE_no | 1, _, _ => DSE_no | 2, _, _ => (dse_exC T.xe_BadStand (dsi_seq (dsk_own (bs := [true, false]) 5 (by decide) (by decide) (fun a => (dai_cons T.ky_BadStand_BadStand (dai_cons T.ky_BadStand_BadSize dai_nil)))) (dsi_of (ds_set 3 (de_df (df_lc (DI.e (di_rng1 (da_cons (de_int 2) da_nil))) (dg_name 6 (by decide)) (dt_thaw (dt_B (de_op rd_ixL (de_var 5) (de_var 6)))) (de_op rd_ixL (de_lst (da_cons (de_str "stand") (da_cons (de_str "size") da_nil))) (de_var 6)))))))) | 3, _, _ => (dse_exC T.xe_BadSize (dsi_seq (dsk_own (bs := [false, true]) 5 (by decide) (by decide) (fun a => (dai_cons T.ky_BadSize_BadStand (dai_cons T.ky_BadSize_BadSize dai_nil)))) (dsi_of (ds_set 3 (de_df (df_lc (DI.e (di_rng1 (da_cons (de_int 2) da_nil))) (dg_name 6 (by decide)) (dt_thaw (dt_B (de_op rd_ixL (de_var 5) (de_var 6)))) (de_op rd_ixL (de_lst (da_cons (de_str "stand") (da_cons (de_str "size") da_nil))) (de_var 6)))))))) | n + 4, hk, _ => absurd hk (by omega)) .nil)))) (ds_ret (de_var 3))))
end
end Wl
namespace Wl
open PySem L2 Wb Wd
section
variable {P : Program} {w : World} {K : PySem.W.Frag} {mg : Str → Option Value} {base : Heap}
def p_law_due : FS := (sSeq (sSet 3 (mLst (mCons (mTup (mCons (mC (.str "size")) (mCons (mAndV (m2 gIxL (mVar 1) (mC (.int 5))) (m2 gIxL (mVar 1) (mC (.int 6)))) mNil))) mNil)))
    (sSeq (sIf (mB (m2 gLt (mVar 0) (mC (.int 2)))) (sSet 3 (mLst (mCons (mTup (mCons (mC (.str "row")) (mCons (m2 gIxL (mVar 1) (mC (.int 0))) mNil))) mNil))) (sIf (mB (m2 gLt (mVar 0) (mC (.int 6)))) (sSet 3 (mLst (mCons (mTup (mCons (mC (.str "written")) (mCons (m2 gIxL (mVar 1) (mC (.int 1))) mNil))) (mCons (mTup (mCons (mC (.str "stand")) (mCons (mOrV (m2 gIxL (mVar 1) (mC (.int 2))) (m2 gLt (mVar 0) (mC (.int 5)))) mNil))) mNil)))) (sIf (mB (m2 gLt (mVar 0) (mC (.int 8)))) (sSet 3 (mIf (mB (m2 (gEq false) (mVar 0) (mC (.int 6)))) (mLst (mCons (mTup (mCons (mC (.str "stand")) (mCons (m2 gIxL (mVar 1) (mC (.int 2))) mNil))) (mCons (mTup (mCons (mC (.str "size")) (mCons (m2 gIxL (mVar 1) (mC (.int 3))) mNil))) mNil))) (mLst (mCons (mTup (mCons (mC (.str "size")) (mCons (m2 gIxL (mVar 1) (mC (.int 4))) mNil))) mNil)))) sNx)))
    (sSeq (sOwn 4 (mSlL (mLc (mItL (mVar 3)) (bName 5) (mNot (mTru (m2 gIxT (mVar 5) (mC (.int 1))))) (m2 gIxT (mVar 5) (mC (.int 0))) [5]) mNoP (mPart (mC (.int 1)))))
    (sSeq (sIf (mThaw (mB (m2 (gEqP false) (mVar 4) (mLst (mCons (mC (.str "row")) mNil))))) (sApp 4 (m2 gIxL (mVar 2) (mC (.int 0)))) sNx)
    (sSeq (sIf (mThaw (mB (m2 (gEqP false) (mVar 4) (mLst (mCons (mC (.str "written")) mNil))))) (sApp 4 (m2 gIxL (mVar 2) (mC (.int 1)))) sNx)
    (sRet (mVar 4)))))))
def m_law_due : List D → Option D := mRun 3 6 p_law_due
theorem ok_law_due (T : Env K mg) : FnOk P w K mg base CX0 1 T.f_law_due T.d_law_due ["_law_kind", "_law_good", "_law_wrong"] (spD (cls T) false m_law_due) := fn_ok T.F_law_due sc_law_due 3 6 rfl rfl fun cdv A outer s H E hr => by
  refine ⟨_, (pss_cons (ps_set (i := 3) sc_law_due.nd rfl (Or.inl rfl) (pe_lst (pa_cons (pe_tup (pa_cons pe_str (pa_cons (pe_and (pe_ix (r := rIxL K) ix_list (pv 1) pe_int (fun _ _ => rfl)) (pe_one (pe_ix (r := rIxL K) ix_list (pv 1) pe_int (fun _ _ => rfl)))) pa_nil))) pa_nil)))
    (pss_cons (ps_if (pt_cmpR op_lt (pv 0) pe_int (nomark _))
      (pss_one (ps_set (i := 3) sc_law_due.nd rfl (Or.inl rfl) (pe_lst (pa_cons (pe_tup (pa_cons pe_str (pa_cons (pe_ix (r := rIxL K) ix_list (pv 1) pe_int (fun _ _ => rfl)) pa_nil))) pa_nil))))
      (pss_one (ps_if (pt_cmpR op_lt (pv 0) pe_int (nomark _))
        (pss_one (ps_set (i := 3) sc_law_due.nd rfl (Or.inl rfl) (pe_lst (pa_cons (pe_tup (pa_cons pe_str (pa_cons (pe_ix (r := rIxL K) ix_list (pv 1) pe_int (fun _ _ => rfl)) pa_nil))) (pa_cons (pe_tup (pa_cons pe_str (pa_cons (pe_or (pe_ix (r := rIxL K) ix_list (pv 1) pe_int (fun _ _ => rfl)) (pe_one (pe_cmpR op_lt (pv 0) pe_int (nomark _)))) pa_nil))) pa_nil)))))
        (pss_one (ps_if (pt_cmpR op_lt (pv 0) pe_int (nomark _))
          (pss_one (ps_set (i := 3) sc_law_due.nd rfl (Or.inl rfl) (pe_ifExp (pt_cmpR op_eq (pv 0) pe_int (nomark _)) (pe_lst (pa_cons (pe_tup (pa_cons pe_str (pa_cons (pe_ix (r := rIxL K) ix_list (pv 1) pe_int (fun _ _ => rfl)) pa_nil))) (pa_cons (pe_tup (pa_cons pe_str (pa_cons (pe_ix (r := rIxL K) ix_list (pv 1) pe_int (fun _ _ => rfl)) pa_nil))) pa_nil))) (pe_lst (pa_cons (pe_tup (pa_cons pe_str (pa_cons (pe_ix (r := rIxL K) ix_list (pv 1) pe_int (fun _ _ => rfl)) pa_nil))) pa_nil)))))
          pss_nil)))))
    (pss_cons (ps_set (i := 4) sc_law_due.nd rfl (Or.inl rfl) (pe_slice (r := rSlL K) sl_list (pe_lc (own := [("_law_one", 5)]) (g := gName 5) rfl sc_law_due.nd (pi_list (pv 3)) (blkOk_by (own := [("_law_one", 5)]) (N := n_law_due) (sc := defScope s_law_due) (by decide +kernel)) (fun _ _ _ _ _ => (pg_name (i := 5) sc_law_due.nd rfl (Or.inl rfl))) (fun _ _ _ _ _ => pts_one (pt_not (pt_truthK (K := K) rfl (pe_ix (r := rIxT K) ix_tup (pv 5) pe_int (fun _ _ => rfl)) (by intro _; rfl)))) (fun _ _ _ _ _ => (pe_ix (r := rIxT K) ix_tup (pv 5) pe_int (fun _ _ => rfl)))) po_none (po_some pe_int)))
    (pss_cons (ps_if (pt_cmpR (r := rEqD K) (op_eqD hr.units) (pv 4) (pe_lst (pa_cons pe_str pa_nil)) (nomark _))
      (pss_one (ps_expr (pe_bm PySem.F.plainAttrs_list PySem.F.slot_list_append PySem.F.type_list_append mt_append (pv 4) (pa_cons (pe_ix (r := rIxL K) ix_list (pv 2) pe_int (fun _ _ => rfl)) pa_nil))))
      pss_nil)
    (pss_cons (ps_if (pt_cmpR (r := rEqD K) (op_eqD hr.units) (pv 4) (pe_lst (pa_cons pe_str pa_nil)) (nomark _))
      (pss_one (ps_expr (pe_bm PySem.F.plainAttrs_list PySem.F.slot_list_append PySem.F.type_list_append mt_append (pv 4) (pa_cons (pe_ix (r := rIxL K) ix_list (pv 2) pe_int (fun _ _ => rfl)) pa_nil))))
      pss_nil)
    (pss_one (ps_ret (pv 4)))))))), ?_⟩
  unfold p_law_due
  exact (ds_seq (ds_set 3 (de_lst (da_cons (de_tup (da_cons (de_str "size") (da_cons (de_andV (de_op rd_ixL (de_var 1) (de_int 5)) (de_op rd_ixL (de_var 1) (de_int 6))) da_nil))) da_nil))) (ds_seq (ds_if (dt_test (de_op rd_lt (de_var 0) (de_int 2))) (ds_set 3 (de_lst (da_cons (de_tup (da_cons (de_str "row") (da_cons (de_op rd_ixL (de_var 1) (de_int 0)) da_nil))) da_nil))) (ds_if (dt_test (de_op rd_lt (de_var 0) (de_int 6))) (ds_set 3 (de_lst (da_cons (de_tup (da_cons (de_str "written") (da_cons (de_op rd_ixL (de_var 1) (de_int 1)) da_nil))) (da_cons (de_tup (da_cons (de_str "stand") (da_cons (de_orV (de_op rd_ixL (de_var 1) (de_int 2)) (de_op rd_lt (de_var 0) (de_int 5))) da_nil))) da_nil)))) (ds_if (dt_test (de_op rd_lt (de_var 0) (de_int 8))) (ds_set 3 (de_if (dt_test (de_op rd_eq (de_var 0) (de_int 6))) (de_lst (da_cons (de_tup (da_cons (de_str "stand") (da_cons (de_op rd_ixL (de_var 1) (de_int 2)) da_nil))) (da_cons (de_tup (da_cons (de_str "size") (da_cons (de_op rd_ixL (de_var 1) (de_int 3)) da_nil))) da_nil))) (de_lst (da_cons (de_tup (da_cons (de_str "size") (da_cons (de_op rd_ixL (de_var 1) (de_int 4)) da_nil))) da_nil)))) ds_nil))) (ds_seq (ds_own 4 (df_slL (de_df (df_lc (DI.e (di_list (de_var 3))) (dg_name 5 (by decide)) (dt_not (dt_tru (de_op rd_ixT (de_var 5) (de_int 1)))) (de_op rd_ixT (de_var 5) (de_int 0)))) do_none (do_some (de_int 1)))) (ds_seq (ds_if (dt_thaw (dt_test (de_op rd_eqD (de_var 4) (de_lst (da_cons (de_str "row") da_nil))))) (ds_app 4 (de_op rd_ixL (de_var 2) (de_int 0))) ds_nil) (ds_seq (ds_if (dt_thaw (dt_test (de_op rd_eqD (de_var 4) (de_lst (da_cons (de_str "written") da_nil))))) (ds_app 4 (de_op rd_ixL (de_var 2) (de_int 1))) ds_nil) (ds_ret (de_var 4)))))))
end
end Wl
namespace Wl
open PySem L2 Wb Wd
section
variable {P : Program} {w : World} {K : PySem.W.Frag} {mg : Str → Option Value} {base : Heap}
def p_law : FS := (sSeq (sOwn 2 (mLst (mCons (mLst (mCons (mTup (mCons (mC .non) (mCons (mC .non) mNil))) (mCons (mTup (mCons (mLst (mCons (mC (.int 0)) mNil)) (mCons (mC .non) mNil))) (mCons (mTup (mCons (m2 gRepT (mTup (mCons (mC (.int 0)) mNil)) (mC (.int 61))) (mCons (mC .non) mNil))) (mCons (mTup (mCons (mTup (mCons (mC (.int 0)) (mCons (mC (.int 2)) mNil))) (mCons (mC (.int 1)) mNil))) (mCons (mTup (mCons (mTup (mCons (m1 (fun d => (unI d).bind fun i => some (.int (-i))) (mC (.int 1))) mNil)) (mCons (mC (.int 0)) mNil))) (mCons (mTup (mCons (mTup (mCons (mC (.int 0)) (mCons (mC (.int 1)) (mCons (mC (.bl true)) mNil)))) (mCons (mC (.int 2)) mNil))) (mCons (mTup (mCons (mTup (mCons (mC (.str "0")) mNil)) (mCons (mC (.int 0)) mNil))) mNil)))))))) mNil)))
    (sSeq (sPutL 2 (m2 gCatL (mOwnIx 2 (mC (.int 0))) (mLst (mCons (mTup (mCons (mTup (mCons (mC (.int 0)) (mCons (mC .non) mNil))) (mCons (mC (.int 1)) mNil))) (mCons (mTup (mCons (mTup (mCons (mLst (mCons (mC (.int 0)) mNil)) mNil)) (mCons (mC (.int 0)) mNil))) mNil)))) (mC (.int 0)))
    (sSeq (sApp 2 (mLst (mCons (mTup (mCons (mC .non) (mCons (mC .non) mNil))) (mCons (mTup (mCons (mLst (mCons (mC (.int 0)) mNil)) (mCons (mC .non) mNil))) (mCons (mTup (mCons (m2 gRepT (mTup (mCons (mC (.int 0)) mNil)) (mC (.int 61))) (mCons (mC .non) mNil))) (mCons (mTup (mCons (mTup (mCons (mC (.int 0)) (mCons (mC (.int 4)) mNil))) (mCons (mC (.int 1)) mNil))) (mCons (mTup (mCons (mTup (mCons (m1 (fun d => (unI d).bind fun i => some (.int (-i))) (mC (.int 1))) mNil)) (mCons (mC (.int 0)) mNil))) (mCons (mTup (mCons (mTup (mCons (mC (.int 3)) (mCons (mC (.int 1)) (mCons (mC (.bl false)) mNil)))) (mCons (mC (.int 2)) mNil))) mNil))))))))
    (sSeq (sPutL 2 (m2 gCatL (mOwnIx 2 (mC (.int 1))) (mLst (mCons (mTup (mCons (mTup (mCons (mC (.str "0")) mNil)) (mCons (mC (.int 0)) mNil))) (mCons (mTup (mCons (mTup (mCons (mC (.int 0)) (mCons (mC .non) mNil))) (mCons (mC (.int 1)) mNil))) (mCons (mTup (mCons (mTup (mCons (mLst (mCons (mC (.int 0)) mNil)) mNil)) (mCons (mC (.int 0)) mNil))) mNil))))) (mC (.int 1)))
    (sSeq (sApp 2 (mLst (mCons (mTup (mCons (mC (.int 2)) (mCons (mC .non) mNil))) (mCons (mTup (mCons (m1 (fun d => (unI d).bind fun i => some (.int (-i))) (mC (.int 1))) (mCons (mC .non) mNil))) (mCons (mTup (mCons (mC .non) (mCons (mC .non) mNil))) (mCons (mTup (mCons (mC (.bl true)) (mCons (mC .non) mNil))) mNil))))))
    (sSeq (sApp 2 (mLst (mCons (mTup (mCons (mC (.int 0)) (mCons (mC .non) mNil))) (mCons (mTup (mCons (mC (.int 61)) (mCons (mC .non) mNil))) (mCons (mTup (mCons (mC .non) (mCons (mC .non) mNil))) (mCons (mTup (mCons (mC (.bl true)) (mCons (mC .non) mNil))) (mCons (mTup (mCons (mC (.str "1")) (mCons (mC .non) mNil))) mNil)))))))
    (sSeq (sApp 2 (mLst (mCons (mTup (mCons (m1 (fun d => (unI d).bind fun i => some (.int (-i))) (mC (.int 1))) (mCons (mC .non) mNil))) (mCons (mTup (mCons (mC (.int 61)) (mCons (mC .non) mNil))) (mCons (mTup (mCons (mC .non) (mCons (mC .non) mNil))) (mCons (mTup (mCons (mC (.bl false)) (mCons (mC .non) mNil))) mNil))))))
    (sSeq (sOwn 2 (mOwnCat 2 (mLst (mCons (mLst (mCons (mTup (mCons (mC (.int 0)) (mCons (mC .non) mNil))) (mCons (mTup (mCons (mC (.int 3)) (mCons (mC .non) mNil))) (mCons (mTup (mCons (mC .non) (mCons (mC .non) mNil))) (mCons (mTup (mCons (mC (.bl true)) (mCons (mC .non) mNil))) mNil))))) (mCons (mLst (mCons (mTup (mCons (mC (.int 0)) (mCons (mC .non) mNil))) (mCons (mTup (mCons (mC (.int 3)) (mCons (mC .non) mNil))) (mCons (mTup (mCons (mTup (mCons (mC (.int 1)) mNil)) (mCons (mC .non) mNil))) (mCons (mTup (mCons (mC (.bl true)) (mCons (mC .non) mNil))) mNil))))) mNil)))))
    (sSeq (sSet 3 (mLst (mCons (mLst (mCons (mTup mNil) (mCons (mTup (mCons (mC (.int 0)) (mCons (mC (.int 1)) mNil))) (mCons (m2 gRepT (mTup (mCons (mC (.int 1)) mNil)) (mC (.int 60))) mNil)))) (mCons (mLst (mCons (mTup mNil) (mCons (mTup (mCons (mC (.int 0)) (mCons (mC (.int 3)) mNil))) (mCons (mTup (mCons (mC (.int 0)) (mCons (mC (.int 1)) (mCons (mC (.int 0)) mNil)))) mNil)))) (mCons (mLst (mCons (mC (.int 0)) (mCons (mC (.int 1)) mNil))) (mCons (mLst (mCons (mC (.int 1)) (mCons (mC (.int 60)) mNil))) (mCons (mLst (mCons (mC (.int 0)) (mCons (mC (.int 60)) mNil))) (mCons (mLst (mCons (mC (.int 1)) mNil)) (mCons (mLst (mCons (mC (.int 1)) (mCons (mC (.int 2)) mNil))) mNil)))))))))
    (sSeq (sSetX 1 4 (mXs (gMake 6 "_table" m_check_table) (mXcons (mXs (fun ds => if okSize ds.length then some (.tup ds) else none) (mXcons (mX (i := 1) (mTup (mCons (mTup (mCons (mC (.int 0)) (mCons (mC (.int 0)) mNil))) (mCons (mTup (mCons (mC (.int 1)) (mCons (mC (.int 0)) mNil))) mNil)))) (mXcons (mXs (fun ds => if okSize ds.length then some (.tup ds) else none) (mXcons (mX (i := 1) (mTup (mCons (mC (.int 0)) (mCons (mC (.int 1)) mNil)))) (mXcons (mXs (fun ds => if okSize ds.length then some (.tup ds) else none) (mXcons (mX (i := 1) (mC (.int 1))) (mXcons (mXcall m_law_next (mXA (i := 1) (mCons (mC (.int 4)) mNil))) (mXA (i := 1) mNil)))) (mXA (i := 1) mNil)))) (mXA (i := 1) mNil)))) (mXA (i := 1) mNil))))
    (sSeq (sFor (mRng1 (mCons (mC (.int 12)) mNil)) (bName 5) (sSeq (sParX 1 6 7 (mXcons (mXcall m_law_next (mXA (i := 1) (mCons (mC (.int 9)) mNil))) (mXcons (mXlc 1 (mXA (i := 1) (mRng1 (mCons (mC (.int 7)) mNil))) (bName 8) (mXop (gEq false) (mXcall m_law_next (mXA (i := 1) (mCons (mC (.int 4)) mNil))) (mX (i := 1) (mC (.int 0)))) [8]) (mXA (i := 1) mNil))))
    (sSeq (sParOO 9 10 (mLst mNil) (mLst mNil))
    (sSeq (sFor (mRng1 (mCons (mC (.int 7)) mNil)) (bName 8) (sSeq (sSetX 1 11 (mXif (mXT (i := 1) (mB (m2 gIxL (mVar 7) (mVar 8)))) (mXcall m_law_pick (mXA (i := 1) (mCons (mOwnIx 2 (mVar 8)) mNil))) (mXs (fun ds => if okSize ds.length then some (.tup ds) else none) (mXcons (mXcall m_law_pick (mXA (i := 1) (mCons (m2 gIxL (mVar 3) (mVar 8)) mNil))) (mXA (i := 1) (mCons (mC .non) mNil))))))
    (sSeq (sApp 9 (m2 gIxT (mVar 11) (mC (.int 0))))
    (sApp 10 (m2 gIxT (mVar 11) (mC (.int 1)))))))
    (sIf (mThaw (mB (m2 (gEqP true) (mS m_law_error (mCons (mVar 6) (mCons (mVar 4) (mCons (mVar 9) mNil)))) (mS m_law_due (mCons (mVar 6) (mCons (mLc (mItL (mVar 7)) (bName 12) mYes (mNotV (mVar 12)) [12]) (mCons (mVar 10) mNil))))))) (sRet (mC (.bl false))) sNx)))))
    (sRet (mC (.bl true))))))))))))))
def spLaw (K : PySem.W.Frag) : Sp := fun vs H Q _ => ∃ (a : Addr) (ns : List Int), vs = [.ref a] ∧ SqL K H a (ns.map V.int) ∧ ns.length ≤ 63 ∧ ∀ H', Q (.bl true) H'
/-- what is left: the function of plain data yields True, whatever the source -/
def Holds : Prop := ∀ s : Wd.Src, s.cs.length ≤ 63 → ∃ ρ, p_law (withS 1 s (List.replicate 13 none)) = some (.rt (.bl true), ρ)
theorem ok_law_of (hh : Holds) (T : Env K mg) : FnOk P w K mg base CX0 10 T.f_law T.d_law ["_law_script"] (spLaw K) := by
  refine T.F_law.ok sc_law (fun vs H Q E h => ?_) (fun cdv A outer s H vs Q E hr h => ?_)
  · obtain ⟨a, ns, rfl, _⟩ := h
    rfl
  obtain ⟨a, ns, rfl, hS, hl, q⟩ := h
  refine ⟨_, (pss_cons (ps_set (i := 1) sc_law.nd rfl (Or.inr rfl) (pe_call (ok_law_mix T) (hr.mono (by decide)) rfl T.m_law_mix T.F_law_mix.kp T.b_law_mix .nil pass0 (pa_cons (pv 0) (pa_cons pe_int pa_nil))))
    (pss_cons (ps_set (i := 2) sc_law.nd rfl (Or.inl rfl) (pe_lst (pa_cons (pe_lst (pa_cons (pe_tup (pa_cons pe_non (pa_cons pe_non pa_nil))) (pa_cons (pe_tup (pa_cons (pe_lst (pa_cons pe_int pa_nil)) (pa_cons pe_non pa_nil))) (pa_cons (pe_tup (pa_cons (pe_op (r := rRepT K) op_repT (pe_tup (pa_cons pe_int pa_nil)) pe_int) (pa_cons pe_non pa_nil))) (pa_cons (pe_tup (pa_cons (pe_tup (pa_cons pe_int (pa_cons pe_int pa_nil))) (pa_cons pe_int pa_nil))) (pa_cons (pe_tup (pa_cons (pe_tup (pa_cons (pe_un un_neg pe_int) pa_nil)) (pa_cons pe_int pa_nil))) (pa_cons (pe_tup (pa_cons (pe_tup (pa_cons pe_int (pa_cons pe_int (pa_cons pe_bl pa_nil)))) (pa_cons pe_int pa_nil))) (pa_cons (pe_tup (pa_cons (pe_tup (pa_cons pe_str pa_nil)) (pa_cons pe_int pa_nil))) pa_nil)))))))) pa_nil)))
    (pss_cons (ps_asg (pe_op op_cat (pe_ix (r := rIxL K) ix_list (pv 2) pe_int (fun _ _ => rfl)) (pe_lst (pa_cons (pe_tup (pa_cons (pe_tup (pa_cons pe_int (pa_cons pe_non pa_nil))) (pa_cons pe_int pa_nil))) (pa_cons (pe_tup (pa_cons (pe_tup (pa_cons (pe_lst (pa_cons pe_int pa_nil)) pa_nil)) (pa_cons pe_int pa_nil))) pa_nil)))) (pg_sub (pv 2) pe_int set_list))
    (pss_cons (ps_expr (pe_bm PySem.F.plainAttrs_list PySem.F.slot_list_append PySem.F.type_list_append mt_append (pv 2) (pa_cons (pe_lst (pa_cons (pe_tup (pa_cons pe_non (pa_cons pe_non pa_nil))) (pa_cons (pe_tup (pa_cons (pe_lst (pa_cons pe_int pa_nil)) (pa_cons pe_non pa_nil))) (pa_cons (pe_tup (pa_cons (pe_op (r := rRepT K) op_repT (pe_tup (pa_cons pe_int pa_nil)) pe_int) (pa_cons pe_non pa_nil))) (pa_cons (pe_tup (pa_cons (pe_tup (pa_cons pe_int (pa_cons pe_int pa_nil))) (pa_cons pe_int pa_nil))) (pa_cons (pe_tup (pa_cons (pe_tup (pa_cons (pe_un un_neg pe_int) pa_nil)) (pa_cons pe_int pa_nil))) (pa_cons (pe_tup (pa_cons (pe_tup (pa_cons pe_int (pa_cons pe_int (pa_cons pe_bl pa_nil)))) (pa_cons pe_int pa_nil))) pa_nil))))))) pa_nil)))
    (pss_cons (ps_asg (pe_op op_cat (pe_ix (r := rIxL K) ix_list (pv 2) pe_int (fun _ _ => rfl)) (pe_lst (pa_cons (pe_tup (pa_cons (pe_tup (pa_cons pe_str pa_nil)) (pa_cons pe_int pa_nil))) (pa_cons (pe_tup (pa_cons (pe_tup (pa_cons pe_int (pa_cons pe_non pa_nil))) (pa_cons pe_int pa_nil))) (pa_cons (pe_tup (pa_cons (pe_tup (pa_cons (pe_lst (pa_cons pe_int pa_nil)) pa_nil)) (pa_cons pe_int pa_nil))) pa_nil))))) (pg_sub (pv 2) pe_int set_list))
    (pss_cons (ps_expr (pe_bm PySem.F.plainAttrs_list PySem.F.slot_list_append PySem.F.type_list_append mt_append (pv 2) (pa_cons (pe_lst (pa_cons (pe_tup (pa_cons pe_int (pa_cons pe_non pa_nil))) (pa_cons (pe_tup (pa_cons (pe_un un_neg pe_int) (pa_cons pe_non pa_nil))) (pa_cons (pe_tup (pa_cons pe_non (pa_cons pe_non pa_nil))) (pa_cons (pe_tup (pa_cons pe_bl (pa_cons pe_non pa_nil))) pa_nil))))) pa_nil)))
    (pss_cons (ps_expr (pe_bm PySem.F.plainAttrs_list PySem.F.slot_list_append PySem.F.type_list_append mt_append (pv 2) (pa_cons (pe_lst (pa_cons (pe_tup (pa_cons pe_int (pa_cons pe_non pa_nil))) (pa_cons (pe_tup (pa_cons pe_int (pa_cons pe_non pa_nil))) (pa_cons (pe_tup (pa_cons pe_non (pa_cons pe_non pa_nil))) (pa_cons (pe_tup (pa_cons pe_bl (pa_cons pe_non pa_nil))) (pa_cons (pe_tup (pa_cons pe_str (pa_cons pe_non pa_nil))) pa_nil)))))) pa_nil)))
    (pss_cons (ps_expr (pe_bm PySem.F.plainAttrs_list PySem.F.slot_list_append PySem.F.type_list_append mt_append (pv 2) (pa_cons (pe_lst (pa_cons (pe_tup (pa_cons (pe_un un_neg pe_int) (pa_cons pe_non pa_nil))) (pa_cons (pe_tup (pa_cons pe_int (pa_cons pe_non pa_nil))) (pa_cons (pe_tup (pa_cons pe_non (pa_cons pe_non pa_nil))) (pa_cons (pe_tup (pa_cons pe_bl (pa_cons pe_non pa_nil))) pa_nil))))) pa_nil)))
    (pss_cons (ps_set (i := 2) sc_law.nd rfl (Or.inl rfl) (pe_op op_cat (pv 2) (pe_lst (pa_cons (pe_lst (pa_cons (pe_tup (pa_cons pe_int (pa_cons pe_non pa_nil))) (pa_cons (pe_tup (pa_cons pe_int (pa_cons pe_non pa_nil))) (pa_cons (pe_tup (pa_cons pe_non (pa_cons pe_non pa_nil))) (pa_cons (pe_tup (pa_cons pe_bl (pa_cons pe_non pa_nil))) pa_nil))))) (pa_cons (pe_lst (pa_cons (pe_tup (pa_cons pe_int (pa_cons pe_non pa_nil))) (pa_cons (pe_tup (pa_cons pe_int (pa_cons pe_non pa_nil))) (pa_cons (pe_tup (pa_cons (pe_tup (pa_cons pe_int pa_nil)) (pa_cons pe_non pa_nil))) (pa_cons (pe_tup (pa_cons pe_bl (pa_cons pe_non pa_nil))) pa_nil))))) pa_nil)))))
    (pss_cons (ps_set (i := 3) sc_law.nd rfl (Or.inl rfl) (pe_lst (pa_cons (pe_lst (pa_cons (pe_tup pa_nil) (pa_cons (pe_tup (pa_cons pe_int (pa_cons pe_int pa_nil))) (pa_cons (pe_op (r := rRepT K) op_repT (pe_tup (pa_cons pe_int pa_nil)) pe_int) pa_nil)))) (pa_cons (pe_lst (pa_cons (pe_tup pa_nil) (pa_cons (pe_tup (pa_cons pe_int (pa_cons pe_int pa_nil))) (pa_cons (pe_tup (pa_cons pe_int (pa_cons pe_int (pa_cons pe_int pa_nil)))) pa_nil)))) (pa_cons (pe_lst (pa_cons pe_int (pa_cons pe_int pa_nil))) (pa_cons (pe_lst (pa_cons pe_int (pa_cons pe_int pa_nil))) (pa_cons (pe_lst (pa_cons pe_int (pa_cons pe_int pa_nil))) (pa_cons (pe_lst (pa_cons pe_int pa_nil)) (pa_cons (pe_lst (pa_cons pe_int (pa_cons pe_int pa_nil))) pa_nil)))))))))
    (pss_cons (ps_set (i := 4) sc_law.nd rfl (Or.inl rfl) (pe_make T.mk_Writer (ok_Writer_init T) (hr.mono (by decide)) (by rfl) T.m_Writer T.b_Writer_init .nil pass0 (pa_cons (pe_tup (pa_cons (pe_tup (pa_cons (pe_tup (pa_cons pe_int (pa_cons pe_int pa_nil))) (pa_cons (pe_tup (pa_cons pe_int (pa_cons pe_int pa_nil))) pa_nil))) (pa_cons (pe_tup (pa_cons (pe_tup (pa_cons pe_int (pa_cons pe_int pa_nil))) (pa_cons (pe_tup (pa_cons pe_int (pa_cons (pe_call (ok_law_next T) (hr.mono (by decide)) rfl T.m_law_next T.F_law_next.kp T.b_law_next .nil pass0 (pa_cons (pv 1) (pa_cons pe_int pa_nil))) pa_nil))) pa_nil))) pa_nil))) pa_nil)))
    (pss_cons (ps_for PassesOwn.never rfl (pi_range1 rfl T.z_range (pa_cons pe_int pa_nil)) (pg_name (i := 5) sc_law.nd rfl (Or.inl rfl))
      (pss_cons (ps_par (i := 6) (j := 7) (by rfl) sc_law.nd rfl rfl (by decide) rfl rfl (pa_cons (pe_call (ok_law_next T) (hr.mono (by decide)) rfl T.m_law_next T.F_law_next.kp T.b_law_next .nil pass0 (pa_cons (pv 1) (pa_cons pe_int pa_nil))) (pa_cons (pe_lc (own := [("_law_k", 8)]) (g := gName 8) rfl sc_law.nd (pi_range1 rfl T.z_range (pa_cons pe_int pa_nil)) (blkOk_by (own := [("_law_k", 8)]) (N := n_law) (sc := defScope s_law) (by decide +kernel)) (fun _ _ _ _ _ => (pg_name (i := 8) sc_law.nd rfl (Or.inl rfl))) (fun _ _ _ _ _ => pts_nil) (fun _ _ _ _ _ => (pe_cmpR op_eq (pe_call (ok_law_next T) (hr.mono (by decide)) rfl T.m_law_next T.F_law_next.kp T.b_law_next .nil pass0 (pa_cons (pv 1) (pa_cons pe_int pa_nil))) pe_int (nomark _)))) pa_nil)) (by rfl))
      (pss_cons (ps_par (i := 9) (j := 10) (by rfl) sc_law.nd rfl rfl (by decide) rfl rfl (pa_cons (pe_lst pa_nil) (pa_cons (pe_lst pa_nil) pa_nil)) (by rfl))
      (pss_cons (ps_for PassesOwn.never rfl (pi_range1 rfl T.z_range (pa_cons pe_int pa_nil)) (pg_name (i := 8) sc_law.nd rfl (Or.inl rfl))
        (pss_cons (ps_set (i := 11) sc_law.nd rfl (Or.inl rfl) (pe_ifExp (pt_val (pe_ix (r := rIxL K) ix_list (pv 7) (pv 8) (fun _ _ => rfl))) (pe_call (ok_law_pick T) (hr.mono (by decide)) rfl T.m_law_pick T.F_law_pick.kp T.b_law_pick .nil pass0 (pa_cons (pv 1) (pa_cons (pe_ix (r := rIxL K) ix_list (pv 2) (pv 8) (fun _ _ => rfl)) pa_nil))) (pe_tup (pa_cons (pe_call (ok_law_pick T) (hr.mono (by decide)) rfl T.m_law_pick T.F_law_pick.kp T.b_law_pick .nil pass0 (pa_cons (pv 1) (pa_cons (pe_ix (r := rIxL K) ix_list (pv 3) (pv 8) (fun _ _ => rfl)) pa_nil))) (pa_cons pe_non pa_nil)))))
        (pss_cons (ps_expr (pe_bm PySem.F.plainAttrs_list PySem.F.slot_list_append PySem.F.type_list_append mt_append (pv 9) (pa_cons (pe_ix (r := rIxT K) ix_tup (pv 11) pe_int (fun _ _ => rfl)) pa_nil)))
        (pss_one (ps_expr (pe_bm PySem.F.plainAttrs_list PySem.F.slot_list_append PySem.F.type_list_append mt_append (pv 10) (pa_cons (pe_ix (r := rIxT K) ix_tup (pv 11) pe_int (fun _ _ => rfl)) pa_nil)))))))
      (pss_one (ps_if (pt_cmpR (r := rNeD K) (op_neD hr.units) (pe_call (ok_law_error T) (hr.mono (by decide)) rfl T.m_law_error T.F_law_error.kp T.b_law_error .nil pass0 (pa_cons (pv 6) (pa_cons (pv 4) (pa_cons (pv 9) pa_nil)))) (pe_call (ok_law_due T) (hr.mono (by decide)) rfl T.m_law_due T.F_law_due.kp T.b_law_due .nil pass0 (pa_cons (pv 6) (pa_cons (pe_lc (own := [("_law_one", 12)]) (g := gName 12) rfl sc_law.nd (pi_list (pv 7)) (blkOk_by (own := [("_law_one", 12)]) (N := n_law) (sc := defScope s_law) (by decide +kernel)) (fun _ _ _ _ _ => (pg_name (i := 12) sc_law.nd rfl (Or.inl rfl))) (fun _ _ _ _ _ => pts_nil) (fun _ _ _ _ _ => (pe_not (pv 12)))) (pa_cons (pv 10) pa_nil)))) (nomark _))
        (pss_one (ps_ret pe_bl))
        pss_nil))))))
    (pss_one (ps_ret pe_bl)))))))))))))), ?_⟩
  refine ⟨_, rfl, a, ns, 13, rfl, hS, hl, fun h l H0 s0 nh0 nl0 S0 => ?_⟩
  obtain ⟨ne, st, k, cs, e1, e2, e3⟩ := S0
  obtain ⟨ρ, hp⟩ := hh ⟨st, cs, k⟩ e3
  dsimp only [gName]
  refine law_run (C := cls T) (i := 1) (n := 13) (h := h) (l := l) (by decide) rfl rfl ⟨ne, e1, e2, e3⟩ hp q ?_
  unfold p_law
  exact (ds_seq (ds_own 2 (df_lst (da_cons (de_lst (da_cons (de_tup (da_cons de_non (da_cons de_non da_nil))) (da_cons (de_tup (da_cons (de_lst (da_cons (de_int 0) da_nil)) (da_cons de_non da_nil))) (da_cons (de_tup (da_cons (de_op rd_repT (de_tup (da_cons (de_int 0) da_nil)) (de_int 61)) (da_cons de_non da_nil))) (da_cons (de_tup (da_cons (de_tup (da_cons (de_int 0) (da_cons (de_int 2) da_nil))) (da_cons (de_int 1) da_nil))) (da_cons (de_tup (da_cons (de_tup (da_cons (de_un rd_neg (de_int 1)) da_nil)) (da_cons (de_int 0) da_nil))) (da_cons (de_tup (da_cons (de_tup (da_cons (de_int 0) (da_cons (de_int 1) (da_cons (de_bl true) da_nil)))) (da_cons (de_int 2) da_nil))) (da_cons (de_tup (da_cons (de_tup (da_cons (de_str "0") da_nil)) (da_cons (de_int 0) da_nil))) da_nil)))))))) da_nil))) (ds_seq (ds_putL 2 (de_op rd_catL (de_ixOwnL 2 (de_int 0)) (de_lst (da_cons (de_tup (da_cons (de_tup (da_cons (de_int 0) (da_cons de_non da_nil))) (da_cons (de_int 1) da_nil))) (da_cons (de_tup (da_cons (de_tup (da_cons (de_lst (da_cons (de_int 0) da_nil)) da_nil)) (da_cons (de_int 0) da_nil))) da_nil)))) (de_int 0)) (ds_seq (ds_app 2 (de_lst (da_cons (de_tup (da_cons de_non (da_cons de_non da_nil))) (da_cons (de_tup (da_cons (de_lst (da_cons (de_int 0) da_nil)) (da_cons de_non da_nil))) (da_cons (de_tup (da_cons (de_op rd_repT (de_tup (da_cons (de_int 0) da_nil)) (de_int 61)) (da_cons de_non da_nil))) (da_cons (de_tup (da_cons (de_tup (da_cons (de_int 0) (da_cons (de_int 4) da_nil))) (da_cons (de_int 1) da_nil))) (da_cons (de_tup (da_cons (de_tup (da_cons (de_un rd_neg (de_int 1)) da_nil)) (da_cons (de_int 0) da_nil))) (da_cons (de_tup (da_cons (de_tup (da_cons (de_int 3) (da_cons (de_int 1) (da_cons (de_bl false) da_nil)))) (da_cons (de_int 2) da_nil))) da_nil)))))))) (ds_seq (ds_putL 2 (de_op rd_catL (de_ixOwnL 2 (de_int 1)) (de_lst (da_cons (de_tup (da_cons (de_tup (da_cons (de_str "0") da_nil)) (da_cons (de_int 0) da_nil))) (da_cons (de_tup (da_cons (de_tup (da_cons (de_int 0) (da_cons de_non da_nil))) (da_cons (de_int 1) da_nil))) (da_cons (de_tup (da_cons (de_tup (da_cons (de_lst (da_cons (de_int 0) da_nil)) da_nil)) (da_cons (de_int 0) da_nil))) da_nil))))) (de_int 1)) (ds_seq (ds_app 2 (de_lst (da_cons (de_tup (da_cons (de_int 2) (da_cons de_non da_nil))) (da_cons (de_tup (da_cons (de_un rd_neg (de_int 1)) (da_cons de_non da_nil))) (da_cons (de_tup (da_cons de_non (da_cons de_non da_nil))) (da_cons (de_tup (da_cons (de_bl true) (da_cons de_non da_nil))) da_nil)))))) (ds_seq (ds_app 2 (de_lst (da_cons (de_tup (da_cons (de_int 0) (da_cons de_non da_nil))) (da_cons (de_tup (da_cons (de_int 61) (da_cons de_non da_nil))) (da_cons (de_tup (da_cons de_non (da_cons de_non da_nil))) (da_cons (de_tup (da_cons (de_bl true) (da_cons de_non da_nil))) (da_cons (de_tup (da_cons (de_str "1") (da_cons de_non da_nil))) da_nil))))))) (ds_seq (ds_app 2 (de_lst (da_cons (de_tup (da_cons (de_un rd_neg (de_int 1)) (da_cons de_non da_nil))) (da_cons (de_tup (da_cons (de_int 61) (da_cons de_non da_nil))) (da_cons (de_tup (da_cons de_non (da_cons de_non da_nil))) (da_cons (de_tup (da_cons (de_bl false) (da_cons de_non da_nil))) da_nil)))))) (ds_seq (ds_own 2 (df_catOwn 2 (de_lst (da_cons (de_lst (da_cons (de_tup (da_cons (de_int 0) (da_cons de_non da_nil))) (da_cons (de_tup (da_cons (de_int 3) (da_cons de_non da_nil))) (da_cons (de_tup (da_cons de_non (da_cons de_non da_nil))) (da_cons (de_tup (da_cons (de_bl true) (da_cons de_non da_nil))) da_nil))))) (da_cons (de_lst (da_cons (de_tup (da_cons (de_int 0) (da_cons de_non da_nil))) (da_cons (de_tup (da_cons (de_int 3) (da_cons de_non da_nil))) (da_cons (de_tup (da_cons (de_tup (da_cons (de_int 1) da_nil)) (da_cons de_non da_nil))) (da_cons (de_tup (da_cons (de_bl true) (da_cons de_non da_nil))) da_nil))))) da_nil))))) (ds_seq (ds_set 3 (de_lst (da_cons (de_lst (da_cons (de_tup da_nil) (da_cons (de_tup (da_cons (de_int 0) (da_cons (de_int 1) da_nil))) (da_cons (de_op rd_repT (de_tup (da_cons (de_int 1) da_nil)) (de_int 60)) da_nil)))) (da_cons (de_lst (da_cons (de_tup da_nil) (da_cons (de_tup (da_cons (de_int 0) (da_cons (de_int 3) da_nil))) (da_cons (de_tup (da_cons (de_int 0) (da_cons (de_int 1) (da_cons (de_int 0) da_nil)))) da_nil)))) (da_cons (de_lst (da_cons (de_int 0) (da_cons (de_int 1) da_nil))) (da_cons (de_lst (da_cons (de_int 1) (da_cons (de_int 60) da_nil))) (da_cons (de_lst (da_cons (de_int 0) (da_cons (de_int 60) da_nil))) (da_cons (de_lst (da_cons (de_int 1) da_nil)) (da_cons (de_lst (da_cons (de_int 1) (da_cons (de_int 2) da_nil))) da_nil))))))))) (ds_seq (ds_setX (i := 1) 4 (dx_make (c := 6) (by decide) (dxa_cons (dx_tup (dxa_cons (dx_pure (de_tup (da_cons (de_tup (da_cons (de_int 0) (da_cons (de_int 0) da_nil))) (da_cons (de_tup (da_cons (de_int 1) (da_cons (de_int 0) da_nil))) da_nil)))) (dxa_cons (dx_tup (dxa_cons (dx_pure (de_tup (da_cons (de_int 0) (da_cons (de_int 1) da_nil)))) (dxa_cons (dx_tup (dxa_cons (dx_pure (de_int 1)) (dxa_cons (dx_callS (by decide) (dxa_pure (da_cons (de_int 4) da_nil))) (dxa_pure da_nil)))) (dxa_pure da_nil)))) (dxa_pure da_nil)))) (dxa_pure da_nil)))) (ds_seq (ds_for (vs := [5]) (di_rng1 (da_cons (de_int 12) da_nil)) (dg_name 5 (by decide)) (ds_seq (ds_parX (i := 1) 6 7 (dxa_cons (dx_callS (by decide) (dxa_pure (da_cons (de_int 9) da_nil))) (dxa_cons (dx_lc (g := gName 0) 8 (vs := [8]) (by decide) (by decide) (dxi_pure (di_rng1 (da_cons (de_int 7) da_nil))) (dx_op rd_eq (dx_callS (by decide) (dxa_pure (da_cons (de_int 4) da_nil))) (dx_pure (de_int 0)))) (dxa_pure da_nil)))) (ds_seq (ds_parOO 9 10 (df_lst da_nil) (df_lst da_nil)) (ds_seq (ds_for (vs := [8]) (di_rng1 (da_cons (de_int 7) da_nil)) (dg_name 8 (by decide)) (ds_seq (ds_setX (i := 1) 11 (dx_if (dxt_pure (dt_B (de_op rd_ixL (de_var 7) (de_var 8)))) (dx_callS (by decide) (dxa_pure (da_cons (de_ixOwnL 2 (de_var 8)) da_nil))) (dx_tup (dxa_cons (dx_callS (by decide) (dxa_pure (da_cons (de_op rd_ixL (de_var 3) (de_var 8)) da_nil))) (dxa_pure (da_cons de_non da_nil)))))) (ds_seq (ds_app 9 (de_op rd_ixT (de_var 11) (de_int 0))) (ds_app 10 (de_op rd_ixT (de_var 11) (de_int 1)))))) (ds_if (dt_thaw (dt_test (de_op rd_neD (de_call (by decide) (da_cons (de_var 6) (da_cons (de_var 4) (da_cons (de_var 9) da_nil)))) (de_call (by decide) (da_cons (de_var 6) (da_cons (de_df (df_lc (DI.e (di_list (de_var 7))) (dg_name 12 (by decide)) dt_yes (de_notV (de_var 12)))) (da_cons (de_var 10) da_nil))))))) (ds_ret (de_bl false)) ds_nil))))) (ds_ret (de_bl true)))))))))))))
end
end Wl
namespace Wl
open PySem L2 Wb Wd
theorem gEqN (a b : Nat) : gEq false (.int (a : Int)) (.int (b : Int)) = some (.bl (decide (a = b))) := by
  have e : scal (V.int (a : Int)) (V.int (b : Int)) = true := rfl
  unfold gEq
  show (if scal (V.int (a : Int)) (V.int (b : Int)) = true then some (D.bl (false ^^ decide (V.int (a : Int) = V.int (b : Int)))) else none) = _
  rw [e, if_pos rfl, Bool.false_xor]
  congr 2
  rw [decide_eq_decide]
  exact ⟨fun z => by injection z with z; omega, fun z => by rw [z]⟩
section
variable {p q : FS} {ρ ρ1 ρ' : En} {f : FE} {d : D} {i : Nat} {b : D → En → Option En} {fl : Fl}
theorem sSeq_nx (h : p ρ = some (.nx, ρ1)) : sSeq p q ρ = q ρ1 := by unfold sSeq; rw [h]; rfl
theorem sRet_ev (h : f (thaw ρ) = some d) : sRet f ρ = some (.rt d, thaw ρ) := by unfold sRet; rw [h]; rfl
theorem sIf_ev {g : En → Option Bool} {c : Bool} (h : g ρ = some c) : sIf g p q ρ = if c then p ρ else q ρ := by unfold sIf; rw [h]; rfl
theorem sFor_ev {fi : En → Option (List D)} {ds : List D} {r : Fl × En} (h : fi ρ = some ds) (h' : forD b p ds ρ = some r) : sFor fi b p ρ = some r := by unfold sFor; rw [h]; exact h'
theorem mRun_ev {np n : Nat} {ds : List D} (hl : ds.length = np) (h : p (ds.map (fun d => some (.shr d)) ++ List.replicate (n - np) none) = some (.rt d, ρ')) : mRun np n p ds = some d := by unfold mRun; rw [if_pos hl, h]; rfl
theorem mS_ev {g : List D → Option D} {fs : En → Option (List D)} {ds : List D} (h : fs ρ = some ds) (h' : g ds = some d) : mS g fs ρ = some d := by unfold mS; rw [h]; exact h'
theorem m2_ev {g : D → D → Option D} {f f' : FE} {a b d : D} (h : f ρ = some a) (h2 : f' ρ = some b) (h' : g a b = some d) : m2 g f f' ρ = some d := by unfold m2; rw [h, Option.bind_some, h2]; exact h'
theorem mB_ev {c : Bool} (h : f ρ = some (.bl c)) : mB f ρ = some c := by unfold mB; rw [h]; rfl
theorem mCons_ev {fs : En → Option (List D)} {ds : List D} (h : f ρ = some d) (h' : fs ρ = some ds) : mCons f fs ρ = some (d :: ds) := by unfold mCons; rw [h, Option.bind_some, h']; rfl
theorem mOne_ev (h : f ρ = some d) : mCons f mNil ρ = some [d] := mCons_ev h rfl
theorem sz_of {k : Nat} (h : k ≤ 1000000) : okSize k = true := decide_eq_true h
theorem mLc_ev {fi : En → Option (List D)} {ft : En → Option Bool} {fe : FE} {vs : List Nat} {ds r : List D} (h : fi ρ = some ds) (h' : lcD b ft fe (wipeD ρ vs) ds = some r) (hl : r.length ≤ 1000000) : mLc fi b ft fe vs ρ = some (.lst r) := by
  unfold mLc
  rw [h, Option.bind_some, h', Option.bind_some, sz_of hl, if_pos rfl]
end
def wrE (t : Tab) : D := .obj 6 ["_table"] [tabE t]
theorem chain_ev {f f' f3 : FE} {ρ : En} {i j k : Int} (h1 : f ρ = some (.int i)) (h2 : f' ρ = some (.int j)) (h3 : f3 ρ = some (.int k)) (hi : i ≤ j) (hk : j ≤ k) : mChain gLe gLe f f' f3 ρ = some (.bl true) := by
  have e1 : gLe (.int i) (.int j) = some (.bl true) := by show some (D.bl (decide (i ≤ j))) = _; rw [decide_eq_true hi]
  have e2 : gLe (.int j) (.int k) = some (.bl true) := by show some (D.bl (decide (j ≤ k))) = _; rw [decide_eq_true hk]
  unfold mChain
  rw [h1, Option.bind_some, h2, Option.bind_some, e1, Option.bind_some]
  show (f3 ρ).bind _ = _
  rw [h3]
  exact e2
theorem andV_ev {f f' : FE} {ρ : En} (h : f ρ = some (.bl true)) (h' : f' ρ = some (.bl true)) : mAndV f f' ρ = some (.bl true) := by
  unfold mAndV
  rw [mB_ev h, Option.bind_some, if_pos rfl, h']
theorem tupleOf_ev {xs : List D} {a b : Int} (hp : D.plains xs = true) (ha : a ≤ (xs.length : Int)) (hb : (xs.length : Int) ≤ b) : m_is_tuple_of [.tup xs, .int a, .int b] = some (.bl true) := by
  refine mRun_ev rfl (ρ' := _) (sRet_ev (andV_ev ?_ (chain_ev rfl rfl rfl ha hb)))
  show (if (D.tup xs).plain then some (D.bl (isA (D.tup xs).py "tuple")) else none) = _
  rw [show (D.tup xs).plain = true from hp, if_pos rfl]
  rfl
theorem between_ev {i a b : Int} (ha : a ≤ i) (hb : i ≤ b) : m_is_between [.int i, .int a, .int b] = some (.bl true) :=
  mRun_ev rfl (ρ' := _) (sRet_ev (andV_ev rfl (andV_ev rfl (chain_ev rfl rfl rfl ha hb))))
section
open PySem.W
abbrev QT := D × D × Bool
def tW (x : Nat) : Tab := [[(0, 0), (1, 0)], [(0, 1), (1, x)]]
def T0 : List QT := [(.non, .non, false), (.lst [.int 0], .non, false), (.tup (List.replicate 61 (.int 0)), .non, false), (.tup [.int 0, .int 2], .int 1, false), (.tup [.int (-1)], .int 0, false), (.tup [.int 0, .int 1, .bl true], .int 2, false), (.tup [.str "0"], .int 0, false), (.tup [.int 0, .non], .int 1, false), (.tup [.lst [.int 0]], .int 0, false), (.tup [], .non, true), (.tup [.int 0, .int 1], .non, true), (.tup (List.replicate 60 (.int 1)), .non, true)]
def T1 : List QT := [(.non, .non, false), (.lst [.int 0], .non, false), (.tup (List.replicate 61 (.int 0)), .non, false), (.tup [.int 0, .int 4], .int 1, false), (.tup [.int (-1)], .int 0, false), (.tup [.int 3, .int 1, .bl false], .int 2, false), (.tup [.str "0"], .int 0, false), (.tup [.int 0, .non], .int 1, false), (.tup [.lst [.int 0]], .int 0, false), (.tup [], .non, true), (.tup [.int 0, .int 3], .non, true), (.tup [.int 0, .int 1, .int 0], .non, true)]
def T2 : List QT := [(.int 2, .non, false), (.int (-1), .non, false), (.non, .non, false), (.bl true, .non, false), (.int 0, .non, true), (.int 1, .non, true)]
def T3 : List QT := [(.int 0, .non, false), (.int 61, .non, false), (.non, .non, false), (.bl true, .non, false), (.str "1", .non, false), (.int 1, .non, true), (.int 60, .non, true)]
def T4 : List QT := [(.int (-1), .non, false), (.int 61, .non, false), (.non, .non, false), (.bl false, .non, false), (.int 0, .non, true), (.int 60, .non, true)]
def T5 : List QT := [(.int 0, .non, false), (.int 3, .non, false), (.non, .non, false), (.bl true, .non, false), (.int 1, .non, true)]
def T6 : List QT := [(.int 0, .non, false), (.int 3, .non, false), (.tup [.int 1], .non, false), (.bl true, .non, false), (.int 1, .non, true), (.int 2, .non, true)]
abbrev R1 (s : Str) (q : QT) : D := if q.2.2 then .lst [] else .lst [.str s, q.2.1]
theorem er0 : ∀ q ∈ T0, ∀ x, x < 4 → ∀ a1 a2 a3 a4 a5 a6 : D, m_law_error [.int 0, wrE (tW x), .lst [q.1, a1, a2, a3, a4, a5, a6]] = some (R1 "row" q) :=
  List.forall_mem_cons.mpr ⟨fun x hx a1 a2 a3 a4 a5 a6 => by kernel_rfl,
  List.forall_mem_cons.mpr ⟨fun x hx a1 a2 a3 a4 a5 a6 => by kernel_rfl,
  List.forall_mem_cons.mpr ⟨fun x hx a1 a2 a3 a4 a5 a6 => by kernel_rfl,
  List.forall_mem_cons.mpr ⟨fun x hx a1 a2 a3 a4 a5 a6 => by kernel_rfl,
  List.forall_mem_cons.mpr ⟨fun x hx a1 a2 a3 a4 a5 a6 => by kernel_rfl,
  List.forall_mem_cons.mpr ⟨fun x hx a1 a2 a3 a4 a5 a6 => by kernel_rfl,
  List.forall_mem_cons.mpr ⟨fun x hx a1 a2 a3 a4 a5 a6 => by kernel_rfl,
  List.forall_mem_cons.mpr ⟨fun x hx a1 a2 a3 a4 a5 a6 => by kernel_rfl,
  List.forall_mem_cons.mpr ⟨fun x hx a1 a2 a3 a4 a5 a6 => by kernel_rfl,
  List.forall_mem_cons.mpr ⟨fun x hx a1 a2 a3 a4 a5 a6 => (match x, hx with | 0, _ => by kernel_rfl | 1, _ => by kernel_rfl | 2, _ => by kernel_rfl | 3, _ => by kernel_rfl | n + 4, h => absurd h (by omega)),
  List.forall_mem_cons.mpr ⟨fun x hx a1 a2 a3 a4 a5 a6 => (match x, hx with | 0, _ => by kernel_rfl | 1, _ => by kernel_rfl | 2, _ => by kernel_rfl | 3, _ => by kernel_rfl | n + 4, h => absurd h (by omega)),
  List.forall_mem_cons.mpr ⟨fun x hx a1 a2 a3 a4 a5 a6 => (match x, hx with | 0, _ => by kernel_rfl | 1, _ => by kernel_rfl | 2, _ => by kernel_rfl | 3, _ => by kernel_rfl | n + 4, h => absurd h (by omega)),
  (fun _ h => nomatch h)⟩⟩⟩⟩⟩⟩⟩⟩⟩⟩⟩⟩
theorem er1 : ∀ q ∈ T0, ∀ x, x < 4 → ∀ a1 a2 a3 a4 a5 a6 : D, m_law_error [.int 1, wrE (tW x), .lst [q.1, a1, a2, a3, a4, a5, a6]] = some (R1 "row" q) :=
  List.forall_mem_cons.mpr ⟨fun x hx a1 a2 a3 a4 a5 a6 => by kernel_rfl,
  List.forall_mem_cons.mpr ⟨fun x hx a1 a2 a3 a4 a5 a6 => by kernel_rfl,
  List.forall_mem_cons.mpr ⟨fun x hx a1 a2 a3 a4 a5 a6 => by kernel_rfl,
  List.forall_mem_cons.mpr ⟨fun x hx a1 a2 a3 a4 a5 a6 => by kernel_rfl,
  List.forall_mem_cons.mpr ⟨fun x hx a1 a2 a3 a4 a5 a6 => by kernel_rfl,
  List.forall_mem_cons.mpr ⟨fun x hx a1 a2 a3 a4 a5 a6 => by kernel_rfl,
  List.forall_mem_cons.mpr ⟨fun x hx a1 a2 a3 a4 a5 a6 => by kernel_rfl,
  List.forall_mem_cons.mpr ⟨fun x hx a1 a2 a3 a4 a5 a6 => by kernel_rfl,
  List.forall_mem_cons.mpr ⟨fun x hx a1 a2 a3 a4 a5 a6 => by kernel_rfl,
  List.forall_mem_cons.mpr ⟨fun x hx a1 a2 a3 a4 a5 a6 => (match x, hx with | 0, _ => by kernel_rfl | 1, _ => by kernel_rfl | 2, _ => by kernel_rfl | 3, _ => by kernel_rfl | n + 4, h => absurd h (by omega)),
  List.forall_mem_cons.mpr ⟨fun x hx a1 a2 a3 a4 a5 a6 => (match x, hx with | 0, _ => by kernel_rfl | 1, _ => by kernel_rfl | 2, _ => by kernel_rfl | 3, _ => by kernel_rfl | n + 4, h => absurd h (by omega)),
  List.forall_mem_cons.mpr ⟨fun x hx a1 a2 a3 a4 a5 a6 => (match x, hx with | 0, _ => by kernel_rfl | 1, _ => by kernel_rfl | 2, _ => by kernel_rfl | 3, _ => by kernel_rfl | n + 4, h => absurd h (by omega)),
  (fun _ h => nomatch h)⟩⟩⟩⟩⟩⟩⟩⟩⟩⟩⟩⟩
theorem er2 : ∀ q ∈ T1, ∀ x, x < 4 → ∀ a0 a2 a3 a4 a5 a6 : D, m_law_error [.int 2, wrE (tW x), .lst [a0, q.1, a2, a3, a4, a5, a6]] = some (R1 "written" q) :=
  List.forall_mem_cons.mpr ⟨fun x hx a0 a2 a3 a4 a5 a6 => by kernel_rfl,
  List.forall_mem_cons.mpr ⟨fun x hx a0 a2 a3 a4 a5 a6 => by kernel_rfl,
  List.forall_mem_cons.mpr ⟨fun x hx a0 a2 a3 a4 a5 a6 => by kernel_rfl,
  List.forall_mem_cons.mpr ⟨fun x hx a0 a2 a3 a4 a5 a6 => by kernel_rfl,
  List.forall_mem_cons.mpr ⟨fun x hx a0 a2 a3 a4 a5 a6 => by kernel_rfl,
  List.forall_mem_cons.mpr ⟨fun x hx a0 a2 a3 a4 a5 a6 => by kernel_rfl,
  List.forall_mem_cons.mpr ⟨fun x hx a0 a2 a3 a4 a5 a6 => by kernel_rfl,
  List.forall_mem_cons.mpr ⟨fun x hx a0 a2 a3 a4 a5 a6 => by kernel_rfl,
  List.forall_mem_cons.mpr ⟨fun x hx a0 a2 a3 a4 a5 a6 => by kernel_rfl,
  List.forall_mem_cons.mpr ⟨fun x hx a0 a2 a3 a4 a5 a6 => (match x, hx with | 0, _ => by kernel_rfl | 1, _ => by kernel_rfl | 2, _ => by kernel_rfl | 3, _ => by kernel_rfl | n + 4, h => absurd h (by omega)),
  List.forall_mem_cons.mpr ⟨fun x hx a0 a2 a3 a4 a5 a6 => (match x, hx with | 0, _ => by kernel_rfl | 1, _ => by kernel_rfl | 2, _ => by kernel_rfl | 3, _ => by kernel_rfl | n + 4, h => absurd h (by omega)),
  List.forall_mem_cons.mpr ⟨fun x hx a0 a2 a3 a4 a5 a6 => (match x, hx with | 0, _ => by kernel_rfl | 1, _ => by kernel_rfl | 2, _ => by kernel_rfl | 3, _ => by kernel_rfl | n + 4, h => absurd h (by omega)),
  (fun _ h => nomatch h)⟩⟩⟩⟩⟩⟩⟩⟩⟩⟩⟩⟩
theorem er3 : ∀ q ∈ T1, ∀ x, x < 4 → ∀ a0 a2 a3 a4 a5 a6 : D, m_law_error [.int 3, wrE (tW x), .lst [a0, q.1, a2, a3, a4, a5, a6]] = some (R1 "written" q) :=
  List.forall_mem_cons.mpr ⟨fun x hx a0 a2 a3 a4 a5 a6 => by kernel_rfl,
  List.forall_mem_cons.mpr ⟨fun x hx a0 a2 a3 a4 a5 a6 => by kernel_rfl,
  List.forall_mem_cons.mpr ⟨fun x hx a0 a2 a3 a4 a5 a6 => by kernel_rfl,
  List.forall_mem_cons.mpr ⟨fun x hx a0 a2 a3 a4 a5 a6 => by kernel_rfl,
  List.forall_mem_cons.mpr ⟨fun x hx a0 a2 a3 a4 a5 a6 => by kernel_rfl,
  List.forall_mem_cons.mpr ⟨fun x hx a0 a2 a3 a4 a5 a6 => by kernel_rfl,
  List.forall_mem_cons.mpr ⟨fun x hx a0 a2 a3 a4 a5 a6 => by kernel_rfl,
  List.forall_mem_cons.mpr ⟨fun x hx a0 a2 a3 a4 a5 a6 => by kernel_rfl,
  List.forall_mem_cons.mpr ⟨fun x hx a0 a2 a3 a4 a5 a6 => by kernel_rfl,
  List.forall_mem_cons.mpr ⟨fun x hx a0 a2 a3 a4 a5 a6 => (match x, hx with | 0, _ => by kernel_rfl | 1, _ => by kernel_rfl | 2, _ => by kernel_rfl | 3, _ => by kernel_rfl | n + 4, h => absurd h (by omega)),
  List.forall_mem_cons.mpr ⟨fun x hx a0 a2 a3 a4 a5 a6 => (match x, hx with | 0, _ => by kernel_rfl | 1, _ => by kernel_rfl | 2, _ => by kernel_rfl | 3, _ => by kernel_rfl | n + 4, h => absurd h (by omega)),
  List.forall_mem_cons.mpr ⟨fun x hx a0 a2 a3 a4 a5 a6 => (match x, hx with | 0, _ => by kernel_rfl | 1, _ => by kernel_rfl | 2, _ => by kernel_rfl | 3, _ => by kernel_rfl | n + 4, h => absurd h (by omega)),
  (fun _ h => nomatch h)⟩⟩⟩⟩⟩⟩⟩⟩⟩⟩⟩⟩
theorem er4 : ∀ q ∈ T1, ∀ x, x < 4 → ∀ a0 a2 a3 a4 a5 a6 : D, m_law_error [.int 4, wrE (tW x), .lst [a0, q.1, a2, a3, a4, a5, a6]] = some (R1 "written" q) :=
  List.forall_mem_cons.mpr ⟨fun x hx a0 a2 a3 a4 a5 a6 => by kernel_rfl,
  List.forall_mem_cons.mpr ⟨fun x hx a0 a2 a3 a4 a5 a6 => by kernel_rfl,
  List.forall_mem_cons.mpr ⟨fun x hx a0 a2 a3 a4 a5 a6 => by kernel_rfl,
  List.forall_mem_cons.mpr ⟨fun x hx a0 a2 a3 a4 a5 a6 => by kernel_rfl,
  List.forall_mem_cons.mpr ⟨fun x hx a0 a2 a3 a4 a5 a6 => by kernel_rfl,
  List.forall_mem_cons.mpr ⟨fun x hx a0 a2 a3 a4 a5 a6 => by kernel_rfl,
  List.forall_mem_cons.mpr ⟨fun x hx a0 a2 a3 a4 a5 a6 => by kernel_rfl,
  List.forall_mem_cons.mpr ⟨fun x hx a0 a2 a3 a4 a5 a6 => by kernel_rfl,
  List.forall_mem_cons.mpr ⟨fun x hx a0 a2 a3 a4 a5 a6 => by kernel_rfl,
  List.forall_mem_cons.mpr ⟨fun x hx a0 a2 a3 a4 a5 a6 => (match x, hx with | 0, _ => by kernel_rfl | 1, _ => by kernel_rfl | 2, _ => by kernel_rfl | 3, _ => by kernel_rfl | n + 4, h => absurd h (by omega)),
  List.forall_mem_cons.mpr ⟨fun x hx a0 a2 a3 a4 a5 a6 => (match x, hx with | 0, _ => by kernel_rfl | 1, _ => by kernel_rfl | 2, _ => by kernel_rfl | 3, _ => by kernel_rfl | n + 4, h => absurd h (by omega)),
  List.forall_mem_cons.mpr ⟨fun x hx a0 a2 a3 a4 a5 a6 => (match x, hx with | 0, _ => by kernel_rfl | 1, _ => by kernel_rfl | 2, _ => by kernel_rfl | 3, _ => by kernel_rfl | n + 4, h => absurd h (by omega)),
  (fun _ h => nomatch h)⟩⟩⟩⟩⟩⟩⟩⟩⟩⟩⟩⟩
theorem er5_0 : (fun q : QT => ∀ p ∈ T2, ∀ x, x < 4 → ∀ a0 a3 a4 a5 a6 : D, m_law_error [.int 5, wrE (tW x), .lst [a0, q.1, p.1, a3, a4, a5, a6]] = some ((if q.2.2 then (if p.2.2 then .lst [] else .lst [.str "stand"]) else .lst [.str "written", q.2.1]))) (.non, .non, false) :=
  List.forall_mem_cons.mpr ⟨fun x hx a0 a3 a4 a5 a6 => by kernel_rfl,
  List.forall_mem_cons.mpr ⟨fun x hx a0 a3 a4 a5 a6 => by kernel_rfl,
  List.forall_mem_cons.mpr ⟨fun x hx a0 a3 a4 a5 a6 => by kernel_rfl,
  List.forall_mem_cons.mpr ⟨fun x hx a0 a3 a4 a5 a6 => by kernel_rfl,
  List.forall_mem_cons.mpr ⟨fun x hx a0 a3 a4 a5 a6 => by kernel_rfl,
  List.forall_mem_cons.mpr ⟨fun x hx a0 a3 a4 a5 a6 => by kernel_rfl,
  (fun _ h => nomatch h)⟩⟩⟩⟩⟩⟩
theorem er5_1 : (fun q : QT => ∀ p ∈ T2, ∀ x, x < 4 → ∀ a0 a3 a4 a5 a6 : D, m_law_error [.int 5, wrE (tW x), .lst [a0, q.1, p.1, a3, a4, a5, a6]] = some ((if q.2.2 then (if p.2.2 then .lst [] else .lst [.str "stand"]) else .lst [.str "written", q.2.1]))) (.lst [.int 0], .non, false) :=
  List.forall_mem_cons.mpr ⟨fun x hx a0 a3 a4 a5 a6 => by kernel_rfl,
  List.forall_mem_cons.mpr ⟨fun x hx a0 a3 a4 a5 a6 => by kernel_rfl,
  List.forall_mem_cons.mpr ⟨fun x hx a0 a3 a4 a5 a6 => by kernel_rfl,
  List.forall_mem_cons.mpr ⟨fun x hx a0 a3 a4 a5 a6 => by kernel_rfl,
  List.forall_mem_cons.mpr ⟨fun x hx a0 a3 a4 a5 a6 => by kernel_rfl,
  List.forall_mem_cons.mpr ⟨fun x hx a0 a3 a4 a5 a6 => by kernel_rfl,
  (fun _ h => nomatch h)⟩⟩⟩⟩⟩⟩
theorem er5_2 : (fun q : QT => ∀ p ∈ T2, ∀ x, x < 4 → ∀ a0 a3 a4 a5 a6 : D, m_law_error [.int 5, wrE (tW x), .lst [a0, q.1, p.1, a3, a4, a5, a6]] = some ((if q.2.2 then (if p.2.2 then .lst [] else .lst [.str "stand"]) else .lst [.str "written", q.2.1]))) (.tup (List.replicate 61 (.int 0)), .non, false) :=
  List.forall_mem_cons.mpr ⟨fun x hx a0 a3 a4 a5 a6 => by kernel_rfl,
  List.forall_mem_cons.mpr ⟨fun x hx a0 a3 a4 a5 a6 => by kernel_rfl,
  List.forall_mem_cons.mpr ⟨fun x hx a0 a3 a4 a5 a6 => by kernel_rfl,
  List.forall_mem_cons.mpr ⟨fun x hx a0 a3 a4 a5 a6 => by kernel_rfl,
  List.forall_mem_cons.mpr ⟨fun x hx a0 a3 a4 a5 a6 => by kernel_rfl,
  List.forall_mem_cons.mpr ⟨fun x hx a0 a3 a4 a5 a6 => by kernel_rfl,
  (fun _ h => nomatch h)⟩⟩⟩⟩⟩⟩
theorem er5_3 : (fun q : QT => ∀ p ∈ T2, ∀ x, x < 4 → ∀ a0 a3 a4 a5 a6 : D, m_law_error [.int 5, wrE (tW x), .lst [a0, q.1, p.1, a3, a4, a5, a6]] = some ((if q.2.2 then (if p.2.2 then .lst [] else .lst [.str "stand"]) else .lst [.str "written", q.2.1]))) (.tup [.int 0, .int 4], .int 1, false) :=
  List.forall_mem_cons.mpr ⟨fun x hx a0 a3 a4 a5 a6 => by kernel_rfl,
  List.forall_mem_cons.mpr ⟨fun x hx a0 a3 a4 a5 a6 => by kernel_rfl,
  List.forall_mem_cons.mpr ⟨fun x hx a0 a3 a4 a5 a6 => by kernel_rfl,
  List.forall_mem_cons.mpr ⟨fun x hx a0 a3 a4 a5 a6 => by kernel_rfl,
  List.forall_mem_cons.mpr ⟨fun x hx a0 a3 a4 a5 a6 => by kernel_rfl,
  List.forall_mem_cons.mpr ⟨fun x hx a0 a3 a4 a5 a6 => by kernel_rfl,
  (fun _ h => nomatch h)⟩⟩⟩⟩⟩⟩
theorem er5_4 : (fun q : QT => ∀ p ∈ T2, ∀ x, x < 4 → ∀ a0 a3 a4 a5 a6 : D, m_law_error [.int 5, wrE (tW x), .lst [a0, q.1, p.1, a3, a4, a5, a6]] = some ((if q.2.2 then (if p.2.2 then .lst [] else .lst [.str "stand"]) else .lst [.str "written", q.2.1]))) (.tup [.int (-1)], .int 0, false) :=
  List.forall_mem_cons.mpr ⟨fun x hx a0 a3 a4 a5 a6 => by kernel_rfl,
  List.forall_mem_cons.mpr ⟨fun x hx a0 a3 a4 a5 a6 => by kernel_rfl,
  List.forall_mem_cons.mpr ⟨fun x hx a0 a3 a4 a5 a6 => by kernel_rfl,
  List.forall_mem_cons.mpr ⟨fun x hx a0 a3 a4 a5 a6 => by kernel_rfl,
  List.forall_mem_cons.mpr ⟨fun x hx a0 a3 a4 a5 a6 => by kernel_rfl,
  List.forall_mem_cons.mpr ⟨fun x hx a0 a3 a4 a5 a6 => by kernel_rfl,
  (fun _ h => nomatch h)⟩⟩⟩⟩⟩⟩
theorem er5_5 : (fun q : QT => ∀ p ∈ T2, ∀ x, x < 4 → ∀ a0 a3 a4 a5 a6 : D, m_law_error [.int 5, wrE (tW x), .lst [a0, q.1, p.1, a3, a4, a5, a6]] = some ((if q.2.2 then (if p.2.2 then .lst [] else .lst [.str "stand"]) else .lst [.str "written", q.2.1]))) (.tup [.int 3, .int 1, .bl false], .int 2, false) :=
  List.forall_mem_cons.mpr ⟨fun x hx a0 a3 a4 a5 a6 => by kernel_rfl,
  List.forall_mem_cons.mpr ⟨fun x hx a0 a3 a4 a5 a6 => by kernel_rfl,
  List.forall_mem_cons.mpr ⟨fun x hx a0 a3 a4 a5 a6 => by kernel_rfl,
  List.forall_mem_cons.mpr ⟨fun x hx a0 a3 a4 a5 a6 => by kernel_rfl,
  List.forall_mem_cons.mpr ⟨fun x hx a0 a3 a4 a5 a6 => by kernel_rfl,
  List.forall_mem_cons.mpr ⟨fun x hx a0 a3 a4 a5 a6 => by kernel_rfl,
  (fun _ h => nomatch h)⟩⟩⟩⟩⟩⟩
theorem er5_6 : (fun q : QT => ∀ p ∈ T2, ∀ x, x < 4 → ∀ a0 a3 a4 a5 a6 : D, m_law_error [.int 5, wrE (tW x), .lst [a0, q.1, p.1, a3, a4, a5, a6]] = some ((if q.2.2 then (if p.2.2 then .lst [] else .lst [.str "stand"]) else .lst [.str "written", q.2.1]))) (.tup [.str "0"], .int 0, false) :=
  List.forall_mem_cons.mpr ⟨fun x hx a0 a3 a4 a5 a6 => by kernel_rfl,
  List.forall_mem_cons.mpr ⟨fun x hx a0 a3 a4 a5 a6 => by kernel_rfl,
  List.forall_mem_cons.mpr ⟨fun x hx a0 a3 a4 a5 a6 => by kernel_rfl,
  List.forall_mem_cons.mpr ⟨fun x hx a0 a3 a4 a5 a6 => by kernel_rfl,
  List.forall_mem_cons.mpr ⟨fun x hx a0 a3 a4 a5 a6 => by kernel_rfl,
  List.forall_mem_cons.mpr ⟨fun x hx a0 a3 a4 a5 a6 => by kernel_rfl,
  (fun _ h => nomatch h)⟩⟩⟩⟩⟩⟩
theorem er5_7 : (fun q : QT => ∀ p ∈ T2, ∀ x, x < 4 → ∀ a0 a3 a4 a5 a6 : D, m_law_error [.int 5, wrE (tW x), .lst [a0, q.1, p.1, a3, a4, a5, a6]] = some ((if q.2.2 then (if p.2.2 then .lst [] else .lst [.str "stand"]) else .lst [.str "written", q.2.1]))) (.tup [.int 0, .non], .int 1, false) :=
  List.forall_mem_cons.mpr ⟨fun x hx a0 a3 a4 a5 a6 => by kernel_rfl,
  List.forall_mem_cons.mpr ⟨fun x hx a0 a3 a4 a5 a6 => by kernel_rfl,
  List.forall_mem_cons.mpr ⟨fun x hx a0 a3 a4 a5 a6 => by kernel_rfl,
  List.forall_mem_cons.mpr ⟨fun x hx a0 a3 a4 a5 a6 => by kernel_rfl,
  List.forall_mem_cons.mpr ⟨fun x hx a0 a3 a4 a5 a6 => by kernel_rfl,
  List.forall_mem_cons.mpr ⟨fun x hx a0 a3 a4 a5 a6 => by kernel_rfl,
  (fun _ h => nomatch h)⟩⟩⟩⟩⟩⟩
theorem er5_8 : (fun q : QT => ∀ p ∈ T2, ∀ x, x < 4 → ∀ a0 a3 a4 a5 a6 : D, m_law_error [.int 5, wrE (tW x), .lst [a0, q.1, p.1, a3, a4, a5, a6]] = some ((if q.2.2 then (if p.2.2 then .lst [] else .lst [.str "stand"]) else .lst [.str "written", q.2.1]))) (.tup [.lst [.int 0]], .int 0, false) :=
  List.forall_mem_cons.mpr ⟨fun x hx a0 a3 a4 a5 a6 => by kernel_rfl,
  List.forall_mem_cons.mpr ⟨fun x hx a0 a3 a4 a5 a6 => by kernel_rfl,
  List.forall_mem_cons.mpr ⟨fun x hx a0 a3 a4 a5 a6 => by kernel_rfl,
  List.forall_mem_cons.mpr ⟨fun x hx a0 a3 a4 a5 a6 => by kernel_rfl,
  List.forall_mem_cons.mpr ⟨fun x hx a0 a3 a4 a5 a6 => by kernel_rfl,
  List.forall_mem_cons.mpr ⟨fun x hx a0 a3 a4 a5 a6 => by kernel_rfl,
  (fun _ h => nomatch h)⟩⟩⟩⟩⟩⟩
theorem er5_9 : (fun q : QT => ∀ p ∈ T2, ∀ x, x < 4 → ∀ a0 a3 a4 a5 a6 : D, m_law_error [.int 5, wrE (tW x), .lst [a0, q.1, p.1, a3, a4, a5, a6]] = some ((if q.2.2 then (if p.2.2 then .lst [] else .lst [.str "stand"]) else .lst [.str "written", q.2.1]))) (.tup [], .non, true) :=
  List.forall_mem_cons.mpr ⟨fun x hx a0 a3 a4 a5 a6 => by kernel_rfl,
  List.forall_mem_cons.mpr ⟨fun x hx a0 a3 a4 a5 a6 => by kernel_rfl,
  List.forall_mem_cons.mpr ⟨fun x hx a0 a3 a4 a5 a6 => by kernel_rfl,
  List.forall_mem_cons.mpr ⟨fun x hx a0 a3 a4 a5 a6 => by kernel_rfl,
  List.forall_mem_cons.mpr ⟨fun x hx a0 a3 a4 a5 a6 => (match x, hx with | 0, _ => by kernel_rfl | 1, _ => by kernel_rfl | 2, _ => by kernel_rfl | 3, _ => by kernel_rfl | n + 4, h => absurd h (by omega)),
  List.forall_mem_cons.mpr ⟨fun x hx a0 a3 a4 a5 a6 => (match x, hx with | 0, _ => by kernel_rfl | 1, _ => by kernel_rfl | 2, _ => by kernel_rfl | 3, _ => by kernel_rfl | n + 4, h => absurd h (by omega)),
  (fun _ h => nomatch h)⟩⟩⟩⟩⟩⟩
theorem er5_10 : (fun q : QT => ∀ p ∈ T2, ∀ x, x < 4 → ∀ a0 a3 a4 a5 a6 : D, m_law_error [.int 5, wrE (tW x), .lst [a0, q.1, p.1, a3, a4, a5, a6]] = some ((if q.2.2 then (if p.2.2 then .lst [] else .lst [.str "stand"]) else .lst [.str "written", q.2.1]))) (.tup [.int 0, .int 3], .non, true) :=
  List.forall_mem_cons.mpr ⟨fun x hx a0 a3 a4 a5 a6 => by kernel_rfl,
  List.forall_mem_cons.mpr ⟨fun x hx a0 a3 a4 a5 a6 => by kernel_rfl,
  List.forall_mem_cons.mpr ⟨fun x hx a0 a3 a4 a5 a6 => by kernel_rfl,
  List.forall_mem_cons.mpr ⟨fun x hx a0 a3 a4 a5 a6 => by kernel_rfl,
  List.forall_mem_cons.mpr ⟨fun x hx a0 a3 a4 a5 a6 => (match x, hx with | 0, _ => by kernel_rfl | 1, _ => by kernel_rfl | 2, _ => by kernel_rfl | 3, _ => by kernel_rfl | n + 4, h => absurd h (by omega)),
  List.forall_mem_cons.mpr ⟨fun x hx a0 a3 a4 a5 a6 => (match x, hx with | 0, _ => by kernel_rfl | 1, _ => by kernel_rfl | 2, _ => by kernel_rfl | 3, _ => by kernel_rfl | n + 4, h => absurd h (by omega)),
  (fun _ h => nomatch h)⟩⟩⟩⟩⟩⟩
theorem er5_11 : (fun q : QT => ∀ p ∈ T2, ∀ x, x < 4 → ∀ a0 a3 a4 a5 a6 : D, m_law_error [.int 5, wrE (tW x), .lst [a0, q.1, p.1, a3, a4, a5, a6]] = some ((if q.2.2 then (if p.2.2 then .lst [] else .lst [.str "stand"]) else .lst [.str "written", q.2.1]))) (.tup [.int 0, .int 1, .int 0], .non, true) :=
  List.forall_mem_cons.mpr ⟨fun x hx a0 a3 a4 a5 a6 => by kernel_rfl,
  List.forall_mem_cons.mpr ⟨fun x hx a0 a3 a4 a5 a6 => by kernel_rfl,
  List.forall_mem_cons.mpr ⟨fun x hx a0 a3 a4 a5 a6 => by kernel_rfl,
  List.forall_mem_cons.mpr ⟨fun x hx a0 a3 a4 a5 a6 => by kernel_rfl,
  List.forall_mem_cons.mpr ⟨fun x hx a0 a3 a4 a5 a6 => (match x, hx with | 0, _ => by kernel_rfl | 1, _ => by kernel_rfl | 2, _ => by kernel_rfl | 3, _ => by kernel_rfl | n + 4, h => absurd h (by omega)),
  List.forall_mem_cons.mpr ⟨fun x hx a0 a3 a4 a5 a6 => (match x, hx with | 0, _ => by kernel_rfl | 1, _ => by kernel_rfl | 2, _ => by kernel_rfl | 3, _ => by kernel_rfl | n + 4, h => absurd h (by omega)),
  (fun _ h => nomatch h)⟩⟩⟩⟩⟩⟩
theorem er5 : ∀ q ∈ T1, ∀ p ∈ T2, ∀ x, x < 4 → ∀ a0 a3 a4 a5 a6 : D, m_law_error [.int 5, wrE (tW x), .lst [a0, q.1, p.1, a3, a4, a5, a6]] = some ((if q.2.2 then (if p.2.2 then .lst [] else .lst [.str "stand"]) else .lst [.str "written", q.2.1])) :=
  List.forall_mem_cons.mpr ⟨er5_0,
  List.forall_mem_cons.mpr ⟨er5_1,
  List.forall_mem_cons.mpr ⟨er5_2,
  List.forall_mem_cons.mpr ⟨er5_3,
  List.forall_mem_cons.mpr ⟨er5_4,
  List.forall_mem_cons.mpr ⟨er5_5,
  List.forall_mem_cons.mpr ⟨er5_6,
  List.forall_mem_cons.mpr ⟨er5_7,
  List.forall_mem_cons.mpr ⟨er5_8,
  List.forall_mem_cons.mpr ⟨er5_9,
  List.forall_mem_cons.mpr ⟨er5_10,
  List.forall_mem_cons.mpr ⟨er5_11,
  (fun _ h => nomatch h)⟩⟩⟩⟩⟩⟩⟩⟩⟩⟩⟩⟩
theorem er6_0 : (fun q : QT => ∀ p ∈ T3, ∀ x, x < 4 → ∀ a0 a1 a4 a5 a6 : D, m_law_error [.int 6, wrE (tW x), .lst [a0, a1, q.1, p.1, a4, a5, a6]] = some ((if q.2.2 then (if p.2.2 then .lst [] else .lst [.str "size"]) else .lst [.str "stand"]))) (.int 2, .non, false) :=
  List.forall_mem_cons.mpr ⟨fun x hx a0 a1 a4 a5 a6 => by kernel_rfl,
  List.forall_mem_cons.mpr ⟨fun x hx a0 a1 a4 a5 a6 => by kernel_rfl,
  List.forall_mem_cons.mpr ⟨fun x hx a0 a1 a4 a5 a6 => by kernel_rfl,
  List.forall_mem_cons.mpr ⟨fun x hx a0 a1 a4 a5 a6 => by kernel_rfl,
  List.forall_mem_cons.mpr ⟨fun x hx a0 a1 a4 a5 a6 => by kernel_rfl,
  List.forall_mem_cons.mpr ⟨fun x hx a0 a1 a4 a5 a6 => by kernel_rfl,
  List.forall_mem_cons.mpr ⟨fun x hx a0 a1 a4 a5 a6 => by kernel_rfl,
  (fun _ h => nomatch h)⟩⟩⟩⟩⟩⟩⟩
theorem er6_1 : (fun q : QT => ∀ p ∈ T3, ∀ x, x < 4 → ∀ a0 a1 a4 a5 a6 : D, m_law_error [.int 6, wrE (tW x), .lst [a0, a1, q.1, p.1, a4, a5, a6]] = some ((if q.2.2 then (if p.2.2 then .lst [] else .lst [.str "size"]) else .lst [.str "stand"]))) (.int (-1), .non, false) :=
  List.forall_mem_cons.mpr ⟨fun x hx a0 a1 a4 a5 a6 => by kernel_rfl,
  List.forall_mem_cons.mpr ⟨fun x hx a0 a1 a4 a5 a6 => by kernel_rfl,
  List.forall_mem_cons.mpr ⟨fun x hx a0 a1 a4 a5 a6 => by kernel_rfl,
  List.forall_mem_cons.mpr ⟨fun x hx a0 a1 a4 a5 a6 => by kernel_rfl,
  List.forall_mem_cons.mpr ⟨fun x hx a0 a1 a4 a5 a6 => by kernel_rfl,
  List.forall_mem_cons.mpr ⟨fun x hx a0 a1 a4 a5 a6 => by kernel_rfl,
  List.forall_mem_cons.mpr ⟨fun x hx a0 a1 a4 a5 a6 => by kernel_rfl,
  (fun _ h => nomatch h)⟩⟩⟩⟩⟩⟩⟩
theorem er6_2 : (fun q : QT => ∀ p ∈ T3, ∀ x, x < 4 → ∀ a0 a1 a4 a5 a6 : D, m_law_error [.int 6, wrE (tW x), .lst [a0, a1, q.1, p.1, a4, a5, a6]] = some ((if q.2.2 then (if p.2.2 then .lst [] else .lst [.str "size"]) else .lst [.str "stand"]))) (.non, .non, false) :=
  List.forall_mem_cons.mpr ⟨fun x hx a0 a1 a4 a5 a6 => by kernel_rfl,
  List.forall_mem_cons.mpr ⟨fun x hx a0 a1 a4 a5 a6 => by kernel_rfl,
  List.forall_mem_cons.mpr ⟨fun x hx a0 a1 a4 a5 a6 => by kernel_rfl,
  List.forall_mem_cons.mpr ⟨fun x hx a0 a1 a4 a5 a6 => by kernel_rfl,
  List.forall_mem_cons.mpr ⟨fun x hx a0 a1 a4 a5 a6 => by kernel_rfl,
  List.forall_mem_cons.mpr ⟨fun x hx a0 a1 a4 a5 a6 => by kernel_rfl,
  List.forall_mem_cons.mpr ⟨fun x hx a0 a1 a4 a5 a6 => by kernel_rfl,
  (fun _ h => nomatch h)⟩⟩⟩⟩⟩⟩⟩
theorem er6_3 : (fun q : QT => ∀ p ∈ T3, ∀ x, x < 4 → ∀ a0 a1 a4 a5 a6 : D, m_law_error [.int 6, wrE (tW x), .lst [a0, a1, q.1, p.1, a4, a5, a6]] = some ((if q.2.2 then (if p.2.2 then .lst [] else .lst [.str "size"]) else .lst [.str "stand"]))) (.bl true, .non, false) :=
  List.forall_mem_cons.mpr ⟨fun x hx a0 a1 a4 a5 a6 => by kernel_rfl,
  List.forall_mem_cons.mpr ⟨fun x hx a0 a1 a4 a5 a6 => by kernel_rfl,
  List.forall_mem_cons.mpr ⟨fun x hx a0 a1 a4 a5 a6 => by kernel_rfl,
  List.forall_mem_cons.mpr ⟨fun x hx a0 a1 a4 a5 a6 => by kernel_rfl,
  List.forall_mem_cons.mpr ⟨fun x hx a0 a1 a4 a5 a6 => by kernel_rfl,
  List.forall_mem_cons.mpr ⟨fun x hx a0 a1 a4 a5 a6 => by kernel_rfl,
  List.forall_mem_cons.mpr ⟨fun x hx a0 a1 a4 a5 a6 => by kernel_rfl,
  (fun _ h => nomatch h)⟩⟩⟩⟩⟩⟩⟩
theorem er6_4 : (fun q : QT => ∀ p ∈ T3, ∀ x, x < 4 → ∀ a0 a1 a4 a5 a6 : D, m_law_error [.int 6, wrE (tW x), .lst [a0, a1, q.1, p.1, a4, a5, a6]] = some ((if q.2.2 then (if p.2.2 then .lst [] else .lst [.str "size"]) else .lst [.str "stand"]))) (.int 0, .non, true) :=
  List.forall_mem_cons.mpr ⟨fun x hx a0 a1 a4 a5 a6 => by kernel_rfl,
  List.forall_mem_cons.mpr ⟨fun x hx a0 a1 a4 a5 a6 => by kernel_rfl,
  List.forall_mem_cons.mpr ⟨fun x hx a0 a1 a4 a5 a6 => by kernel_rfl,
  List.forall_mem_cons.mpr ⟨fun x hx a0 a1 a4 a5 a6 => by kernel_rfl,
  List.forall_mem_cons.mpr ⟨fun x hx a0 a1 a4 a5 a6 => by kernel_rfl,
  List.forall_mem_cons.mpr ⟨fun x hx a0 a1 a4 a5 a6 => (match x, hx with | 0, _ => by kernel_rfl | 1, _ => by kernel_rfl | 2, _ => by kernel_rfl | 3, _ => by kernel_rfl | n + 4, h => absurd h (by omega)),
  List.forall_mem_cons.mpr ⟨fun x hx a0 a1 a4 a5 a6 => (match x, hx with | 0, _ => by kernel_rfl | 1, _ => by kernel_rfl | 2, _ => by kernel_rfl | 3, _ => by kernel_rfl | n + 4, h => absurd h (by omega)),
  (fun _ h => nomatch h)⟩⟩⟩⟩⟩⟩⟩
theorem er6_5 : (fun q : QT => ∀ p ∈ T3, ∀ x, x < 4 → ∀ a0 a1 a4 a5 a6 : D, m_law_error [.int 6, wrE (tW x), .lst [a0, a1, q.1, p.1, a4, a5, a6]] = some ((if q.2.2 then (if p.2.2 then .lst [] else .lst [.str "size"]) else .lst [.str "stand"]))) (.int 1, .non, true) :=
  List.forall_mem_cons.mpr ⟨fun x hx a0 a1 a4 a5 a6 => by kernel_rfl,
  List.forall_mem_cons.mpr ⟨fun x hx a0 a1 a4 a5 a6 => by kernel_rfl,
  List.forall_mem_cons.mpr ⟨fun x hx a0 a1 a4 a5 a6 => by kernel_rfl,
  List.forall_mem_cons.mpr ⟨fun x hx a0 a1 a4 a5 a6 => by kernel_rfl,
  List.forall_mem_cons.mpr ⟨fun x hx a0 a1 a4 a5 a6 => by kernel_rfl,
  List.forall_mem_cons.mpr ⟨fun x hx a0 a1 a4 a5 a6 => (match x, hx with | 0, _ => by kernel_rfl | 1, _ => by kernel_rfl | 2, _ => by kernel_rfl | 3, _ => by kernel_rfl | n + 4, h => absurd h (by omega)),
  List.forall_mem_cons.mpr ⟨fun x hx a0 a1 a4 a5 a6 => (match x, hx with | 0, _ => by kernel_rfl | 1, _ => by kernel_rfl | 2, _ => by kernel_rfl | 3, _ => by kernel_rfl | n + 4, h => absurd h (by omega)),
  (fun _ h => nomatch h)⟩⟩⟩⟩⟩⟩⟩
theorem er6 : ∀ q ∈ T2, ∀ p ∈ T3, ∀ x, x < 4 → ∀ a0 a1 a4 a5 a6 : D, m_law_error [.int 6, wrE (tW x), .lst [a0, a1, q.1, p.1, a4, a5, a6]] = some ((if q.2.2 then (if p.2.2 then .lst [] else .lst [.str "size"]) else .lst [.str "stand"])) :=
  List.forall_mem_cons.mpr ⟨er6_0,
  List.forall_mem_cons.mpr ⟨er6_1,
  List.forall_mem_cons.mpr ⟨er6_2,
  List.forall_mem_cons.mpr ⟨er6_3,
  List.forall_mem_cons.mpr ⟨er6_4,
  List.forall_mem_cons.mpr ⟨er6_5,
  (fun _ h => nomatch h)⟩⟩⟩⟩⟩⟩
theorem er7 : ∀ q ∈ T4, ∀ x, x < 4 → ∀ a0 a1 a2 a3 a5 a6 : D, m_law_error [.int 7, wrE (tW x), .lst [a0, a1, a2, a3, q.1, a5, a6]] = some ((if q.2.2 then .lst [] else .lst [.str "size"])) :=
  List.forall_mem_cons.mpr ⟨fun x hx a0 a1 a2 a3 a5 a6 => by kernel_rfl,
  List.forall_mem_cons.mpr ⟨fun x hx a0 a1 a2 a3 a5 a6 => by kernel_rfl,
  List.forall_mem_cons.mpr ⟨fun x hx a0 a1 a2 a3 a5 a6 => by kernel_rfl,
  List.forall_mem_cons.mpr ⟨fun x hx a0 a1 a2 a3 a5 a6 => by kernel_rfl,
  List.forall_mem_cons.mpr ⟨fun x hx a0 a1 a2 a3 a5 a6 => (match x, hx with | 0, _ => by kernel_rfl | 1, _ => by kernel_rfl | 2, _ => by kernel_rfl | 3, _ => by kernel_rfl | n + 4, h => absurd h (by omega)),
  List.forall_mem_cons.mpr ⟨fun x hx a0 a1 a2 a3 a5 a6 => (match x, hx with | 0, _ => by kernel_rfl | 1, _ => by kernel_rfl | 2, _ => by kernel_rfl | 3, _ => by kernel_rfl | n + 4, h => absurd h (by omega)),
  (fun _ h => nomatch h)⟩⟩⟩⟩⟩⟩
theorem er8_0 : (fun q : QT => ∀ p ∈ T6, ∀ x, x < 4 → ∀ a0 a1 a2 a3 a4 : D, m_law_error [.int 8, wrE (tW x), .lst [a0, a1, a2, a3, a4, q.1, p.1]] = some ((if q.2.2 && p.2.2 then .lst [] else .lst [.str "size"]))) (.int 0, .non, false) :=
  List.forall_mem_cons.mpr ⟨fun x hx a0 a1 a2 a3 a4 => by kernel_rfl,
  List.forall_mem_cons.mpr ⟨fun x hx a0 a1 a2 a3 a4 => by kernel_rfl,
  List.forall_mem_cons.mpr ⟨fun x hx a0 a1 a2 a3 a4 => by kernel_rfl,
  List.forall_mem_cons.mpr ⟨fun x hx a0 a1 a2 a3 a4 => by kernel_rfl,
  List.forall_mem_cons.mpr ⟨fun x hx a0 a1 a2 a3 a4 => by kernel_rfl,
  List.forall_mem_cons.mpr ⟨fun x hx a0 a1 a2 a3 a4 => by kernel_rfl,
  (fun _ h => nomatch h)⟩⟩⟩⟩⟩⟩
theorem er8_1 : (fun q : QT => ∀ p ∈ T6, ∀ x, x < 4 → ∀ a0 a1 a2 a3 a4 : D, m_law_error [.int 8, wrE (tW x), .lst [a0, a1, a2, a3, a4, q.1, p.1]] = some ((if q.2.2 && p.2.2 then .lst [] else .lst [.str "size"]))) (.int 3, .non, false) :=
  List.forall_mem_cons.mpr ⟨fun x hx a0 a1 a2 a3 a4 => by kernel_rfl,
  List.forall_mem_cons.mpr ⟨fun x hx a0 a1 a2 a3 a4 => by kernel_rfl,
  List.forall_mem_cons.mpr ⟨fun x hx a0 a1 a2 a3 a4 => by kernel_rfl,
  List.forall_mem_cons.mpr ⟨fun x hx a0 a1 a2 a3 a4 => by kernel_rfl,
  List.forall_mem_cons.mpr ⟨fun x hx a0 a1 a2 a3 a4 => by kernel_rfl,
  List.forall_mem_cons.mpr ⟨fun x hx a0 a1 a2 a3 a4 => by kernel_rfl,
  (fun _ h => nomatch h)⟩⟩⟩⟩⟩⟩
theorem er8_2 : (fun q : QT => ∀ p ∈ T6, ∀ x, x < 4 → ∀ a0 a1 a2 a3 a4 : D, m_law_error [.int 8, wrE (tW x), .lst [a0, a1, a2, a3, a4, q.1, p.1]] = some ((if q.2.2 && p.2.2 then .lst [] else .lst [.str "size"]))) (.non, .non, false) :=
  List.forall_mem_cons.mpr ⟨fun x hx a0 a1 a2 a3 a4 => by kernel_rfl,
  List.forall_mem_cons.mpr ⟨fun x hx a0 a1 a2 a3 a4 => by kernel_rfl,
  List.forall_mem_cons.mpr ⟨fun x hx a0 a1 a2 a3 a4 => by kernel_rfl,
  List.forall_mem_cons.mpr ⟨fun x hx a0 a1 a2 a3 a4 => by kernel_rfl,
  List.forall_mem_cons.mpr ⟨fun x hx a0 a1 a2 a3 a4 => by kernel_rfl,
  List.forall_mem_cons.mpr ⟨fun x hx a0 a1 a2 a3 a4 => by kernel_rfl,
  (fun _ h => nomatch h)⟩⟩⟩⟩⟩⟩
theorem er8_3 : (fun q : QT => ∀ p ∈ T6, ∀ x, x < 4 → ∀ a0 a1 a2 a3 a4 : D, m_law_error [.int 8, wrE (tW x), .lst [a0, a1, a2, a3, a4, q.1, p.1]] = some ((if q.2.2 && p.2.2 then .lst [] else .lst [.str "size"]))) (.bl true, .non, false) :=
  List.forall_mem_cons.mpr ⟨fun x hx a0 a1 a2 a3 a4 => by kernel_rfl,
  List.forall_mem_cons.mpr ⟨fun x hx a0 a1 a2 a3 a4 => by kernel_rfl,
  List.forall_mem_cons.mpr ⟨fun x hx a0 a1 a2 a3 a4 => by kernel_rfl,
  List.forall_mem_cons.mpr ⟨fun x hx a0 a1 a2 a3 a4 => by kernel_rfl,
  List.forall_mem_cons.mpr ⟨fun x hx a0 a1 a2 a3 a4 => by kernel_rfl,
  List.forall_mem_cons.mpr ⟨fun x hx a0 a1 a2 a3 a4 => by kernel_rfl,
  (fun _ h => nomatch h)⟩⟩⟩⟩⟩⟩
theorem er8_4 : (fun q : QT => ∀ p ∈ T6, ∀ x, x < 4 → ∀ a0 a1 a2 a3 a4 : D, m_law_error [.int 8, wrE (tW x), .lst [a0, a1, a2, a3, a4, q.1, p.1]] = some ((if q.2.2 && p.2.2 then .lst [] else .lst [.str "size"]))) (.int 1, .non, true) :=
  List.forall_mem_cons.mpr ⟨fun x hx a0 a1 a2 a3 a4 => by kernel_rfl,
  List.forall_mem_cons.mpr ⟨fun x hx a0 a1 a2 a3 a4 => by kernel_rfl,
  List.forall_mem_cons.mpr ⟨fun x hx a0 a1 a2 a3 a4 => by kernel_rfl,
  List.forall_mem_cons.mpr ⟨fun x hx a0 a1 a2 a3 a4 => by kernel_rfl,
  List.forall_mem_cons.mpr ⟨fun x hx a0 a1 a2 a3 a4 => by kernel_rfl,
  List.forall_mem_cons.mpr ⟨fun x hx a0 a1 a2 a3 a4 => by kernel_rfl,
  (fun _ h => nomatch h)⟩⟩⟩⟩⟩⟩
theorem er8 : ∀ q ∈ T5, ∀ p ∈ T6, ∀ x, x < 4 → ∀ a0 a1 a2 a3 a4 : D, m_law_error [.int 8, wrE (tW x), .lst [a0, a1, a2, a3, a4, q.1, p.1]] = some ((if q.2.2 && p.2.2 then .lst [] else .lst [.str "size"])) :=
  List.forall_mem_cons.mpr ⟨er8_0,
  List.forall_mem_cons.mpr ⟨er8_1,
  List.forall_mem_cons.mpr ⟨er8_2,
  List.forall_mem_cons.mpr ⟨er8_3,
  List.forall_mem_cons.mpr ⟨er8_4,
  (fun _ h => nomatch h)⟩⟩⟩⟩⟩
theorem du0 (g0 g1 g2 g3 g4 g5 g6 : Bool) (w0 w1 w2 w3 w4 w5 w6 : D) (hw : w0 = .non ∨ ∃ i : Int, w0 = .int i) : m_law_due [.int 0, .lst [.bl g0, .bl g1, .bl g2, .bl g3, .bl g4, .bl g5, .bl g6], .lst [w0, w1, w2, w3, w4, w5, w6]] = some (if g0 then .lst [] else .lst [.str "row", w0]) := by
  rcases hw with rfl | ⟨i, rfl⟩ <;> cases g5 <;> cases g0 <;> kernel_rfl
theorem du1 (g0 g1 g2 g3 g4 g5 g6 : Bool) (w0 w1 w2 w3 w4 w5 w6 : D) (hw : w0 = .non ∨ ∃ i : Int, w0 = .int i) : m_law_due [.int 1, .lst [.bl g0, .bl g1, .bl g2, .bl g3, .bl g4, .bl g5, .bl g6], .lst [w0, w1, w2, w3, w4, w5, w6]] = some (if g0 then .lst [] else .lst [.str "row", w0]) := by
  rcases hw with rfl | ⟨i, rfl⟩ <;> cases g5 <;> cases g0 <;> kernel_rfl
theorem du2 (g0 g1 g2 g3 g4 g5 g6 : Bool) (w0 w1 w2 w3 w4 w5 w6 : D) : m_law_due [.int 2, .lst [.bl g0, .bl g1, .bl g2, .bl g3, .bl g4, .bl g5, .bl g6], .lst [w0, w1, w2, w3, w4, w5, w6]] = some (if g1 then .lst [] else .lst [.str "written", w1]) := by
  cases g5 <;> cases g2 <;> cases g1 <;> kernel_rfl
theorem du3 (g0 g1 g2 g3 g4 g5 g6 : Bool) (w0 w1 w2 w3 w4 w5 w6 : D) : m_law_due [.int 3, .lst [.bl g0, .bl g1, .bl g2, .bl g3, .bl g4, .bl g5, .bl g6], .lst [w0, w1, w2, w3, w4, w5, w6]] = some (if g1 then .lst [] else .lst [.str "written", w1]) := by
  cases g5 <;> cases g2 <;> cases g1 <;> kernel_rfl
theorem du4 (g0 g1 g2 g3 g4 g5 g6 : Bool) (w0 w1 w2 w3 w4 w5 w6 : D) : m_law_due [.int 4, .lst [.bl g0, .bl g1, .bl g2, .bl g3, .bl g4, .bl g5, .bl g6], .lst [w0, w1, w2, w3, w4, w5, w6]] = some (if g1 then .lst [] else .lst [.str "written", w1]) := by
  cases g5 <;> cases g2 <;> cases g1 <;> kernel_rfl
theorem du5 (g0 g1 g2 g3 g4 g5 g6 : Bool) (w0 w1 w2 w3 w4 w5 w6 : D) : m_law_due [.int 5, .lst [.bl g0, .bl g1, .bl g2, .bl g3, .bl g4, .bl g5, .bl g6], .lst [w0, w1, w2, w3, w4, w5, w6]] = some (if g1 then (if g2 then .lst [] else .lst [.str "stand"]) else .lst [.str "written", w1]) := by
  cases g5 <;> cases g2 <;> cases g1 <;> kernel_rfl
theorem du6 (g0 g1 g2 g3 g4 g5 g6 : Bool) (w0 w1 w2 w3 w4 w5 w6 : D) : m_law_due [.int 6, .lst [.bl g0, .bl g1, .bl g2, .bl g3, .bl g4, .bl g5, .bl g6], .lst [w0, w1, w2, w3, w4, w5, w6]] = some (if g2 then (if g3 then .lst [] else .lst [.str "size"]) else .lst [.str "stand"]) := by
  cases g5 <;> cases g2 <;> cases g3 <;> kernel_rfl
theorem du7 (g0 g1 g2 g3 g4 g5 g6 : Bool) (w0 w1 w2 w3 w4 w5 w6 : D) : m_law_due [.int 7, .lst [.bl g0, .bl g1, .bl g2, .bl g3, .bl g4, .bl g5, .bl g6], .lst [w0, w1, w2, w3, w4, w5, w6]] = some (if g4 then .lst [] else .lst [.str "size"]) := by
  cases g5 <;> cases g4 <;> kernel_rfl
theorem du8 (g0 g1 g2 g3 g4 g5 g6 : Bool) (w0 w1 w2 w3 w4 w5 w6 : D) : m_law_due [.int 8, .lst [.bl g0, .bl g1, .bl g2, .bl g3, .bl g4, .bl g5, .bl g6], .lst [w0, w1, w2, w3, w4, w5, w6]] = some (if g5 && g6 then .lst [] else .lst [.str "size"]) := by
  cases g5 <;> cases g6 <;> kernel_rfl
end
section
open PySem.W
def Tj : Nat → List QT
  | 0 => T0
  | 1 => T1
  | 2 => T2
  | 3 => T3
  | 4 => T4
  | 5 => T5
  | _ => T6
def ixD (d : D) : Prop := d = .non ∨ ∃ i : Int, d = .int i
theorem ix0 : ∀ q ∈ T0, ixD q.2.1 := fun q hq => by
  simp only [T0, List.mem_cons, List.not_mem_nil, or_false] at hq
  rcases hq with rfl | rfl | rfl | rfl | rfl | rfl | rfl | rfl | rfl | rfl | rfl | rfl <;> first | exact .inl rfl | exact .inr ⟨_, rfl⟩
theorem ix1 : ∀ q ∈ T1, ixD q.2.1 := fun q hq => by
  simp only [T1, List.mem_cons, List.not_mem_nil, or_false] at hq
  rcases hq with rfl | rfl | rfl | rfl | rfl | rfl | rfl | rfl | rfl | rfl | rfl | rfl <;> first | exact .inl rfl | exact .inr ⟨_, rfl⟩
theorem nice_E (s : Str) (hs : PyData.strOk s = true) {q : QT} (h : ixD q.2.1) : nice 2 (R1 s q) = true := by
  unfold R1
  split
  · rfl
  · refine nice_lst.mpr fun d hd => ?_
    rcases List.mem_cons.mp hd with rfl | hd
    · exact hs
    · rw [List.mem_singleton.mp hd]
      rcases h with z | ⟨i, z⟩ <;> rw [z] <;> rfl
def Same2 (k x : Nat) (vs gs ws : List D) : Prop := ∃ E, m_law_error [nE k, wrE (tW x), .lst vs] = some E ∧ m_law_due [nE k, .lst gs, .lst ws] = some E ∧ nice 2 E = true
theorem turn_ev {k x : Nat} (hk : k < 9) (hx : x < 4) {q0 q1 q2 q3 q4 q5 q6 : QT} (h0 : q0 ∈ T0) (h1 : q1 ∈ T1) (h2 : q2 ∈ T2) (h3 : q3 ∈ T3) (h4 : q4 ∈ T4) (h5 : q5 ∈ T5) (h6 : q6 ∈ T6) :
    Same2 k x [q0.1, q1.1, q2.1, q3.1, q4.1, q5.1, q6.1] [.bl q0.2.2, .bl q1.2.2, .bl q2.2.2, .bl q3.2.2, .bl q4.2.2, .bl q5.2.2, .bl q6.2.2] [q0.2.1, q1.2.1, q2.2.1, q3.2.1, q4.2.1, q5.2.1, q6.2.1] :=
  match k, hk with
  | 0, _ => ⟨_, er0 q0 h0 x hx _ _ _ _ _ _, du0 _ _ _ _ _ _ _ _ _ _ _ _ _ _ (ix0 q0 h0), nice_E "row" (by decide +kernel) (ix0 q0 h0)⟩
  | 1, _ => ⟨_, er1 q0 h0 x hx _ _ _ _ _ _, du1 _ _ _ _ _ _ _ _ _ _ _ _ _ _ (ix0 q0 h0), nice_E "row" (by decide +kernel) (ix0 q0 h0)⟩
  | 2, _ => ⟨_, er2 q1 h1 x hx _ _ _ _ _ _, du2 _ _ _ _ _ _ _ _ _ _ _ _ _ _, nice_E "written" (by decide +kernel) (ix1 q1 h1)⟩
  | 3, _ => ⟨_, er3 q1 h1 x hx _ _ _ _ _ _, du3 _ _ _ _ _ _ _ _ _ _ _ _ _ _, nice_E "written" (by decide +kernel) (ix1 q1 h1)⟩
  | 4, _ => ⟨_, er4 q1 h1 x hx _ _ _ _ _ _, du4 _ _ _ _ _ _ _ _ _ _ _ _ _ _, nice_E "written" (by decide +kernel) (ix1 q1 h1)⟩
  | 5, _ => ⟨_, er5 q1 h1 q2 h2 x hx _ _ _ _ _, du5 _ _ _ _ _ _ _ _ _ _ _ _ _ _, by
      have := nice_E "written" (by decide +kernel) (ix1 q1 h1)
      unfold R1 at this
      cases e : q1.2.2 with
      | false => rw [e] at this; exact this
      | true => cases q2.2.2 <;> kernel_rfl⟩
  | 6, _ => ⟨_, er6 q2 h2 q3 h3 x hx _ _ _ _ _, du6 _ _ _ _ _ _ _ _ _ _ _ _ _ _, by cases q2.2.2 <;> cases q3.2.2 <;> decide +kernel⟩
  | 7, _ => ⟨_, er7 q4 h4 x hx _ _ _ _ _ _, du7 _ _ _ _ _ _ _ _ _ _ _ _ _ _, by cases q4.2.2 <;> decide +kernel⟩
  | 8, _ => ⟨_, er8 q5 h5 q6 h6 x hx _ _ _ _ _, du8 _ _ _ _ _ _ _ _ _ _ _ _ _ _, by cases q5.2.2 <;> cases q6.2.2 <;> decide +kernel⟩
  | n + 9, h => absurd h (by omega)
def pairD (q : QT) : D := .tup [q.1, q.2.1]
def badL (j : Nat) : List D := ((Tj j).filter fun q => !q.2.2).map pairD
def oddL (j : Nat) : List D := ((Tj j).filter fun q => q.2.2).map (·.1)
def badD : D := .lst [.lst (badL 0), .lst (badL 1), .lst (badL 2), .lst (badL 3), .lst (badL 4), .lst (badL 5), .lst (badL 6)]
def oddD : D := .lst [.lst (oddL 0), .lst (oddL 1), .lst (oddL 2), .lst (oddL 3), .lst (oddL 4), .lst (oddL 5), .lst (oddL 6)]
theorem badL_mem {j : Nat} {d : D} (h : d ∈ badL j) : ∃ q ∈ Tj j, d = pairD q ∧ q.2.2 = false := by
  obtain ⟨q, hq, rfl⟩ := List.mem_map.mp h
  obtain ⟨h1, h2⟩ := List.mem_filter.mp hq
  exact ⟨q, h1, rfl, by cases e : q.2.2 with | false => rfl | true => rw [e] at h2; cases h2⟩
theorem oddL_mem {j : Nat} {d : D} (hj : ∀ q ∈ Tj j, q.2.2 = true → q.2.1 = .non) (h : d ∈ oddL j) : ∃ q ∈ Tj j, D.tup [d, .non] = pairD q ∧ q.2.2 = true := by
  obtain ⟨q, hq, rfl⟩ := List.mem_map.mp h
  obtain ⟨h1, h2⟩ := List.mem_filter.mp hq
  exact ⟨q, h1, by unfold pairD; rw [hj q h1 h2], h2⟩
theorem odd_non : ∀ j, j < 7 → ∀ q ∈ Tj j, q.2.2 = true → q.2.1 = .non := fun j hj q hq ht => by
  have : j = 0 ∨ j = 1 ∨ j = 2 ∨ j = 3 ∨ j = 4 ∨ j = 5 ∨ j = 6 := by omega
  rcases this with rfl | rfl | rfl | rfl | rfl | rfl | rfl <;> simp only [Tj, T0, T1, T2, T3, T4, T5, T6, List.mem_cons, List.not_mem_nil, or_false] at hq <;> (repeat' (first | (rcases hq with rfl | hq) | (subst hq))) <;> first | rfl | cases ht
theorem bad_ix {j : Nat} (hj : j < 7) : gIxL badD (nE j) = some (.lst (badL j)) ∧ gIxL oddD (nE j) = some (.lst (oddL j)) :=
  match j, hj with
  | 0, _ => ⟨rfl, rfl⟩
  | 1, _ => ⟨rfl, rfl⟩
  | 2, _ => ⟨rfl, rfl⟩
  | 3, _ => ⟨rfl, rfl⟩
  | 4, _ => ⟨rfl, rfl⟩
  | 5, _ => ⟨rfl, rfl⟩
  | 6, _ => ⟨rfl, rfl⟩
  | n + 7, h => absurd h (by omega)
theorem len_ok {j : Nat} (hj : j < 7) : (0 < (badL j).length ∧ (badL j).length < 1000000) ∧ 0 < (oddL j).length ∧ (oddL j).length < 1000000 :=
  match j, hj with
  | 0, _ => by decide +kernel
  | 1, _ => by decide +kernel
  | 2, _ => by decide +kernel
  | 3, _ => by decide +kernel
  | 4, _ => by decide +kernel
  | 5, _ => by decide +kernel
  | 6, _ => by decide +kernel
  | n + 7, h => absurd h (by omega)
end
theorem gEqB (neg : Bool) (a b : Nat) : gEq neg (.int (a : Int)) (.int (b : Int)) = some (.bl (neg ^^ decide (a = b))) := by
  have e : scal (V.int (a : Int)) (V.int (b : Int)) = true := rfl
  unfold gEq
  show (if scal (V.int (a : Int)) (V.int (b : Int)) = true then some (D.bl (neg ^^ decide (V.int (a : Int) = V.int (b : Int)))) else none) = _
  rw [e, if_pos rfl]
  congr 3
  rw [decide_eq_decide]
  exact ⟨fun z => by injection z; omega, fun z => by rw [z]⟩
section
variable {i j l m : Nat} {s s' s1 s2 : Src} {ρ : En} {F F' : FX} {Fs : FXA} {d d1 d2 : D} {ds : List D} {f : FE}
theorem mXcall_ev {M : MS} (h : Fs s ρ = some (ds, s1)) (h2 : M s1 ds = some (d, s2)) : mXcall M Fs s ρ = some (d, s2) := by unfold mXcall; rw [h]; exact h2
theorem mXcons_ev (h : F s ρ = some (d, s1)) (h2 : Fs s1 ρ = some (ds, s2)) : mXcons F Fs s ρ = some (d :: ds, s2) := by
  unfold mXcons
  rw [h, Option.bind_some]
  show (Fs s1 ρ).bind _ = _
  rw [h2]
  rfl
theorem mXop_ev {g : D → D → Option D} (h : F s ρ = some (d1, s1)) (h2 : F' s1 ρ = some (d2, s2)) (h3 : g d1 d2 = some d) : mXop g F F' s ρ = some (d, s2) := by
  unfold mXop
  rw [h, Option.bind_some]
  show (F' s1 ρ).bind _ = _
  rw [h2, Option.bind_some]
  show (g d1 d2).bind _ = _
  rw [h3]
  rfl
theorem mXs_ev {g : List D → Option D} (h : Fs s ρ = some (ds, s1)) (h2 : g ds = some d) : mXs g Fs s ρ = some (d, s1) := by
  unfold mXs
  rw [h, Option.bind_some]
  show (g ds).bind _ = _
  rw [h2]
  rfl
end
theorem next_ev (s : Src) {cap : Nat} (h0 : 0 < cap) (h1 : cap < 1000000) : ∃ k s', nextM s [nE cap] = some (nE k, s') ∧ k < cap := by
  have b : ∀ x : Int, 0 ≤ x % (cap : Int) ∧ x % (cap : Int) < cap := fun x => ⟨Int.emod_nonneg x (by omega), Int.emod_lt_of_pos x (by omega)⟩
  have r : 0 ≤ (nextS s cap).1 ∧ (nextS s cap).1 < cap := by
    have key : ∀ (c : Prop) [Decidable c] (x y : Int) (u v : Src), 0 ≤ (if c then (x % (cap : Int), u) else (y % (cap : Int), v)).1 ∧ (if c then (x % (cap : Int), u) else (y % (cap : Int), v)).1 < cap := fun c _ x y u v => by
      split
      · exact b _
      · exact b _
    exact key _ _ _ _ _
  refine ⟨(nextS s cap).1.toNat, (nextS s cap).2, ?_, by omega⟩
  show (if decide (0 < (cap : Int)) && decide ((cap : Int) < 1073741824) then some (D.int (nextS s cap).1, (nextS s cap).2) else none) = _
  rw [decide_eq_true (by omega : 0 < (cap : Int)), decide_eq_true (by omega : (cap : Int) < 1073741824)]
  unfold nE
  rw [Int.toNat_of_nonneg r.1]
  rfl
theorem lcX_all {α : Type} {e : α → D} {i : Nat} {b : D → En → Option En} {Fe : FX} {ρ : En} {Q : D → Prop} : ∀ {xs : List α}, (∀ x ∈ xs, ∀ s, ∃ ρ' d s', b (e x) ρ = some ρ' ∧ Fe s ρ' = some (d, s') ∧ Q d) → ∀ s, ∃ ds s', lcX i b Fe (xs.map e) s ρ = some (ds, s') ∧ ds.length = xs.length ∧ ∀ d ∈ ds, Q d
  | [], _, s => ⟨[], s, rfl, rfl, fun _ h => nomatch h⟩
  | x :: xs, h, s => by
    obtain ⟨ρ', d, s1, h1, h2, h3⟩ := h x List.mem_cons_self s
    obtain ⟨ds, s2, h4, h5, h6⟩ := lcX_all (i := i) (b := b) (Fe := Fe) (ρ := ρ) (Q := Q) (xs := xs) (fun y hy => h y (List.mem_cons_of_mem _ hy)) s1
    refine ⟨d :: ds, s2, ?_, by rw [List.length_cons, h5, List.length_cons], fun y hy => ?_⟩
    · rw [List.map_cons]
      unfold lcX
      rw [h1, Option.bind_some, h2, Option.bind_some]
      show (lcX i b Fe (xs.map e) s1 ρ).bind _ = _
      rw [h4]
      rfl
    · rcases List.mem_cons.mp hy with rfl | hy
      · exact h3
      · exact h6 y hy
section
variable {t : Tab} {n : Nat}
theorem plain_all : ∀ {l : List D}, (∀ d ∈ l, d.plain = true) → D.plains l = true
  | [], _ => rfl
  | x :: l, h => by
    unfold D.plains
    rw [h x List.mem_cons_self, plain_all fun d hd => h d (List.mem_cons_of_mem _ hd)]
    rfl
end
section
variable {t : Tab} {n : Nat}
theorem unBs_map {α : Type} (f : α → Bool) : ∀ l : List α, unBs (l.map fun x => D.bl (f x)) = some (l.map f)
  | [] => rfl
  | x :: l => by
    rw [List.map_cons]
    unfold unBs
    rw [unBs_map f l]
    rfl
end
theorem step_ev {o : Nat × Nat} {m : Nat} (h1 : o.1 < m) (h2 : o.2 ≤ 3) : m_is_step [prE o, nE m] = some (.bl true) := by
  have t2 : m_is_tuple_of [prE o, .int 2, .int 2] = some (.bl true) := tupleOf_ev rfl (by show (2 : Int) ≤ 2; omega) (by show (2 : Int) ≤ 2; omega)
  have s1 : sIf (mNot (mB (mS m_is_tuple_of (mCons (mVar 0) (mCons (mC (.int 2)) (mCons (mC (.int 2)) mNil)))))) (sRet (mC (.bl false))) sNx [some (.shr (prE o)), some (.shr (nE m))] = some (.nx, [some (.shr (prE o)), some (.shr (nE m))]) := by
    refine (sIf_ev (c := false) ?_).trans rfl
    unfold mNot
    rw [mB_ev (mS_ev (ds := [prE o, .int 2, .int 2]) rfl t2)]
    rfl
  refine mRun_ev rfl (ρ' := _) ((sSeq_nx s1).trans (sRet_ev (andV_ev ?_ ?_)))
  · exact mS_ev (ds := [.int (o.1 : Int), .int 0, .int ((m : Int) - 1)]) rfl (between_ev (by omega) (by omega))
  · exact mS_ev (ds := [.int (o.2 : Int), .int 0, .int 3]) rfl (between_ev (by omega) (by omega))
theorem prs_plain (r : List (Nat × Nat)) : D.plains (r.map prE) = true := plain_all fun d hd => by
  obtain ⟨o, _, rfl⟩ := List.mem_map.mp hd
  rfl
theorem trow_ev {r : List (Nat × Nat)} {m : Nat} (h2 : 2 ≤ r.length) (h3 : r.length ≤ 3) (h : ∀ o ∈ r, o.1 < m ∧ o.2 ≤ 3) : m_is_table_row [rowE r, nE m] = some (.bl true) := by
  have t2 : m_is_tuple_of [rowE r, .int 2, .int 3] = some (.bl true) := tupleOf_ev (prs_plain r) (by rw [List.length_map]; omega) (by rw [List.length_map]; omega)
  have s1 : sIf (mNot (mB (mS m_is_tuple_of (mCons (mVar 0) (mCons (mC (.int 2)) (mCons (mC (.int 3)) mNil)))))) (sRet (mC (.bl false))) sNx [some (.shr (rowE r)), some (.shr (nE m)), none] = some (.nx, [some (.shr (rowE r)), some (.shr (nE m)), none]) := by
    refine (sIf_ev (c := false) ?_).trans rfl
    unfold mNot
    rw [mB_ev (mS_ev (ds := [rowE r, .int 2, .int 3]) rfl t2)]
    rfl
  have lc := lcD_all (α := Nat × Nat) (e := prE) (b := bName 2) (fe := mS m_is_step (mCons (mVar 2) (mCons (mVar 1) mNil))) (ρ := [some (.shr (rowE r)), some (.shr (nE m)), none]) (fun o => [some (.shr (rowE r)), some (.shr (nE m)), some (.shr (prE o))]) (fun _ => .bl true) (xs := r) (fun o ho => ⟨rfl, mS_ev (ds := [prE o, nE m]) rfl (step_ev (h o ho).1 (h o ho).2)⟩)
  refine mRun_ev rfl (ρ' := _) ((sSeq_nx s1).trans (sRet_ev (mS_ev (mOne_ev (mLc_ev (ds := r.map prE) rfl lc (by rw [List.length_map]; omega))) ?_)))
  show (unBs (r.map fun x => D.bl ((fun _ => true) x))).bind _ = _
  rw [unBs_map, Option.bind_some, List.all_map]
  have : (r.all (id ∘ fun _ => true)) = true := List.all_eq_true.mpr fun _ _ => rfl
  rw [this]
section
variable {t : Tab} {n : Nat}
theorem check_ev (g : Good t n) : m_check_table [tabE t] = some .non := by
  have l1 := g.len1
  have l6 := g.len6
  have n2 := g.n2
  have n3 := g.n3
  have pl : D.plains (t.map rowE) = true := plain_all fun d hd => by
    obtain ⟨r, _, rfl⟩ := List.mem_map.mp hd
    exact prs_plain r
  have t2 : m_is_tuple_of [tabE t, .int 1, .int 6] = some (.bl true) := tupleOf_ev pl (by rw [List.length_map]; omega) (by rw [List.length_map]; omega)
  have s1 : sIf (mNot (mB (mS m_is_tuple_of (mCons (mVar 0) (mCons (mC (.int 1)) (mCons (mC (.int 6)) mNil)))))) sNever sNx [some (.shr (tabE t)), none, none] = some (.nx, [some (.shr (tabE t)), none, none]) := by
    refine (sIf_ev (c := false) ?_).trans rfl
    unfold mNot
    rw [mB_ev (mS_ev (ds := [tabE t, .int 1, .int 6]) rfl t2)]
    rfl
  have len0 : (mS gLen (mCons (mVar 0) mNil)) [some (.shr (tabE t)), none, none] = some (nE t.length) := by
    show some (D.int ((t.map rowE).length : Int)) = _
    rw [List.length_map]
    rfl
  obtain ⟨ρ', hf, y1, y2, rfl⟩ := forD_inv (α := List (Nat × Nat) × Nat) (e := fun p => D.tup [.int (p.2 : Nat), rowE p.1]) (b := bTup 2 (bCons (bName 1) (bCons (bName 2) bNil))) (p := sIf (mOr (mNot (mB (mS m_is_table_row (mCons (mVar 2) (mCons (mS gLen (mCons (mVar 0) mNil)) mNil))))) (mB (m2 (gEq true) (mS gLen (mCons (mVar 2) mNil)) (mS gLen (mCons (m2 gIxT (mVar 0) (mC (.int 0))) mNil))))) sNever sNx)
    (fun pre ρ => ∃ y1 y2, ρ = [some (.shr (tabE t)), y1, y2]) (xs := t.zipIdx) (pre := []) (ρ := [some (.shr (tabE t)), none, none]) ⟨none, none, rfl⟩ (fun pre p post ρ e h => by
      obtain ⟨y1, y2, rfl⟩ := h
      rw [List.nil_append] at e
      have hp : p.1 ∈ t := by
        have : p ∈ t.zipIdx := by rw [e]; simp
        exact List.mem_of_getElem? (List.mem_zipIdx_iff_getElem?.mp this)
      have lr := g.rows _ hp
      refine ⟨_, _, rfl, (sIf_ev (c := false) ?_).trans rfl, _, _, rfl⟩
      have a1 : (mS m_is_table_row (mCons (mVar 2) (mCons (mS gLen (mCons (mVar 0) mNil)) mNil))) [some (.shr (tabE t)), some (.shr (nE p.2)), some (.shr (rowE p.1))] = some (.bl true) := by
        refine mS_ev (ds := [rowE p.1, nE t.length]) (mCons_ev rfl (mOne_ev ?_)) (trow_ev (by omega) (by omega) (g.steps _ hp))
        show some (D.int ((t.map rowE).length : Int)) = _
        rw [List.length_map]
        rfl
      have a2 : (m2 (gEq true) (mS gLen (mCons (mVar 2) mNil)) (mS gLen (mCons (m2 gIxT (mVar 0) (mC (.int 0))) mNil))) [some (.shr (tabE t)), some (.shr (nE p.2)), some (.shr (rowE p.1))] = some (.bl false) := by
        refine m2_ev (a := nE n) (b := nE n) ?_ (mS_ev (mOne_ev (m2_ev rfl rfl (ix_tab (s := 0) (by omega)))) ?_) ((gEqB true n n).trans (by rw [decide_eq_true rfl]; rfl))
        · show some (D.int ((p.1.map prE).length : Int)) = _
          rw [List.length_map, lr]
          rfl
        · show some (D.int (((t.getD 0 []).map prE).length : Int)) = _
          rw [List.length_map, (g.row (s := 0) (by omega)).2]
          rfl
      show (mOr (mNot (mB _)) (mB _)) [some (.shr (tabE t)), some (.shr (nE p.2)), some (.shr (rowE p.1))] = _
      unfold mOr mNot
      rw [mB_ev a1, Option.bind_some, Option.bind_some]
      show mB _ _ = _
      exact mB_ev a2)
  have it : mEnumT (mCons (mVar 0) mNil) [some (.shr (tabE t)), none, none] = some (t.zipIdx.map fun p => D.tup [.int (p.2 : Nat), rowE p.1]) := by
    show some ((enumP (t.map rowE)).map fun p => D.tup [p.1, p.2]) = _
    rw [enumP_map]
  have body : p_check_table [some (.shr (tabE t)), none, none] = some (.nx, [some (.shr (tabE t)), y1, y2]) := (sSeq_nx s1).trans (sFor_ev it hf)
  show (p_check_table [some (.shr (tabE t)), none, none]).bind _ = _
  rw [body]
  rfl
theorem make_ev (g : Good t n) : gMake 6 "_table" m_check_table [tabE t] = some (wrE t) := by
  show (m_check_table [tabE t]).bind _ = _
  rw [check_ev g]
  rfl
end
theorem pick_ev (s : Src) {xs : List D} (h0 : 0 < xs.length) (h1 : xs.length < 1000000) : ∃ x s', m_law_pick s [.lst xs] = some (x, s') ∧ x ∈ xs := by
  obtain ⟨k, s', hk, lk⟩ := next_ev s h0 h1
  have e : xs[k]? = some xs[k] := List.getElem?_eq_getElem lk
  refine w_runS (Q := fun x _ => x ∈ xs) rfl (w_retX (s := s) rfl (mXop_ev (d1 := .lst xs) rfl (mXcall_ev rfl hk) ?_) ⟨s', rfl, List.getElem_mem lk⟩)
  have := ixL_map (e := id) e
  rw [List.map_id] at this
  exact this
def hE (s : Src) (x : Nat) (y5 y6 y7 y8 y9 y10 y11 y12 : Option Sl) : En := [none, some (.src s), some (.own badD), some (.shr oddD), some (.shr (wrE (tW x))), y5, y6, y7, y8, y9, y10, y11, y12]
theorem tW_good {x : Nat} (h : x < 4) : Good (tW x) 2 := by
  refine ⟨by show 1 ≤ 2; omega, by show 2 ≤ 6; omega, by omega, by omega, fun r hr => ?_, fun r hr o ho => ?_⟩
  · unfold tW at hr
    simp only [List.mem_cons, List.not_mem_nil, or_false] at hr
    rcases hr with rfl | rfl <;> rfl
  · unfold tW at hr
    simp only [List.mem_cons, List.not_mem_nil, or_false] at hr
    rcases hr with rfl | rfl
    · simp only [List.mem_cons, List.not_mem_nil, or_false] at ho
      rcases ho with rfl | rfl
      · exact ⟨by show 0 < 2; omega, by show 0 ≤ 3; omega⟩
      · exact ⟨by show 1 < 2; omega, by show 0 ≤ 3; omega⟩
    · simp only [List.mem_cons, List.not_mem_nil, or_false] at ho
      rcases ho with rfl | rfl
      · exact ⟨by show 0 < 2; omega, by show 1 ≤ 3; omega⟩
      · exact ⟨by show 1 < 2; omega, by show x ≤ 3; omega⟩
/-- which of the values are spoiled -/
theorem spoilt_ev {s : Src} {x : Nat} {y5 y6 y7 y8 y9 y10 y11 y12 : Option Sl} : ∃ (bs : List Bool) (s' : Src), mXlc 1 (mXA (i := 1) (mRng1 (mCons (mC (.int 7)) mNil))) (bName 8) (mXop (gEq false) (mXcall m_law_next (mXA (i := 1) (mCons (mC (.int 4)) mNil))) (mX (i := 1) (mC (.int 0)))) [8] s (hE s x y5 y6 y7 y8 y9 y10 y11 y12) = some (.lst (bs.map .bl), s') ∧ bs.length = 7 := by
  obtain ⟨ds, s', h1, h5, h4⟩ := lcX_all (α := Nat) (e := nE) (i := 1) (b := bName 8) (Fe := mXop (gEq false) (mXcall m_law_next (mXA (i := 1) (mCons (mC (.int 4)) mNil))) (mX (i := 1) (mC (.int 0)))) (ρ := hE s x y5 y6 y7 none y9 y10 y11 y12) (Q := fun d => ∃ b, d = .bl b) (xs := List.range 7) (fun k _ s1 => by
    obtain ⟨a, s2, h, la⟩ := next_ev s1 (cap := 4) (by omega) (by omega)
    exact ⟨_, .bl (decide (a = 0)), s2, rfl, mXop_ev (d1 := nE a) (d2 := nE 0) (mXcall_ev (ds := [nE 4]) rfl h) rfl (gEqN a 0), _, rfl⟩) s
  have hb : ∀ {ds : List D}, (∀ d ∈ ds, ∃ b, d = D.bl b) → ∃ bs : List Bool, ds = bs.map .bl := fun {ds} => by
    induction ds with
    | nil => exact fun _ => ⟨[], rfl⟩
    | cons d ds ih =>
      intro h
      obtain ⟨b, rfl⟩ := h d List.mem_cons_self
      obtain ⟨bs, rfl⟩ := ih fun y hy => h y (List.mem_cons_of_mem _ hy)
      exact ⟨b :: bs, rfl⟩
  obtain ⟨bs, rfl⟩ := hb h4
  rw [List.length_map, List.length_range] at h5
  refine ⟨bs, s', ?_, h5⟩
  unfold mXlc
  rw [show mXA (i := 1) (mRng1 (mCons (mC (.int 7)) mNil)) s (hE s x y5 y6 y7 y8 y9 y10 y11 y12) = some ((List.range 7).map nE, s) from rfl, Option.bind_some]
  show (lcX 1 (bName 8) _ ((List.range 7).map nE) s (hE s x y5 y6 y7 none y9 y10 y11 y12)).bind _ = _
  rw [h1, Option.bind_some, okSz (by rw [List.length_map]; omega), if_pos rfl]
theorem ixB_ev {bs : List Bool} {j : Nat} {b : Bool} (h : bs[j]? = some b) : gIxL (.lst (bs.map .bl)) (nE j) = some (.bl b) := by
  have := ixL_map (e := D.bl) h
  exact this
/-- one value is chosen -/
theorem chosen_ev {s : Src} {x j : Nat} {bs : List Bool} {b : Bool} (hj : j < 7) (hb : bs[j]? = some b) {y5 y6 y9 y10 y11 y12 : Option Sl} : ∃ (q : QT) (s' : Src), q ∈ Tj j ∧ q.2.2 = !b ∧
    mXif (mXT (i := 1) (mB (m2 gIxL (mVar 7) (mVar 8)))) (mXcall m_law_pick (mXA (i := 1) (mCons (mOwnIx 2 (mVar 8)) mNil))) (mXs (fun ds => if okSize ds.length then some (.tup ds) else none) (mXcons (mXcall m_law_pick (mXA (i := 1) (mCons (m2 gIxL (mVar 3) (mVar 8)) mNil))) (mXA (i := 1) (mCons (mC .non) mNil)))) s (hE s x y5 y6 (some (.shr (.lst (bs.map .bl)))) (some (.shr (nE j))) y9 y10 y11 y12) = some (pairD q, s') := by
  obtain ⟨i1, i2⟩ := bad_ix hj
  obtain ⟨⟨l1, l2⟩, l3, l4⟩ := len_ok hj
  have t : mXT (i := 1) (mB (m2 gIxL (mVar 7) (mVar 8))) s (hE s x y5 y6 (some (.shr (.lst (bs.map .bl)))) (some (.shr (nE j))) y9 y10 y11 y12) = some (b, s) := by
    show (mB (m2 gIxL (mVar 7) (mVar 8)) (hE s x y5 y6 (some (.shr (.lst (bs.map .bl)))) (some (.shr (nE j))) y9 y10 y11 y12)).bind _ = _
    rw [mB_ev (c := b) (m2_ev (a := .lst (bs.map .bl)) (b := nE j) rfl rfl (ixB_ev hb))]
    rfl
  cases b with
  | true =>
    obtain ⟨d, s', hp, hd⟩ := pick_ev s l1 l2
    obtain ⟨q, hq, rfl, hg⟩ := badL_mem hd
    refine ⟨q, s', hq, by rw [hg]; rfl, ?_⟩
    unfold mXif
    rw [t, Option.bind_some]
    have e : mXA (i := 1) (mCons (mOwnIx 2 (mVar 8)) mNil) s (hE s x y5 y6 (some (.shr (.lst (bs.map .bl)))) (some (.shr (nE j))) y9 y10 y11 y12) = some ([.lst (badL j)], s) := by
      show (mCons (mOwnIx 2 (mVar 8)) mNil (hE s x y5 y6 (some (.shr (.lst (bs.map .bl)))) (some (.shr (nE j))) y9 y10 y11 y12)).bind _ = _
      rw [mOne_ev (d := .lst (badL j)) i1]
      rfl
    exact mXcall_ev e hp
  | false =>
    obtain ⟨d, s', hp, hd⟩ := pick_ev s l3 l4
    obtain ⟨q, hq, e1, hg⟩ := oddL_mem (odd_non j hj) hd
    refine ⟨q, s', hq, by rw [hg]; rfl, ?_⟩
    unfold mXif
    rw [t, Option.bind_some]
    have e : mXA (i := 1) (mCons (m2 gIxL (mVar 3) (mVar 8)) mNil) s (hE s x y5 y6 (some (.shr (.lst (bs.map .bl)))) (some (.shr (nE j))) y9 y10 y11 y12) = some ([.lst (oddL j)], s) := by
      show (mCons (m2 gIxL (mVar 3) (mVar 8)) mNil (hE s x y5 y6 (some (.shr (.lst (bs.map .bl)))) (some (.shr (nE j))) y9 y10 y11 y12)).bind _ = _
      rw [mOne_ev (d := .lst (oddL j)) (m2_ev (a := oddD) (b := nE j) rfl rfl i2)]
      rfl
    rw [← e1]
    show mXs (fun ds => if okSize ds.length then some (.tup ds) else none) (mXcons (mXcall m_law_pick (mXA (i := 1) (mCons (m2 gIxL (mVar 3) (mVar 8)) mNil))) (mXA (i := 1) (mCons (mC .non) mNil))) s _ = _
    exact mXs_ev (ds := [d, .non]) (mXcons_ev (mXcall_ev e hp) rfl) rfl
/-- what is chosen for the first values -/
def Ch (bs : List Bool) (m : Nat) (qs : List QT) : Prop := qs.length = m ∧ ∀ j q, qs[j]? = some q → q ∈ Tj j ∧ ∃ b, bs[j]? = some b ∧ q.2.2 = !b
theorem Ch.snoc {bs : List Bool} {m : Nat} {qs : List QT} {q : QT} {b : Bool} (h : Ch bs m qs) (hq : q ∈ Tj m) (hb : bs[m]? = some b) (e : q.2.2 = !b) : Ch bs (m + 1) (qs ++ [q]) := by
  refine ⟨by rw [List.length_append, h.1]; rfl, fun j p hp => ?_⟩
  rcases Nat.lt_or_ge j qs.length with lt | ge
  · rw [List.getElem?_append_left lt] at hp
    exact h.2 j p hp
  · rw [List.getElem?_append_right ge] at hp
    have z : j - qs.length = 0 := by
      rcases Nat.eq_zero_or_pos (j - qs.length) with z | z
      · exact z
      · rw [List.getElem?_eq_none (by show 1 ≤ _; omega)] at hp
        cases hp
    rw [z] at hp
    cases hp
    have : j = m := by have := h.1; omega
    subst this
    exact ⟨hq, b, hb, e⟩
theorem seven {α : Type} {l : List α} (h : l.length = 7) : ∃ a b c d e f g, l = [a, b, c, d, e, f, g] := by
  match l, h with
  | [a, b, c, d, e, f, g], _ => exact ⟨a, b, c, d, e, f, g, rfl⟩
theorem Ch.all {bs : List Bool} {qs : List QT} {k x : Nat} (h : Ch bs 7 qs) (hb : bs.length = 7) (hk : k < 9) (hx : x < 4) : Same2 k x (qs.map (·.1)) (bs.map fun b => .bl (!b)) (qs.map (·.2.1)) := by
  obtain ⟨q0, q1, q2, q3, q4, q5, q6, rfl⟩ := seven h.1
  obtain ⟨b0, b1, b2, b3, b4, b5, b6, rfl⟩ := seven hb
  obtain ⟨h0, _, e0, g0⟩ := h.2 0 q0 rfl
  obtain ⟨h1, _, e1, g1⟩ := h.2 1 q1 rfl
  obtain ⟨h2, _, e2, g2⟩ := h.2 2 q2 rfl
  obtain ⟨h3, _, e3, g3⟩ := h.2 3 q3 rfl
  obtain ⟨h4, _, e4, g4⟩ := h.2 4 q4 rfl
  obtain ⟨h5, _, e5, g5⟩ := h.2 5 q5 rfl
  obtain ⟨h6, _, e6, g6⟩ := h.2 6 q6 rfl
  cases e0; cases e1; cases e2; cases e3; cases e4; cases e5; cases e6
  have t := turn_ev hk hx h0 h1 h2 h3 h4 h5 h6
  rw [g0, g1, g2, g3, g4, g5, g6] at t
  exact t
theorem test_ev {y0 y1 y2 y3 y5 y8 y11 y12 : Option Sl} {K W V G E : D} {bs : List Bool} (h1 : m_law_error [K, W, V] = some E) (h2 : m_law_due [K, .lst (bs.map fun b => .bl (!b)), G] = some E) (h3 : nice 2 E = true) (hb : bs.length = 7) :
    mB (m2 (gEqP true) (mS m_law_error (mCons (mVar 6) (mCons (mVar 4) (mCons (mVar 9) mNil)))) (mS m_law_due (mCons (mVar 6) (mCons (mLc (mItL (mVar 7)) (bName 12) mYes (mNotV (mVar 12)) [12]) (mCons (mVar 10) mNil))))) [y0, y1, y2, y3, some (.shr W), y5, some (.shr K), some (.shr (.lst (bs.map .bl))), y8, some (.shr V), some (.shr G), y11, y12] = some false := by
  refine mB_ev (m2_ev (a := E) (b := E) (mS_ev (ds := [K, W, V]) rfl h1) (mS_ev (ds := [K, .lst (bs.map fun b => .bl (!b)), G]) (mCons_ev rfl (mCons_ev (mLc_ev (ds := bs.map .bl) rfl (lcD_all (e := D.bl) (xs := bs) (fun b => [y0, y1, y2, y3, some (.shr W), y5, some (.shr K), some (.shr (.lst (bs.map .bl))), y8, some (.shr V), some (.shr G), y11, some (.shr (.bl b))]) (fun b => .bl (!b)) fun b _ => ⟨rfl, rfl⟩) (by rw [List.length_map]; omega)) (mOne_ev rfl))) h2) ((gEqP_nice true h3 h3 (by omega) (by omega)).trans ?_))
  rw [eqb_refl E (nice_all h3).1]
  rfl
theorem holds : Holds := fun s0 _ => by
  suffices h : WP p_law (withS 1 s0 (List.replicate 13 none)) (fun fl _ => fl = .rt (.bl true)) by
    obtain ⟨fl, ρ, h1, rfl⟩ := h
    exact ⟨ρ, h1⟩
  obtain ⟨x, s1, hx, x4⟩ := next_ev s0 (cap := 4) (by omega) (by omega)
  refine w_seq (w_of rfl ?_)
  refine w_seq (w_of rfl ?_)
  refine w_seq (w_of rfl ?_)
  refine w_seq (w_of rfl ?_)
  refine w_seq (w_of rfl ?_)
  refine w_seq (w_of rfl ?_)
  refine w_seq (w_of rfl ?_)
  refine w_seq (w_of rfl ?_)
  refine w_seq (w_of rfl ?_)
  show WP _ [none, some (.src s0), some (.own badD), some (.shr oddD), none, none, none, none, none, none, none, none, none] _
  have st : mXs (fun ds => if okSize ds.length then some (.tup ds) else none) (mXcons (mX (i := 1) (mC (.int 1))) (mXcons (mXcall m_law_next (mXA (i := 1) (mCons (mC (.int 4)) mNil))) (mXA (i := 1) mNil))) s0 [none, some (.src s0), some (.own badD), some (.shr oddD), none, none, none, none, none, none, none, none, none] = some (prE (1, x), s1) := mXs_ev (ds := [.int 1, nE x]) (mXcons_ev (s1 := s0) rfl (mXcons_ev (mXcall_ev (ds := [nE 4]) rfl hx) rfl)) rfl
  refine w_seq (w_setX (s := s0) (s' := s1) (d := wrE (tW x)) rfl (mXs_ev (ds := [tabE (tW x)]) (mXcons_ev (mXs_ev (ds := [rowE [(0, 0), (1, 0)], rowE [(0, 1), (1, x)]]) (mXcons_ev (s1 := s0) rfl (mXcons_ev (mXs_ev (ds := [prE (0, 1), prE (1, x)]) (mXcons_ev (s1 := s0) rfl (mXcons_ev st rfl)) rfl) rfl)) rfl) rfl) (make_ev (tW_good x4))) ?_)
  show WP _ (hE s1 x none none none none none none none none) _
  refine w_seq (w_for (e := nE) (List.range 12) (fun _ ρ => ∃ s y5 y6 y7 y8 y9 y10 y11 y12, ρ = hE s x y5 y6 y7 y8 y9 y10 y11 y12) rfl ⟨s1, none, none, none, none, none, none, none, none, rfl⟩ ?_ fun ρ' h => ?_)
  · rintro pre t post ρ _ ⟨s, y5, y6, y7, y8, y9, y10, y11, y12, rfl⟩
    refine ⟨_, rfl, ?_⟩
    show WP _ (hE s x (some (.shr (nE t))) y6 y7 y8 y9 y10 y11 y12) _
    generalize some (Sl.shr (nE t)) = Y5
    obtain ⟨k, s2, hk, k9⟩ := next_ev s (cap := 9) (by omega) (by omega)
    obtain ⟨bs, s3, hbs, lb⟩ := spoilt_ev (s := s2) (x := x) (y5 := Y5) (y6 := y6) (y7 := y7) (y8 := y8) (y9 := y9) (y10 := y10) (y11 := y11) (y12 := y12)
    refine w_seq (w_parX (s := s) (s' := s3) (d1 := nE k) (d2 := .lst (bs.map .bl)) rfl (mXcons_ev (s1 := s2) (mXcall_ev (ds := [nE 9]) rfl hk) (mXcons_ev (s1 := s3) hbs rfl)) ?_)
    show WP _ (hE s3 x Y5 (some (.shr (nE k))) (some (.shr (.lst (bs.map .bl)))) y8 y9 y10 y11 y12) _
    refine w_seq (w_parOO (d1 := .lst []) (d2 := .lst []) rfl rfl ?_)
    show WP _ (hE s3 x Y5 (some (.shr (nE k))) (some (.shr (.lst (bs.map .bl)))) y8 (some (.own (.lst []))) (some (.own (.lst []))) y11 y12) _
    refine w_seq (w_for (e := nE) (List.range 7) (fun pre ρ => ∃ s y8 qs y11, ρ = hE s x Y5 (some (.shr (nE k))) (some (.shr (.lst (bs.map .bl)))) y8 (some (.own (.lst (qs.map (·.1))))) (some (.own (.lst (qs.map (·.2.1))))) y11 y12 ∧ Ch bs pre.length qs) rfl ⟨s3, y8, [], y11, rfl, rfl, fun j q h => nomatch h⟩ ?_ ?_)
    · rintro pre j post ρ e ⟨s, y8, qs, y11, rfl, hc⟩
      have ej : j = pre.length ∧ j < 7 := by
        have h1 : (List.range 7)[pre.length]? = some j := by rw [e, List.getElem?_append_right (Nat.le_refl _), Nat.sub_self]; rfl
        obtain ⟨h2, h3⟩ := List.getElem?_eq_some_iff.mp h1
        rw [List.getElem_range] at h3
        rw [List.length_range] at h2
        omega
      obtain ⟨ej, j7⟩ := ej
      obtain ⟨b, hb⟩ : ∃ b, bs[j]? = some b := ⟨bs[j]'(by omega), List.getElem?_eq_getElem _⟩
      refine ⟨_, rfl, ?_⟩
      show WP _ (hE s x Y5 (some (.shr (nE k))) (some (.shr (.lst (bs.map .bl)))) (some (.shr (nE j))) (some (.own (.lst (qs.map (·.1))))) (some (.own (.lst (qs.map (·.2.1))))) y11 y12) _
      obtain ⟨q, s', hq, hg, hv⟩ := chosen_ev (s := s) (x := x) j7 hb (y5 := Y5) (y6 := some (.shr (nE k))) (y9 := some (.own (.lst (qs.map (·.1))))) (y10 := some (.own (.lst (qs.map (·.2.1))))) (y11 := y11) (y12 := y12)
      refine w_seq (w_setX (s := s) (s' := s') (d := pairD q) rfl hv ?_)
      show WP _ (hE s' x Y5 (some (.shr (nE k))) (some (.shr (.lst (bs.map .bl)))) (some (.shr (nE j))) (some (.own (.lst (qs.map (·.1))))) (some (.own (.lst (qs.map (·.2.1))))) (some (.shr (pairD q))) y12) _
      have l7 : qs.length ≤ 7 := by have := hc.1; omega
      refine w_seq (w_app (d := q.1) (as := qs.map (·.1)) rfl rfl (by rw [List.length_map]; omega) ?_)
      show WP _ (hE s' x Y5 (some (.shr (nE k))) (some (.shr (.lst (bs.map .bl)))) (some (.shr (nE j))) (some (.own (.lst (qs.map (·.1) ++ [q.1])))) (some (.own (.lst (qs.map (·.2.1))))) (some (.shr (pairD q))) y12) _
      refine w_app (d := q.2.1) (as := qs.map (·.2.1)) rfl rfl (by rw [List.length_map]; omega) ⟨s', some (.shr (nE j)), qs ++ [q], some (.shr (pairD q)), ?_, ?_⟩
      · rw [List.map_append, List.map_append]
        rfl
      · rw [List.length_append]
        subst ej
        exact hc.snoc hq hb hg
    · rintro ρ' ⟨s, y8, qs, y11, rfl, hc⟩
      obtain ⟨E, h1, h2, h3⟩ := Ch.all hc lb k9 x4
      exact w_ifF (test_ev h1 h2 h3 lb) (w_nx ⟨s, Y5, _, _, _, _, _, _, _, rfl⟩)
  · obtain ⟨s, y5, y6, y7, y8, y9, y10, y11, y12, rfl⟩ := h
    exact w_ret (d := .bl true) rfl rfl
section
variable {P : Program} {w : World} {K : PySem.W.Frag} {mg : Str → Option Value} {base : Heap}
theorem ok_law (T : Env K mg) : FnOk P w K mg base CX0 10 T.f_law T.d_law ["_law_script"] (spLaw K) := ok_law_of holds T
end
end Wl
namespace Wl
open PySem L2 Wb Wd
theorem all_mk {l : PySem.W.OpenLaw} {w : World} {K : PySem.W.Frag} {h : Heap} {mg : Str → Option Value} {fa : Addr} (X : K.In h) (G : h.Ns mainGlobals mg) (hfa : mg "law" = some (.ref fa))
    {f_BadRow_init f_BadWritten_init f_is_between f_is_tuple_of f_first_outside f_check_size f_Writer_len f_check_stand f_check_written f_as_pair f_come_to f_stands_come_to f_pairs_behind f_first_pairs f_pair_leads f_rank_pairs f_may_read f_how_behind f_moves_of f_moves_from f_states_before f_least_first f_states_before_by f_levels_beside f_least_second f_least_rows f_Writer_table p_Writer_table f_word f_leads_down f_is_ranked_pair f_told_ranks f_shows f_alike f_count_behind f_count_ends f_letters_into f_levels_to f_choices_along f_sure_letters f_count_rows f_stands_after f_sure f_row_to f_all_tables f_is_step f_is_table_row f_check_table f_Writer_init f_Writer_letters p_Writer_letters f_check_row f_stands_of f_write_row f_census f_law_mix f_law_next f_law_pick f_law_ask f_law_error f_law_due f_law c_WriterError c_BadStand c_BadSize c_BadRow c_BadWritten c_Writer : Addr} {od_BadRow_init an_BadRow_init od_BadWritten_init an_BadWritten_init od_is_between an_is_between od_is_tuple_of an_is_tuple_of od_first_outside an_first_outside od_check_size an_check_size od_Writer_len an_Writer_len od_check_stand an_check_stand od_check_written an_check_written od_as_pair an_as_pair od_come_to an_come_to od_stands_come_to an_stands_come_to od_pairs_behind an_pairs_behind od_first_pairs an_first_pairs od_pair_leads an_pair_leads od_rank_pairs an_rank_pairs od_may_read an_may_read od_how_behind an_how_behind od_moves_of an_moves_of od_moves_from an_moves_from od_states_before an_states_before od_least_first an_least_first od_states_before_by an_states_before_by od_levels_beside an_levels_beside od_least_second an_least_second od_least_rows an_least_rows od_Writer_table an_Writer_table od_word an_word od_leads_down an_leads_down od_is_ranked_pair an_is_ranked_pair od_told_ranks an_told_ranks od_shows an_shows od_alike an_alike od_count_behind an_count_behind od_count_ends an_count_ends od_letters_into an_letters_into od_levels_to an_levels_to od_choices_along an_choices_along od_sure_letters an_sure_letters od_count_rows an_count_rows od_stands_after an_stands_after od_sure an_sure od_row_to an_row_to od_all_tables an_all_tables od_is_step an_is_step od_is_table_row an_is_table_row od_check_table an_check_table od_Writer_init an_Writer_init od_Writer_letters an_Writer_letters od_check_row an_check_row od_stands_of an_stands_of od_write_row an_write_row od_census an_census od_law_mix an_law_mix od_law_next an_law_next od_law_pick an_law_pick od_law_ask an_law_ask od_law_error an_law_error od_law_due an_law_due od_law an_law : Option Addr} {sl_BadRow_init sl_BadWritten_init sl_is_between sl_is_tuple_of sl_first_outside sl_check_size sl_Writer_len sl_check_stand sl_check_written sl_as_pair sl_come_to sl_stands_come_to sl_pairs_behind sl_first_pairs sl_pair_leads sl_rank_pairs sl_may_read sl_how_behind sl_moves_of sl_moves_from sl_states_before sl_least_first sl_states_before_by sl_levels_beside sl_least_second sl_least_rows sl_Writer_table sl_word sl_leads_down sl_is_ranked_pair sl_told_ranks sl_shows sl_alike sl_count_behind sl_count_ends sl_letters_into sl_levels_to sl_choices_along sl_sure_letters sl_count_rows sl_stands_after sl_sure sl_row_to sl_all_tables sl_is_step sl_is_table_row sl_check_table sl_Writer_init sl_Writer_letters sl_check_row sl_stands_of sl_write_row sl_census sl_law_mix sl_law_next sl_law_pick sl_law_ask sl_law_error sl_law_due sl_law : Array (Option Value)} {oc_BadRow_init kV_BadRow_init dc_BadRow_init pm_BadRow_init cd_BadRow_init ct_BadRow_init oc_BadWritten_init kV_BadWritten_init dc_BadWritten_init pm_BadWritten_init cd_BadWritten_init ct_BadWritten_init oc_is_between kV_is_between dc_is_between pm_is_between cd_is_between ct_is_between oc_is_tuple_of kV_is_tuple_of dc_is_tuple_of pm_is_tuple_of cd_is_tuple_of ct_is_tuple_of oc_first_outside kV_first_outside dc_first_outside pm_first_outside cd_first_outside ct_first_outside oc_check_size kV_check_size dc_check_size pm_check_size cd_check_size ct_check_size oc_Writer_len kV_Writer_len dc_Writer_len pm_Writer_len cd_Writer_len ct_Writer_len oc_check_stand kV_check_stand dc_check_stand pm_check_stand cd_check_stand ct_check_stand oc_check_written kV_check_written dc_check_written pm_check_written cd_check_written ct_check_written oc_as_pair kV_as_pair dc_as_pair pm_as_pair cd_as_pair ct_as_pair oc_come_to kV_come_to dc_come_to pm_come_to cd_come_to ct_come_to oc_stands_come_to kV_stands_come_to dc_stands_come_to pm_stands_come_to cd_stands_come_to ct_stands_come_to oc_pairs_behind kV_pairs_behind dc_pairs_behind pm_pairs_behind cd_pairs_behind ct_pairs_behind oc_first_pairs kV_first_pairs dc_first_pairs pm_first_pairs cd_first_pairs ct_first_pairs oc_pair_leads kV_pair_leads dc_pair_leads pm_pair_leads cd_pair_leads ct_pair_leads oc_rank_pairs kV_rank_pairs dc_rank_pairs pm_rank_pairs cd_rank_pairs ct_rank_pairs oc_may_read kV_may_read dc_may_read pm_may_read cd_may_read ct_may_read oc_how_behind kV_how_behind dc_how_behind pm_how_behind cd_how_behind ct_how_behind oc_moves_of kV_moves_of dc_moves_of pm_moves_of cd_moves_of ct_moves_of oc_moves_from kV_moves_from dc_moves_from pm_moves_from cd_moves_from ct_moves_from oc_states_before kV_states_before dc_states_before pm_states_before cd_states_before ct_states_before oc_least_first kV_least_first dc_least_first pm_least_first cd_least_first ct_least_first oc_states_before_by kV_states_before_by dc_states_before_by pm_states_before_by cd_states_before_by ct_states_before_by oc_levels_beside kV_levels_beside dc_levels_beside pm_levels_beside cd_levels_beside ct_levels_beside oc_least_second kV_least_second dc_least_second pm_least_second cd_least_second ct_least_second oc_least_rows kV_least_rows dc_least_rows pm_least_rows cd_least_rows ct_least_rows oc_Writer_table kV_Writer_table dc_Writer_table pm_Writer_table cd_Writer_table ct_Writer_table oc_word kV_word dc_word pm_word cd_word ct_word oc_leads_down kV_leads_down dc_leads_down pm_leads_down cd_leads_down ct_leads_down oc_is_ranked_pair kV_is_ranked_pair dc_is_ranked_pair pm_is_ranked_pair cd_is_ranked_pair ct_is_ranked_pair oc_told_ranks kV_told_ranks dc_told_ranks pm_told_ranks cd_told_ranks ct_told_ranks oc_shows kV_shows dc_shows pm_shows cd_shows ct_shows oc_alike kV_alike dc_alike pm_alike cd_alike ct_alike oc_count_behind kV_count_behind dc_count_behind pm_count_behind cd_count_behind ct_count_behind oc_count_ends kV_count_ends dc_count_ends pm_count_ends cd_count_ends ct_count_ends oc_letters_into kV_letters_into dc_letters_into pm_letters_into cd_letters_into ct_letters_into oc_levels_to kV_levels_to dc_levels_to pm_levels_to cd_levels_to ct_levels_to oc_choices_along kV_choices_along dc_choices_along pm_choices_along cd_choices_along ct_choices_along oc_sure_letters kV_sure_letters dc_sure_letters pm_sure_letters cd_sure_letters ct_sure_letters oc_count_rows kV_count_rows dc_count_rows pm_count_rows cd_count_rows ct_count_rows oc_stands_after kV_stands_after dc_stands_after pm_stands_after cd_stands_after ct_stands_after oc_sure kV_sure dc_sure pm_sure cd_sure ct_sure oc_row_to kV_row_to dc_row_to pm_row_to cd_row_to ct_row_to oc_all_tables kV_all_tables dc_all_tables pm_all_tables cd_all_tables ct_all_tables oc_is_step kV_is_step dc_is_step pm_is_step cd_is_step ct_is_step oc_is_table_row kV_is_table_row dc_is_table_row pm_is_table_row cd_is_table_row ct_is_table_row oc_check_table kV_check_table dc_check_table pm_check_table cd_check_table ct_check_table oc_Writer_init kV_Writer_init dc_Writer_init pm_Writer_init cd_Writer_init ct_Writer_init oc_Writer_letters kV_Writer_letters dc_Writer_letters pm_Writer_letters cd_Writer_letters ct_Writer_letters oc_check_row kV_check_row dc_check_row pm_check_row cd_check_row ct_check_row oc_stands_of kV_stands_of dc_stands_of pm_stands_of cd_stands_of ct_stands_of oc_write_row kV_write_row dc_write_row pm_write_row cd_write_row ct_write_row oc_census kV_census dc_census pm_census cd_census ct_census oc_law_mix kV_law_mix dc_law_mix pm_law_mix cd_law_mix ct_law_mix oc_law_next kV_law_next dc_law_next pm_law_next cd_law_next ct_law_next oc_law_pick kV_law_pick dc_law_pick pm_law_pick cd_law_pick ct_law_pick oc_law_ask kV_law_ask dc_law_ask pm_law_ask cd_law_ask ct_law_ask oc_law_error kV_law_error dc_law_error pm_law_error cd_law_error ct_law_error oc_law_due kV_law_due dc_law_due pm_law_due cd_law_due ct_law_due oc_law kV_law dc_law pm_law cd_law ct_law : Value} {t_GREATEST_WRITTEN t_LONGEST t_APART t_TOGETHER t_PARTING t_LEAST_LETTERS t_MOST_LETTERS t_MOST_STANDS : Tok} {rr_Writer_table rr_Writer_letters : List Value} {nm_BadRow q_BadRow : Str} {N_BadRow : Addr} {bs_BadRow : List Value} {sn_BadRow : List Str} {sub_BadRow : List Value} {ab_BadRow : Bool} {col_BadRow : Option Bool} {dd_BadRow : Option Addr} {m0_BadRow m1_BadRow m2_BadRow m3_BadRow m5_BadRow : Option Value} {nm_BadWritten q_BadWritten : Str} {N_BadWritten : Addr} {bs_BadWritten : List Value} {sn_BadWritten : List Str} {sub_BadWritten : List Value} {ab_BadWritten : Bool} {col_BadWritten : Option Bool} {dd_BadWritten : Option Addr} {m0_BadWritten m1_BadWritten m2_BadWritten m3_BadWritten m5_BadWritten : Option Value}
    (cg : PySem.W.specialIn K (.builtin "object.__class__") "__get__" = some (some (.builtin "getset_descriptor.__get__")))
    (ct : PySem.W.takesIn K (.builtin "object.__class__") = some true)
    (aC_WriterError : PySem.W.nsIn K mainGlobals "WriterError" = some (some (.ref c_WriterError)))
    (aC_BadStand : PySem.W.nsIn K mainGlobals "BadStand" = some (some (.ref c_BadStand)))
    (aC_BadSize : PySem.W.nsIn K mainGlobals "BadSize" = some (some (.ref c_BadSize)))
    (aC_BadRow : PySem.W.nsIn K mainGlobals "BadRow" = some (some (.ref c_BadRow)))
    (aC_BadWritten : PySem.W.nsIn K mainGlobals "BadWritten" = some (some (.ref c_BadWritten)))
    (aC_Writer : PySem.W.nsIn K mainGlobals "Writer" = some (some (.ref c_Writer)))
    (a_BadRow_init : PySem.W.findIn K (.ref c_BadRow) "__init__" = some (some (.ref f_BadRow_init)))
    (i_BadRow_init : PySem.W.isFn K (.ref f_BadRow_init) = true)
    (l_BadRow_init : K.lookup f_BadRow_init = some ⟨oc_BadRow_init, od_BadRow_init, .func (PySem.W.fnOf "__init__" "BadRow.__init__" (defArgs s_BadRow_init) (defBody s_BadRow_init) (defScope s_BadRow_init) .none kV_BadRow_init dc_BadRow_init pm_BadRow_init an_BadRow_init cd_BadRow_init ct_BadRow_init), sl_BadRow_init⟩)
    (c_BadRow_init : PySem.W.codeIn K cd_BadRow_init "BadRow.__init__" = true)
    (w_BadRow_init : PySem.W.keepIn K (.ref f_BadRow_init) = true)
    (a_BadWritten_init : PySem.W.findIn K (.ref c_BadWritten) "__init__" = some (some (.ref f_BadWritten_init)))
    (i_BadWritten_init : PySem.W.isFn K (.ref f_BadWritten_init) = true)
    (l_BadWritten_init : K.lookup f_BadWritten_init = some ⟨oc_BadWritten_init, od_BadWritten_init, .func (PySem.W.fnOf "__init__" "BadWritten.__init__" (defArgs s_BadWritten_init) (defBody s_BadWritten_init) (defScope s_BadWritten_init) .none kV_BadWritten_init dc_BadWritten_init pm_BadWritten_init an_BadWritten_init cd_BadWritten_init ct_BadWritten_init), sl_BadWritten_init⟩)
    (c_BadWritten_init : PySem.W.codeIn K cd_BadWritten_init "BadWritten.__init__" = true)
    (w_BadWritten_init : PySem.W.keepIn K (.ref f_BadWritten_init) = true)
    (a_is_between : PySem.W.nsIn K mainGlobals "is_between" = some (some (.ref f_is_between)))
    (l_is_between : K.lookup f_is_between = some ⟨oc_is_between, od_is_between, .func (PySem.W.fnOf "is_between" "is_between" (defArgs s_is_between) (defBody s_is_between) (defScope s_is_between) .none kV_is_between dc_is_between pm_is_between an_is_between cd_is_between ct_is_between), sl_is_between⟩)
    (c_is_between : PySem.W.codeIn K cd_is_between "is_between" = true)
    (w_is_between : PySem.W.keepIn K (.ref f_is_between) = true)
    (a_is_tuple_of : PySem.W.nsIn K mainGlobals "is_tuple_of" = some (some (.ref f_is_tuple_of)))
    (l_is_tuple_of : K.lookup f_is_tuple_of = some ⟨oc_is_tuple_of, od_is_tuple_of, .func (PySem.W.fnOf "is_tuple_of" "is_tuple_of" (defArgs s_is_tuple_of) (defBody s_is_tuple_of) (defScope s_is_tuple_of) .none kV_is_tuple_of dc_is_tuple_of pm_is_tuple_of an_is_tuple_of cd_is_tuple_of ct_is_tuple_of), sl_is_tuple_of⟩)
    (c_is_tuple_of : PySem.W.codeIn K cd_is_tuple_of "is_tuple_of" = true)
    (w_is_tuple_of : PySem.W.keepIn K (.ref f_is_tuple_of) = true)
    (a_first_outside : PySem.W.nsIn K mainGlobals "first_outside" = some (some (.ref f_first_outside)))
    (l_first_outside : K.lookup f_first_outside = some ⟨oc_first_outside, od_first_outside, .func (PySem.W.fnOf "first_outside" "first_outside" (defArgs s_first_outside) (defBody s_first_outside) (defScope s_first_outside) .none kV_first_outside dc_first_outside pm_first_outside an_first_outside cd_first_outside ct_first_outside), sl_first_outside⟩)
    (c_first_outside : PySem.W.codeIn K cd_first_outside "first_outside" = true)
    (w_first_outside : PySem.W.keepIn K (.ref f_first_outside) = true)
    (a_check_size : PySem.W.nsIn K mainGlobals "check_size" = some (some (.ref f_check_size)))
    (l_check_size : K.lookup f_check_size = some ⟨oc_check_size, od_check_size, .func (PySem.W.fnOf "check_size" "check_size" (defArgs s_check_size) (defBody s_check_size) (defScope s_check_size) .none kV_check_size dc_check_size pm_check_size an_check_size cd_check_size ct_check_size), sl_check_size⟩)
    (c_check_size : PySem.W.codeIn K cd_check_size "check_size" = true)
    (w_check_size : PySem.W.keepIn K (.ref f_check_size) = true)
    (a_Writer_len : PySem.W.findIn K (.ref c_Writer) "__len__" = some (some (.ref f_Writer_len)))
    (i_Writer_len : PySem.W.isFn K (.ref f_Writer_len) = true)
    (l_Writer_len : K.lookup f_Writer_len = some ⟨oc_Writer_len, od_Writer_len, .func (PySem.W.fnOf "__len__" "Writer.__len__" (defArgs s_Writer_len) (defBody s_Writer_len) (defScope s_Writer_len) .none kV_Writer_len dc_Writer_len pm_Writer_len an_Writer_len cd_Writer_len ct_Writer_len), sl_Writer_len⟩)
    (c_Writer_len : PySem.W.codeIn K cd_Writer_len "Writer.__len__" = true)
    (w_Writer_len : PySem.W.keepIn K (.ref f_Writer_len) = true)
    (a_check_stand : PySem.W.nsIn K mainGlobals "check_stand" = some (some (.ref f_check_stand)))
    (l_check_stand : K.lookup f_check_stand = some ⟨oc_check_stand, od_check_stand, .func (PySem.W.fnOf "check_stand" "check_stand" (defArgs s_check_stand) (defBody s_check_stand) (defScope s_check_stand) .none kV_check_stand dc_check_stand pm_check_stand an_check_stand cd_check_stand ct_check_stand), sl_check_stand⟩)
    (c_check_stand : PySem.W.codeIn K cd_check_stand "check_stand" = true)
    (w_check_stand : PySem.W.keepIn K (.ref f_check_stand) = true)
    (a_check_written : PySem.W.nsIn K mainGlobals "check_written" = some (some (.ref f_check_written)))
    (l_check_written : K.lookup f_check_written = some ⟨oc_check_written, od_check_written, .func (PySem.W.fnOf "check_written" "check_written" (defArgs s_check_written) (defBody s_check_written) (defScope s_check_written) .none kV_check_written dc_check_written pm_check_written an_check_written cd_check_written ct_check_written), sl_check_written⟩)
    (c_check_written : PySem.W.codeIn K cd_check_written "check_written" = true)
    (w_check_written : PySem.W.keepIn K (.ref f_check_written) = true)
    (a_as_pair : PySem.W.nsIn K mainGlobals "as_pair" = some (some (.ref f_as_pair)))
    (l_as_pair : K.lookup f_as_pair = some ⟨oc_as_pair, od_as_pair, .func (PySem.W.fnOf "as_pair" "as_pair" (defArgs s_as_pair) (defBody s_as_pair) (defScope s_as_pair) .none kV_as_pair dc_as_pair pm_as_pair an_as_pair cd_as_pair ct_as_pair), sl_as_pair⟩)
    (c_as_pair : PySem.W.codeIn K cd_as_pair "as_pair" = true)
    (w_as_pair : PySem.W.keepIn K (.ref f_as_pair) = true)
    (a_come_to : PySem.W.nsIn K mainGlobals "come_to" = some (some (.ref f_come_to)))
    (l_come_to : K.lookup f_come_to = some ⟨oc_come_to, od_come_to, .func (PySem.W.fnOf "come_to" "come_to" (defArgs s_come_to) (defBody s_come_to) (defScope s_come_to) .none kV_come_to dc_come_to pm_come_to an_come_to cd_come_to ct_come_to), sl_come_to⟩)
    (c_come_to : PySem.W.codeIn K cd_come_to "come_to" = true)
    (w_come_to : PySem.W.keepIn K (.ref f_come_to) = true)
    (a_stands_come_to : PySem.W.nsIn K mainGlobals "stands_come_to" = some (some (.ref f_stands_come_to)))
    (l_stands_come_to : K.lookup f_stands_come_to = some ⟨oc_stands_come_to, od_stands_come_to, .func (PySem.W.fnOf "stands_come_to" "stands_come_to" (defArgs s_stands_come_to) (defBody s_stands_come_to) (defScope s_stands_come_to) .none kV_stands_come_to dc_stands_come_to pm_stands_come_to an_stands_come_to cd_stands_come_to ct_stands_come_to), sl_stands_come_to⟩)
    (c_stands_come_to : PySem.W.codeIn K cd_stands_come_to "stands_come_to" = true)
    (w_stands_come_to : PySem.W.keepIn K (.ref f_stands_come_to) = true)
    (a_pairs_behind : PySem.W.nsIn K mainGlobals "pairs_behind" = some (some (.ref f_pairs_behind)))
    (l_pairs_behind : K.lookup f_pairs_behind = some ⟨oc_pairs_behind, od_pairs_behind, .func (PySem.W.fnOf "pairs_behind" "pairs_behind" (defArgs s_pairs_behind) (defBody s_pairs_behind) (defScope s_pairs_behind) .none kV_pairs_behind dc_pairs_behind pm_pairs_behind an_pairs_behind cd_pairs_behind ct_pairs_behind), sl_pairs_behind⟩)
    (c_pairs_behind : PySem.W.codeIn K cd_pairs_behind "pairs_behind" = true)
    (w_pairs_behind : PySem.W.keepIn K (.ref f_pairs_behind) = true)
    (a_first_pairs : PySem.W.nsIn K mainGlobals "first_pairs" = some (some (.ref f_first_pairs)))
    (l_first_pairs : K.lookup f_first_pairs = some ⟨oc_first_pairs, od_first_pairs, .func (PySem.W.fnOf "first_pairs" "first_pairs" (defArgs s_first_pairs) (defBody s_first_pairs) (defScope s_first_pairs) .none kV_first_pairs dc_first_pairs pm_first_pairs an_first_pairs cd_first_pairs ct_first_pairs), sl_first_pairs⟩)
    (c_first_pairs : PySem.W.codeIn K cd_first_pairs "first_pairs" = true)
    (w_first_pairs : PySem.W.keepIn K (.ref f_first_pairs) = true)
    (a_pair_leads : PySem.W.nsIn K mainGlobals "pair_leads" = some (some (.ref f_pair_leads)))
    (l_pair_leads : K.lookup f_pair_leads = some ⟨oc_pair_leads, od_pair_leads, .func (PySem.W.fnOf "pair_leads" "pair_leads" (defArgs s_pair_leads) (defBody s_pair_leads) (defScope s_pair_leads) .none kV_pair_leads dc_pair_leads pm_pair_leads an_pair_leads cd_pair_leads ct_pair_leads), sl_pair_leads⟩)
    (c_pair_leads : PySem.W.codeIn K cd_pair_leads "pair_leads" = true)
    (w_pair_leads : PySem.W.keepIn K (.ref f_pair_leads) = true)
    (a_rank_pairs : PySem.W.nsIn K mainGlobals "rank_pairs" = some (some (.ref f_rank_pairs)))
    (l_rank_pairs : K.lookup f_rank_pairs = some ⟨oc_rank_pairs, od_rank_pairs, .func (PySem.W.fnOf "rank_pairs" "rank_pairs" (defArgs s_rank_pairs) (defBody s_rank_pairs) (defScope s_rank_pairs) .none kV_rank_pairs dc_rank_pairs pm_rank_pairs an_rank_pairs cd_rank_pairs ct_rank_pairs), sl_rank_pairs⟩)
    (c_rank_pairs : PySem.W.codeIn K cd_rank_pairs "rank_pairs" = true)
    (w_rank_pairs : PySem.W.keepIn K (.ref f_rank_pairs) = true)
    (a_may_read : PySem.W.nsIn K mainGlobals "_may_read" = some (some (.ref f_may_read)))
    (l_may_read : K.lookup f_may_read = some ⟨oc_may_read, od_may_read, .func (PySem.W.fnOf "_may_read" "_may_read" (defArgs s_may_read) (defBody s_may_read) (defScope s_may_read) .none kV_may_read dc_may_read pm_may_read an_may_read cd_may_read ct_may_read), sl_may_read⟩)
    (c_may_read : PySem.W.codeIn K cd_may_read "_may_read" = true)
    (w_may_read : PySem.W.keepIn K (.ref f_may_read) = true)
    (a_how_behind : PySem.W.nsIn K mainGlobals "_how_behind" = some (some (.ref f_how_behind)))
    (l_how_behind : K.lookup f_how_behind = some ⟨oc_how_behind, od_how_behind, .func (PySem.W.fnOf "_how_behind" "_how_behind" (defArgs s_how_behind) (defBody s_how_behind) (defScope s_how_behind) .none kV_how_behind dc_how_behind pm_how_behind an_how_behind cd_how_behind ct_how_behind), sl_how_behind⟩)
    (c_how_behind : PySem.W.codeIn K cd_how_behind "_how_behind" = true)
    (w_how_behind : PySem.W.keepIn K (.ref f_how_behind) = true)
    (a_moves_of : PySem.W.nsIn K mainGlobals "_moves_of" = some (some (.ref f_moves_of)))
    (l_moves_of : K.lookup f_moves_of = some ⟨oc_moves_of, od_moves_of, .func (PySem.W.fnOf "_moves_of" "_moves_of" (defArgs s_moves_of) (defBody s_moves_of) (defScope s_moves_of) .none kV_moves_of dc_moves_of pm_moves_of an_moves_of cd_moves_of ct_moves_of), sl_moves_of⟩)
    (c_moves_of : PySem.W.codeIn K cd_moves_of "_moves_of" = true)
    (w_moves_of : PySem.W.keepIn K (.ref f_moves_of) = true)
    (a_moves_from : PySem.W.nsIn K mainGlobals "moves_from" = some (some (.ref f_moves_from)))
    (l_moves_from : K.lookup f_moves_from = some ⟨oc_moves_from, od_moves_from, .func (PySem.W.fnOf "moves_from" "moves_from" (defArgs s_moves_from) (defBody s_moves_from) (defScope s_moves_from) .none kV_moves_from dc_moves_from pm_moves_from an_moves_from cd_moves_from ct_moves_from), sl_moves_from⟩)
    (c_moves_from : PySem.W.codeIn K cd_moves_from "moves_from" = true)
    (w_moves_from : PySem.W.keepIn K (.ref f_moves_from) = true)
    (a_states_before : PySem.W.nsIn K mainGlobals "states_before" = some (some (.ref f_states_before)))
    (l_states_before : K.lookup f_states_before = some ⟨oc_states_before, od_states_before, .func (PySem.W.fnOf "states_before" "states_before" (defArgs s_states_before) (defBody s_states_before) (defScope s_states_before) .none kV_states_before dc_states_before pm_states_before an_states_before cd_states_before ct_states_before), sl_states_before⟩)
    (c_states_before : PySem.W.codeIn K cd_states_before "states_before" = true)
    (w_states_before : PySem.W.keepIn K (.ref f_states_before) = true)
    (a_least_first : PySem.W.nsIn K mainGlobals "_least_first" = some (some (.ref f_least_first)))
    (l_least_first : K.lookup f_least_first = some ⟨oc_least_first, od_least_first, .func (PySem.W.fnOf "_least_first" "_least_first" (defArgs s_least_first) (defBody s_least_first) (defScope s_least_first) .none kV_least_first dc_least_first pm_least_first an_least_first cd_least_first ct_least_first), sl_least_first⟩)
    (c_least_first : PySem.W.codeIn K cd_least_first "_least_first" = true)
    (w_least_first : PySem.W.keepIn K (.ref f_least_first) = true)
    (a_states_before_by : PySem.W.nsIn K mainGlobals "_states_before_by" = some (some (.ref f_states_before_by)))
    (l_states_before_by : K.lookup f_states_before_by = some ⟨oc_states_before_by, od_states_before_by, .func (PySem.W.fnOf "_states_before_by" "_states_before_by" (defArgs s_states_before_by) (defBody s_states_before_by) (defScope s_states_before_by) .none kV_states_before_by dc_states_before_by pm_states_before_by an_states_before_by cd_states_before_by ct_states_before_by), sl_states_before_by⟩)
    (c_states_before_by : PySem.W.codeIn K cd_states_before_by "_states_before_by" = true)
    (w_states_before_by : PySem.W.keepIn K (.ref f_states_before_by) = true)
    (a_levels_beside : PySem.W.nsIn K mainGlobals "_levels_beside" = some (some (.ref f_levels_beside)))
    (l_levels_beside : K.lookup f_levels_beside = some ⟨oc_levels_beside, od_levels_beside, .func (PySem.W.fnOf "_levels_beside" "_levels_beside" (defArgs s_levels_beside) (defBody s_levels_beside) (defScope s_levels_beside) .none kV_levels_beside dc_levels_beside pm_levels_beside an_levels_beside cd_levels_beside ct_levels_beside), sl_levels_beside⟩)
    (c_levels_beside : PySem.W.codeIn K cd_levels_beside "_levels_beside" = true)
    (w_levels_beside : PySem.W.keepIn K (.ref f_levels_beside) = true)
    (a_least_second : PySem.W.nsIn K mainGlobals "_least_second" = some (some (.ref f_least_second)))
    (l_least_second : K.lookup f_least_second = some ⟨oc_least_second, od_least_second, .func (PySem.W.fnOf "_least_second" "_least_second" (defArgs s_least_second) (defBody s_least_second) (defScope s_least_second) .none kV_least_second dc_least_second pm_least_second an_least_second cd_least_second ct_least_second), sl_least_second⟩)
    (c_least_second : PySem.W.codeIn K cd_least_second "_least_second" = true)
    (w_least_second : PySem.W.keepIn K (.ref f_least_second) = true)
    (a_least_rows : PySem.W.nsIn K mainGlobals "least_rows" = some (some (.ref f_least_rows)))
    (l_least_rows : K.lookup f_least_rows = some ⟨oc_least_rows, od_least_rows, .func (PySem.W.fnOf "least_rows" "least_rows" (defArgs s_least_rows) (defBody s_least_rows) (defScope s_least_rows) .none kV_least_rows dc_least_rows pm_least_rows an_least_rows cd_least_rows ct_least_rows), sl_least_rows⟩)
    (c_least_rows : PySem.W.codeIn K cd_least_rows "least_rows" = true)
    (w_least_rows : PySem.W.keepIn K (.ref f_least_rows) = true)
    (a_Writer_table : PySem.W.findIn K (.ref c_Writer) "table" = some (some (.ref p_Writer_table)))
    (g_Writer_table : PySem.W.specialIn K (.ref p_Writer_table) "__get__" = some (some (.builtin "property.__get__")))
    (k_Writer_table : PySem.W.takesIn K (.ref p_Writer_table) = some true)
    (r_Writer_table : PySem.W.recIn K p_Writer_table "property" = some (.ref f_Writer_table :: rr_Writer_table))
    (l_Writer_table : K.lookup f_Writer_table = some ⟨oc_Writer_table, od_Writer_table, .func (PySem.W.fnOf "table" "Writer.table" (defArgs s_Writer_table) (defBody s_Writer_table) (defScope s_Writer_table) .none kV_Writer_table dc_Writer_table pm_Writer_table an_Writer_table cd_Writer_table ct_Writer_table), sl_Writer_table⟩)
    (c_Writer_table : PySem.W.codeIn K cd_Writer_table "Writer.table" = true)
    (w_Writer_table : PySem.W.keepIn K (.ref f_Writer_table) = true)
    (a_word : PySem.W.nsIn K mainGlobals "word" = some (some (.ref f_word)))
    (l_word : K.lookup f_word = some ⟨oc_word, od_word, .func (PySem.W.fnOf "word" "word" (defArgs s_word) (defBody s_word) (defScope s_word) .none kV_word dc_word pm_word an_word cd_word ct_word), sl_word⟩)
    (c_word : PySem.W.codeIn K cd_word "word" = true)
    (w_word : PySem.W.keepIn K (.ref f_word) = true)
    (a_leads_down : PySem.W.nsIn K mainGlobals "_leads_down" = some (some (.ref f_leads_down)))
    (l_leads_down : K.lookup f_leads_down = some ⟨oc_leads_down, od_leads_down, .func (PySem.W.fnOf "_leads_down" "_leads_down" (defArgs s_leads_down) (defBody s_leads_down) (defScope s_leads_down) .none kV_leads_down dc_leads_down pm_leads_down an_leads_down cd_leads_down ct_leads_down), sl_leads_down⟩)
    (c_leads_down : PySem.W.codeIn K cd_leads_down "_leads_down" = true)
    (w_leads_down : PySem.W.keepIn K (.ref f_leads_down) = true)
    (a_is_ranked_pair : PySem.W.nsIn K mainGlobals "_is_ranked_pair" = some (some (.ref f_is_ranked_pair)))
    (l_is_ranked_pair : K.lookup f_is_ranked_pair = some ⟨oc_is_ranked_pair, od_is_ranked_pair, .func (PySem.W.fnOf "_is_ranked_pair" "_is_ranked_pair" (defArgs s_is_ranked_pair) (defBody s_is_ranked_pair) (defScope s_is_ranked_pair) .none kV_is_ranked_pair dc_is_ranked_pair pm_is_ranked_pair an_is_ranked_pair cd_is_ranked_pair ct_is_ranked_pair), sl_is_ranked_pair⟩)
    (c_is_ranked_pair : PySem.W.codeIn K cd_is_ranked_pair "_is_ranked_pair" = true)
    (w_is_ranked_pair : PySem.W.keepIn K (.ref f_is_ranked_pair) = true)
    (a_told_ranks : PySem.W.nsIn K mainGlobals "_told_ranks" = some (some (.ref f_told_ranks)))
    (l_told_ranks : K.lookup f_told_ranks = some ⟨oc_told_ranks, od_told_ranks, .func (PySem.W.fnOf "_told_ranks" "_told_ranks" (defArgs s_told_ranks) (defBody s_told_ranks) (defScope s_told_ranks) .none kV_told_ranks dc_told_ranks pm_told_ranks an_told_ranks cd_told_ranks ct_told_ranks), sl_told_ranks⟩)
    (c_told_ranks : PySem.W.codeIn K cd_told_ranks "_told_ranks" = true)
    (w_told_ranks : PySem.W.keepIn K (.ref f_told_ranks) = true)
    (a_shows : PySem.W.nsIn K mainGlobals "shows" = some (some (.ref f_shows)))
    (l_shows : K.lookup f_shows = some ⟨oc_shows, od_shows, .func (PySem.W.fnOf "shows" "shows" (defArgs s_shows) (defBody s_shows) (defScope s_shows) .none kV_shows dc_shows pm_shows an_shows cd_shows ct_shows), sl_shows⟩)
    (c_shows : PySem.W.codeIn K cd_shows "shows" = true)
    (w_shows : PySem.W.keepIn K (.ref f_shows) = true)
    (a_alike : PySem.W.nsIn K mainGlobals "alike" = some (some (.ref f_alike)))
    (l_alike : K.lookup f_alike = some ⟨oc_alike, od_alike, .func (PySem.W.fnOf "alike" "alike" (defArgs s_alike) (defBody s_alike) (defScope s_alike) .none kV_alike dc_alike pm_alike an_alike cd_alike ct_alike), sl_alike⟩)
    (c_alike : PySem.W.codeIn K cd_alike "alike" = true)
    (w_alike : PySem.W.keepIn K (.ref f_alike) = true)
    (a_count_behind : PySem.W.nsIn K mainGlobals "_count_behind" = some (some (.ref f_count_behind)))
    (l_count_behind : K.lookup f_count_behind = some ⟨oc_count_behind, od_count_behind, .func (PySem.W.fnOf "_count_behind" "_count_behind" (defArgs s_count_behind) (defBody s_count_behind) (defScope s_count_behind) .none kV_count_behind dc_count_behind pm_count_behind an_count_behind cd_count_behind ct_count_behind), sl_count_behind⟩)
    (c_count_behind : PySem.W.codeIn K cd_count_behind "_count_behind" = true)
    (w_count_behind : PySem.W.keepIn K (.ref f_count_behind) = true)
    (a_count_ends : PySem.W.nsIn K mainGlobals "count_ends" = some (some (.ref f_count_ends)))
    (l_count_ends : K.lookup f_count_ends = some ⟨oc_count_ends, od_count_ends, .func (PySem.W.fnOf "count_ends" "count_ends" (defArgs s_count_ends) (defBody s_count_ends) (defScope s_count_ends) .none kV_count_ends dc_count_ends pm_count_ends an_count_ends cd_count_ends ct_count_ends), sl_count_ends⟩)
    (c_count_ends : PySem.W.codeIn K cd_count_ends "count_ends" = true)
    (w_count_ends : PySem.W.keepIn K (.ref f_count_ends) = true)
    (a_letters_into : PySem.W.nsIn K mainGlobals "_letters_into" = some (some (.ref f_letters_into)))
    (l_letters_into : K.lookup f_letters_into = some ⟨oc_letters_into, od_letters_into, .func (PySem.W.fnOf "_letters_into" "_letters_into" (defArgs s_letters_into) (defBody s_letters_into) (defScope s_letters_into) .none kV_letters_into dc_letters_into pm_letters_into an_letters_into cd_letters_into ct_letters_into), sl_letters_into⟩)
    (c_letters_into : PySem.W.codeIn K cd_letters_into "_letters_into" = true)
    (w_letters_into : PySem.W.keepIn K (.ref f_letters_into) = true)
    (a_levels_to : PySem.W.nsIn K mainGlobals "_levels_to" = some (some (.ref f_levels_to)))
    (l_levels_to : K.lookup f_levels_to = some ⟨oc_levels_to, od_levels_to, .func (PySem.W.fnOf "_levels_to" "_levels_to" (defArgs s_levels_to) (defBody s_levels_to) (defScope s_levels_to) .none kV_levels_to dc_levels_to pm_levels_to an_levels_to cd_levels_to ct_levels_to), sl_levels_to⟩)
    (c_levels_to : PySem.W.codeIn K cd_levels_to "_levels_to" = true)
    (w_levels_to : PySem.W.keepIn K (.ref f_levels_to) = true)
    (a_choices_along : PySem.W.nsIn K mainGlobals "choices_along" = some (some (.ref f_choices_along)))
    (l_choices_along : K.lookup f_choices_along = some ⟨oc_choices_along, od_choices_along, .func (PySem.W.fnOf "choices_along" "choices_along" (defArgs s_choices_along) (defBody s_choices_along) (defScope s_choices_along) .none kV_choices_along dc_choices_along pm_choices_along an_choices_along cd_choices_along ct_choices_along), sl_choices_along⟩)
    (c_choices_along : PySem.W.codeIn K cd_choices_along "choices_along" = true)
    (w_choices_along : PySem.W.keepIn K (.ref f_choices_along) = true)
    (a_sure_letters : PySem.W.nsIn K mainGlobals "sure_letters" = some (some (.ref f_sure_letters)))
    (l_sure_letters : K.lookup f_sure_letters = some ⟨oc_sure_letters, od_sure_letters, .func (PySem.W.fnOf "sure_letters" "sure_letters" (defArgs s_sure_letters) (defBody s_sure_letters) (defScope s_sure_letters) .none kV_sure_letters dc_sure_letters pm_sure_letters an_sure_letters cd_sure_letters ct_sure_letters), sl_sure_letters⟩)
    (c_sure_letters : PySem.W.codeIn K cd_sure_letters "sure_letters" = true)
    (w_sure_letters : PySem.W.keepIn K (.ref f_sure_letters) = true)
    (a_count_rows : PySem.W.nsIn K mainGlobals "count_rows" = some (some (.ref f_count_rows)))
    (l_count_rows : K.lookup f_count_rows = some ⟨oc_count_rows, od_count_rows, .func (PySem.W.fnOf "count_rows" "count_rows" (defArgs s_count_rows) (defBody s_count_rows) (defScope s_count_rows) .none kV_count_rows dc_count_rows pm_count_rows an_count_rows cd_count_rows ct_count_rows), sl_count_rows⟩)
    (c_count_rows : PySem.W.codeIn K cd_count_rows "count_rows" = true)
    (w_count_rows : PySem.W.keepIn K (.ref f_count_rows) = true)
    (a_stands_after : PySem.W.nsIn K mainGlobals "stands_after" = some (some (.ref f_stands_after)))
    (l_stands_after : K.lookup f_stands_after = some ⟨oc_stands_after, od_stands_after, .func (PySem.W.fnOf "stands_after" "stands_after" (defArgs s_stands_after) (defBody s_stands_after) (defScope s_stands_after) .none kV_stands_after dc_stands_after pm_stands_after an_stands_after cd_stands_after ct_stands_after), sl_stands_after⟩)
    (c_stands_after : PySem.W.codeIn K cd_stands_after "stands_after" = true)
    (w_stands_after : PySem.W.keepIn K (.ref f_stands_after) = true)
    (a_sure : PySem.W.nsIn K mainGlobals "sure" = some (some (.ref f_sure)))
    (l_sure : K.lookup f_sure = some ⟨oc_sure, od_sure, .func (PySem.W.fnOf "sure" "sure" (defArgs s_sure) (defBody s_sure) (defScope s_sure) .none kV_sure dc_sure pm_sure an_sure cd_sure ct_sure), sl_sure⟩)
    (c_sure : PySem.W.codeIn K cd_sure "sure" = true)
    (w_sure : PySem.W.keepIn K (.ref f_sure) = true)
    (a_row_to : PySem.W.nsIn K mainGlobals "row_to" = some (some (.ref f_row_to)))
    (l_row_to : K.lookup f_row_to = some ⟨oc_row_to, od_row_to, .func (PySem.W.fnOf "row_to" "row_to" (defArgs s_row_to) (defBody s_row_to) (defScope s_row_to) .none kV_row_to dc_row_to pm_row_to an_row_to cd_row_to ct_row_to), sl_row_to⟩)
    (c_row_to : PySem.W.codeIn K cd_row_to "row_to" = true)
    (w_row_to : PySem.W.keepIn K (.ref f_row_to) = true)
    (a_all_tables : PySem.W.nsIn K mainGlobals "all_tables" = some (some (.ref f_all_tables)))
    (l_all_tables : K.lookup f_all_tables = some ⟨oc_all_tables, od_all_tables, .func (PySem.W.fnOf "all_tables" "all_tables" (defArgs s_all_tables) (defBody s_all_tables) (defScope s_all_tables) .none kV_all_tables dc_all_tables pm_all_tables an_all_tables cd_all_tables ct_all_tables), sl_all_tables⟩)
    (c_all_tables : PySem.W.codeIn K cd_all_tables "all_tables" = true)
    (w_all_tables : PySem.W.keepIn K (.ref f_all_tables) = true)
    (a_is_step : PySem.W.nsIn K mainGlobals "_is_step" = some (some (.ref f_is_step)))
    (l_is_step : K.lookup f_is_step = some ⟨oc_is_step, od_is_step, .func (PySem.W.fnOf "_is_step" "_is_step" (defArgs s_is_step) (defBody s_is_step) (defScope s_is_step) .none kV_is_step dc_is_step pm_is_step an_is_step cd_is_step ct_is_step), sl_is_step⟩)
    (c_is_step : PySem.W.codeIn K cd_is_step "_is_step" = true)
    (w_is_step : PySem.W.keepIn K (.ref f_is_step) = true)
    (a_is_table_row : PySem.W.nsIn K mainGlobals "_is_table_row" = some (some (.ref f_is_table_row)))
    (l_is_table_row : K.lookup f_is_table_row = some ⟨oc_is_table_row, od_is_table_row, .func (PySem.W.fnOf "_is_table_row" "_is_table_row" (defArgs s_is_table_row) (defBody s_is_table_row) (defScope s_is_table_row) .none kV_is_table_row dc_is_table_row pm_is_table_row an_is_table_row cd_is_table_row ct_is_table_row), sl_is_table_row⟩)
    (c_is_table_row : PySem.W.codeIn K cd_is_table_row "_is_table_row" = true)
    (w_is_table_row : PySem.W.keepIn K (.ref f_is_table_row) = true)
    (a_check_table : PySem.W.nsIn K mainGlobals "_check_table" = some (some (.ref f_check_table)))
    (l_check_table : K.lookup f_check_table = some ⟨oc_check_table, od_check_table, .func (PySem.W.fnOf "_check_table" "_check_table" (defArgs s_check_table) (defBody s_check_table) (defScope s_check_table) .none kV_check_table dc_check_table pm_check_table an_check_table cd_check_table ct_check_table), sl_check_table⟩)
    (c_check_table : PySem.W.codeIn K cd_check_table "_check_table" = true)
    (w_check_table : PySem.W.keepIn K (.ref f_check_table) = true)
    (a_Writer_init : PySem.W.findIn K (.ref c_Writer) "__init__" = some (some (.ref f_Writer_init)))
    (i_Writer_init : PySem.W.isFn K (.ref f_Writer_init) = true)
    (l_Writer_init : K.lookup f_Writer_init = some ⟨oc_Writer_init, od_Writer_init, .func (PySem.W.fnOf "__init__" "Writer.__init__" (defArgs s_Writer_init) (defBody s_Writer_init) (defScope s_Writer_init) .none kV_Writer_init dc_Writer_init pm_Writer_init an_Writer_init cd_Writer_init ct_Writer_init), sl_Writer_init⟩)
    (c_Writer_init : PySem.W.codeIn K cd_Writer_init "Writer.__init__" = true)
    (w_Writer_init : PySem.W.keepIn K (.ref f_Writer_init) = true)
    (a_Writer_letters : PySem.W.findIn K (.ref c_Writer) "letters" = some (some (.ref p_Writer_letters)))
    (g_Writer_letters : PySem.W.specialIn K (.ref p_Writer_letters) "__get__" = some (some (.builtin "property.__get__")))
    (k_Writer_letters : PySem.W.takesIn K (.ref p_Writer_letters) = some true)
    (r_Writer_letters : PySem.W.recIn K p_Writer_letters "property" = some (.ref f_Writer_letters :: rr_Writer_letters))
    (l_Writer_letters : K.lookup f_Writer_letters = some ⟨oc_Writer_letters, od_Writer_letters, .func (PySem.W.fnOf "letters" "Writer.letters" (defArgs s_Writer_letters) (defBody s_Writer_letters) (defScope s_Writer_letters) .none kV_Writer_letters dc_Writer_letters pm_Writer_letters an_Writer_letters cd_Writer_letters ct_Writer_letters), sl_Writer_letters⟩)
    (c_Writer_letters : PySem.W.codeIn K cd_Writer_letters "Writer.letters" = true)
    (w_Writer_letters : PySem.W.keepIn K (.ref f_Writer_letters) = true)
    (a_check_row : PySem.W.nsIn K mainGlobals "_check_row" = some (some (.ref f_check_row)))
    (l_check_row : K.lookup f_check_row = some ⟨oc_check_row, od_check_row, .func (PySem.W.fnOf "_check_row" "_check_row" (defArgs s_check_row) (defBody s_check_row) (defScope s_check_row) .none kV_check_row dc_check_row pm_check_row an_check_row cd_check_row ct_check_row), sl_check_row⟩)
    (c_check_row : PySem.W.codeIn K cd_check_row "_check_row" = true)
    (w_check_row : PySem.W.keepIn K (.ref f_check_row) = true)
    (a_stands_of : PySem.W.nsIn K mainGlobals "stands_of" = some (some (.ref f_stands_of)))
    (l_stands_of : K.lookup f_stands_of = some ⟨oc_stands_of, od_stands_of, .func (PySem.W.fnOf "stands_of" "stands_of" (defArgs s_stands_of) (defBody s_stands_of) (defScope s_stands_of) .none kV_stands_of dc_stands_of pm_stands_of an_stands_of cd_stands_of ct_stands_of), sl_stands_of⟩)
    (c_stands_of : PySem.W.codeIn K cd_stands_of "stands_of" = true)
    (w_stands_of : PySem.W.keepIn K (.ref f_stands_of) = true)
    (a_write_row : PySem.W.nsIn K mainGlobals "write_row" = some (some (.ref f_write_row)))
    (l_write_row : K.lookup f_write_row = some ⟨oc_write_row, od_write_row, .func (PySem.W.fnOf "write_row" "write_row" (defArgs s_write_row) (defBody s_write_row) (defScope s_write_row) .none kV_write_row dc_write_row pm_write_row an_write_row cd_write_row ct_write_row), sl_write_row⟩)
    (c_write_row : PySem.W.codeIn K cd_write_row "write_row" = true)
    (w_write_row : PySem.W.keepIn K (.ref f_write_row) = true)
    (a_census : PySem.W.nsIn K mainGlobals "census" = some (some (.ref f_census)))
    (l_census : K.lookup f_census = some ⟨oc_census, od_census, .func (PySem.W.fnOf "census" "census" (defArgs s_census) (defBody s_census) (defScope s_census) .none kV_census dc_census pm_census an_census cd_census ct_census), sl_census⟩)
    (c_census : PySem.W.codeIn K cd_census "census" = true)
    (w_census : PySem.W.keepIn K (.ref f_census) = true)
    (a_law_mix : PySem.W.nsIn K mainGlobals "_law_mix" = some (some (.ref f_law_mix)))
    (l_law_mix : K.lookup f_law_mix = some ⟨oc_law_mix, od_law_mix, .func (PySem.W.fnOf "_law_mix" "_law_mix" (defArgs s_law_mix) (defBody s_law_mix) (defScope s_law_mix) .none kV_law_mix dc_law_mix pm_law_mix an_law_mix cd_law_mix ct_law_mix), sl_law_mix⟩)
    (c_law_mix : PySem.W.codeIn K cd_law_mix "_law_mix" = true)
    (w_law_mix : PySem.W.keepIn K (.ref f_law_mix) = true)
    (a_law_next : PySem.W.nsIn K mainGlobals "_law_next" = some (some (.ref f_law_next)))
    (l_law_next : K.lookup f_law_next = some ⟨oc_law_next, od_law_next, .func (PySem.W.fnOf "_law_next" "_law_next" (defArgs s_law_next) (defBody s_law_next) (defScope s_law_next) .none kV_law_next dc_law_next pm_law_next an_law_next cd_law_next ct_law_next), sl_law_next⟩)
    (c_law_next : PySem.W.codeIn K cd_law_next "_law_next" = true)
    (w_law_next : PySem.W.keepIn K (.ref f_law_next) = true)
    (a_law_pick : PySem.W.nsIn K mainGlobals "_law_pick" = some (some (.ref f_law_pick)))
    (l_law_pick : K.lookup f_law_pick = some ⟨oc_law_pick, od_law_pick, .func (PySem.W.fnOf "_law_pick" "_law_pick" (defArgs s_law_pick) (defBody s_law_pick) (defScope s_law_pick) .none kV_law_pick dc_law_pick pm_law_pick an_law_pick cd_law_pick ct_law_pick), sl_law_pick⟩)
    (c_law_pick : PySem.W.codeIn K cd_law_pick "_law_pick" = true)
    (w_law_pick : PySem.W.keepIn K (.ref f_law_pick) = true)
    (a_law_ask : PySem.W.nsIn K mainGlobals "_law_ask" = some (some (.ref f_law_ask)))
    (l_law_ask : K.lookup f_law_ask = some ⟨oc_law_ask, od_law_ask, .func (PySem.W.fnOf "_law_ask" "_law_ask" (defArgs s_law_ask) (defBody s_law_ask) (defScope s_law_ask) .none kV_law_ask dc_law_ask pm_law_ask an_law_ask cd_law_ask ct_law_ask), sl_law_ask⟩)
    (c_law_ask : PySem.W.codeIn K cd_law_ask "_law_ask" = true)
    (w_law_ask : PySem.W.keepIn K (.ref f_law_ask) = true)
    (a_law_error : PySem.W.nsIn K mainGlobals "_law_error" = some (some (.ref f_law_error)))
    (l_law_error : K.lookup f_law_error = some ⟨oc_law_error, od_law_error, .func (PySem.W.fnOf "_law_error" "_law_error" (defArgs s_law_error) (defBody s_law_error) (defScope s_law_error) .none kV_law_error dc_law_error pm_law_error an_law_error cd_law_error ct_law_error), sl_law_error⟩)
    (c_law_error : PySem.W.codeIn K cd_law_error "_law_error" = true)
    (w_law_error : PySem.W.keepIn K (.ref f_law_error) = true)
    (a_law_due : PySem.W.nsIn K mainGlobals "_law_due" = some (some (.ref f_law_due)))
    (l_law_due : K.lookup f_law_due = some ⟨oc_law_due, od_law_due, .func (PySem.W.fnOf "_law_due" "_law_due" (defArgs s_law_due) (defBody s_law_due) (defScope s_law_due) .none kV_law_due dc_law_due pm_law_due an_law_due cd_law_due ct_law_due), sl_law_due⟩)
    (c_law_due : PySem.W.codeIn K cd_law_due "_law_due" = true)
    (w_law_due : PySem.W.keepIn K (.ref f_law_due) = true)
    (a_law : PySem.W.nsIn K mainGlobals "law" = some (some (.ref f_law)))
    (l_law : K.lookup f_law = some ⟨oc_law, od_law, .func (PySem.W.fnOf "law" "law" (defArgs s_law) (defBody s_law) (defScope s_law) .none kV_law dc_law pm_law an_law cd_law ct_law), sl_law⟩)
    (c_law : PySem.W.codeIn K cd_law "law" = true)
    (w_law : PySem.W.keepIn K (.ref f_law) = true)
    (xq_BadStand : PySem.W.excIn K c_BadStand [.type "ValueError", .type "Exception", .type "BaseException", .type "object"] "ValueError.__new__" = true)
    (xk_BadStand : PySem.W.keepIn K (.ref c_BadStand) = true)
    (xs_BadStand : PySem.W.subIn K (.ref c_BadStand) (.type "BaseException") = some true)
    (xt_BadStand : PySem.W.typeIn K (.ref c_BadStand) = some (.type "type"))
    (xd_BadStand : PySem.W.hasDictIn K c_BadStand = true)
    (xg_BadStand : PySem.W.findIn K (.ref c_BadStand) "__getattribute__" = some (some (.builtin "BaseException.__getattribute__")))
    (xn_BadStand : PySem.W.findIn K (.ref c_BadStand) "__getattr__" = some none)
    (xa_BadStand : PySem.W.findIn K (.ref c_BadStand) "__class__" = some (some (.builtin "object.__class__")))
    (xo_BadStand : PySem.W.mroIn K c_BadStand (.type "object") = some true)
    (xq_BadSize : PySem.W.excIn K c_BadSize [.type "ValueError", .type "Exception", .type "BaseException", .type "object"] "ValueError.__new__" = true)
    (xk_BadSize : PySem.W.keepIn K (.ref c_BadSize) = true)
    (xs_BadSize : PySem.W.subIn K (.ref c_BadSize) (.type "BaseException") = some true)
    (xt_BadSize : PySem.W.typeIn K (.ref c_BadSize) = some (.type "type"))
    (xd_BadSize : PySem.W.hasDictIn K c_BadSize = true)
    (xg_BadSize : PySem.W.findIn K (.ref c_BadSize) "__getattribute__" = some (some (.builtin "BaseException.__getattribute__")))
    (xn_BadSize : PySem.W.findIn K (.ref c_BadSize) "__getattr__" = some none)
    (xa_BadSize : PySem.W.findIn K (.ref c_BadSize) "__class__" = some (some (.builtin "object.__class__")))
    (xo_BadSize : PySem.W.mroIn K c_BadSize (.type "object") = some true)
    (xL_BadRow : K.lookup c_BadRow = some (excClassObj nm_BadRow q_BadRow c_BadRow N_BadRow bs_BadRow [.ref c_WriterError, .type "ValueError", .type "Exception", .type "BaseException", .type "object"] true sn_BadRow sub_BadRow ab_BadRow col_BadRow dd_BadRow m0_BadRow m1_BadRow m2_BadRow m3_BadRow m5_BadRow "ValueError.__new__"))
    (sa_BadRow : PySem.W.findIn K (.ref c_BadRow) "__setattr__" = some (some (.builtin "object.__setattr__")))
    (ga_BadRow : PySem.W.findIn K (.ref c_BadRow) "__getattribute__" = some (some (.builtin "BaseException.__getattribute__")))
    (gg_BadRow : PySem.W.findIn K (.ref c_BadRow) "__getattr__" = some none)
    (ti_BadRow : PySem.W.typeIn K (.ref f_BadRow_init) = some (.type "function"))
    (kC_BadRow : PySem.W.keepIn K (.ref c_BadRow) = true)
    (eC_BadRow : PySem.W.subIn K (.ref c_BadRow) (.type "BaseException") = some true)
    (tC_BadRow : PySem.W.typeIn K (.ref c_BadRow) = some (.type "type"))
    (hC_BadRow : PySem.W.hasDictIn K c_BadRow = true)
    (iC_BadRow : PySem.W.isClsIn K c_BadRow = true)
    (sC_BadRow : PySem.W.subIn K (.ref c_BadRow) (.ref c_BadRow) = some true)
    (ca_BadRow : PySem.W.findIn K (.ref c_BadRow) "__class__" = some (some (.builtin "object.__class__")))
    (cm_BadRow : PySem.W.mroIn K c_BadRow (.type "object") = some true)
    (sB_BadRow_WriterError : PySem.W.subIn K (.ref c_BadRow) (.ref c_WriterError) = some true)
    (iB_BadRow_WriterError : PySem.W.isClsIn K c_WriterError = true)
    (tB_BadRow_WriterError : PySem.W.typeIn K (.ref c_WriterError) = some (.type "type"))
    (no_BadRow_index : PySem.W.findIn K (.ref c_BadRow) "index" = some none)
    (xL_BadWritten : K.lookup c_BadWritten = some (excClassObj nm_BadWritten q_BadWritten c_BadWritten N_BadWritten bs_BadWritten [.ref c_WriterError, .type "ValueError", .type "Exception", .type "BaseException", .type "object"] true sn_BadWritten sub_BadWritten ab_BadWritten col_BadWritten dd_BadWritten m0_BadWritten m1_BadWritten m2_BadWritten m3_BadWritten m5_BadWritten "ValueError.__new__"))
    (sa_BadWritten : PySem.W.findIn K (.ref c_BadWritten) "__setattr__" = some (some (.builtin "object.__setattr__")))
    (ga_BadWritten : PySem.W.findIn K (.ref c_BadWritten) "__getattribute__" = some (some (.builtin "BaseException.__getattribute__")))
    (gg_BadWritten : PySem.W.findIn K (.ref c_BadWritten) "__getattr__" = some none)
    (ti_BadWritten : PySem.W.typeIn K (.ref f_BadWritten_init) = some (.type "function"))
    (kC_BadWritten : PySem.W.keepIn K (.ref c_BadWritten) = true)
    (eC_BadWritten : PySem.W.subIn K (.ref c_BadWritten) (.type "BaseException") = some true)
    (tC_BadWritten : PySem.W.typeIn K (.ref c_BadWritten) = some (.type "type"))
    (hC_BadWritten : PySem.W.hasDictIn K c_BadWritten = true)
    (iC_BadWritten : PySem.W.isClsIn K c_BadWritten = true)
    (sC_BadWritten : PySem.W.subIn K (.ref c_BadWritten) (.ref c_BadWritten) = some true)
    (ca_BadWritten : PySem.W.findIn K (.ref c_BadWritten) "__class__" = some (some (.builtin "object.__class__")))
    (cm_BadWritten : PySem.W.mroIn K c_BadWritten (.type "object") = some true)
    (sB_BadWritten_WriterError : PySem.W.subIn K (.ref c_BadWritten) (.ref c_WriterError) = some true)
    (iB_BadWritten_WriterError : PySem.W.isClsIn K c_WriterError = true)
    (tB_BadWritten_WriterError : PySem.W.typeIn K (.ref c_WriterError) = some (.type "type"))
    (no_BadWritten_index : PySem.W.findIn K (.ref c_BadWritten) "index" = some none)
    (pg_Writer : PySem.W.plainGet K c_Writer Str.empty = true)
    (hd_Writer : PySem.W.hasDictIn K c_Writer = true)
    (po_Writer : PySem.W.plainOver K c_Writer = true)
    (sa_Writer : PySem.W.findIn K (.ref c_Writer) "__setattr__" = some (some (.builtin "object.__setattr__")))
    (mk_Writer : PySem.W.makesIn K c_Writer = true)
    (kc_Writer : PySem.W.keepIn K (.ref c_Writer) = true)
    (no_Writer_table : PySem.W.findIn K (.ref c_Writer) "_table" = some none)
    (m_GREATEST_WRITTEN : PySem.W.nsIn K mainGlobals "GREATEST_WRITTEN" = some (some (.int 3 t_GREATEST_WRITTEN)))
    (m_LONGEST : PySem.W.nsIn K mainGlobals "LONGEST" = some (some (.int 60 t_LONGEST)))
    (m_APART : PySem.W.nsIn K mainGlobals "APART" = some (some (.int 2 t_APART)))
    (m_TOGETHER : PySem.W.nsIn K mainGlobals "TOGETHER" = some (some (.int 1 t_TOGETHER)))
    (m_PARTING : PySem.W.nsIn K mainGlobals "PARTING" = some (some (.int 0 t_PARTING)))
    (m_LEAST_LETTERS : PySem.W.nsIn K mainGlobals "LEAST_LETTERS" = some (some (.int 2 t_LEAST_LETTERS)))
    (m_MOST_LETTERS : PySem.W.nsIn K mainGlobals "MOST_LETTERS" = some (some (.int 3 t_MOST_LETTERS)))
    (m_MOST_STANDS : PySem.W.nsIn K mainGlobals "MOST_STANDS" = some (some (.int 6 t_MOST_STANDS)))
    (z_bool : PySem.W.nsIn K mainGlobals "bool" = some none)
    (z_int : PySem.W.nsIn K mainGlobals "int" = some none)
    (z_isinstance : PySem.W.nsIn K mainGlobals "isinstance" = some none)
    (z_len : PySem.W.nsIn K mainGlobals "len" = some none)
    (z_tuple : PySem.W.nsIn K mainGlobals "tuple" = some none)
    (z_enumerate : PySem.W.nsIn K mainGlobals "enumerate" = some none)
    (z_max : PySem.W.nsIn K mainGlobals "max" = some none)
    (z_min : PySem.W.nsIn K mainGlobals "min" = some none)
    (z_list : PySem.W.nsIn K mainGlobals "list" = some none)
    (z_sorted : PySem.W.nsIn K mainGlobals "sorted" = some none)
    (z_range : PySem.W.nsIn K mainGlobals "range" = some none)
    (z_all : PySem.W.nsIn K mainGlobals "all" = some none)
    (z_any : PySem.W.nsIn K mainGlobals "any" = some none)
    (z_reversed : PySem.W.nsIn K mainGlobals "reversed" = some none)
    (z_zip : PySem.W.nsIn K mainGlobals "zip" = some none)
    (z_sum : PySem.W.nsIn K mainGlobals "sum" = some none)
    (yS_BadRow : PySem.W.subIn K (.ref c_BadRow) (.type "BaseException") = some true)
    (yD_BadRow : PySem.W.hasDictIn K c_BadRow = true)
    (yT_BadRow : PySem.W.typeIn K (.ref c_BadRow) = some (.type "type"))
    (yI_BadRow : PySem.W.isClsIn K c_BadRow = true)
    (yS_BadSize : PySem.W.subIn K (.ref c_BadSize) (.type "BaseException") = some true)
    (yD_BadSize : PySem.W.hasDictIn K c_BadSize = true)
    (yT_BadSize : PySem.W.typeIn K (.ref c_BadSize) = some (.type "type"))
    (yI_BadSize : PySem.W.isClsIn K c_BadSize = true)
    (yS_BadStand : PySem.W.subIn K (.ref c_BadStand) (.type "BaseException") = some true)
    (yD_BadStand : PySem.W.hasDictIn K c_BadStand = true)
    (yT_BadStand : PySem.W.typeIn K (.ref c_BadStand) = some (.type "type"))
    (yI_BadStand : PySem.W.isClsIn K c_BadStand = true)
    (yS_BadWritten : PySem.W.subIn K (.ref c_BadWritten) (.type "BaseException") = some true)
    (yD_BadWritten : PySem.W.hasDictIn K c_BadWritten = true)
    (yT_BadWritten : PySem.W.typeIn K (.ref c_BadWritten) = some (.type "type"))
    (yI_BadWritten : PySem.W.isClsIn K c_BadWritten = true)
    (yS_WriterError : PySem.W.subIn K (.ref c_WriterError) (.type "BaseException") = some true)
    (yD_WriterError : PySem.W.hasDictIn K c_WriterError = true)
    (yT_WriterError : PySem.W.typeIn K (.ref c_WriterError) = some (.type "type"))
    (yI_WriterError : PySem.W.isClsIn K c_WriterError = true)
    (yU_BadRow_BadRow : PySem.W.subIn K (.ref c_BadRow) (.ref c_BadRow) = some true)
    (yU_BadRow_BadSize : PySem.W.subIn K (.ref c_BadRow) (.ref c_BadSize) = some false)
    (yU_BadRow_BadStand : PySem.W.subIn K (.ref c_BadRow) (.ref c_BadStand) = some false)
    (yU_BadRow_BadWritten : PySem.W.subIn K (.ref c_BadRow) (.ref c_BadWritten) = some false)
    (yU_BadRow_WriterError : PySem.W.subIn K (.ref c_BadRow) (.ref c_WriterError) = some true)
    (yU_BadWritten_BadRow : PySem.W.subIn K (.ref c_BadWritten) (.ref c_BadRow) = some false)
    (yU_BadWritten_BadSize : PySem.W.subIn K (.ref c_BadWritten) (.ref c_BadSize) = some false)
    (yU_BadWritten_BadStand : PySem.W.subIn K (.ref c_BadWritten) (.ref c_BadStand) = some false)
    (yU_BadWritten_BadWritten : PySem.W.subIn K (.ref c_BadWritten) (.ref c_BadWritten) = some true)
    (yU_BadWritten_WriterError : PySem.W.subIn K (.ref c_BadWritten) (.ref c_WriterError) = some true)
    (yU_BadStand_BadRow : PySem.W.subIn K (.ref c_BadStand) (.ref c_BadRow) = some false)
    (yU_BadStand_BadSize : PySem.W.subIn K (.ref c_BadStand) (.ref c_BadSize) = some false)
    (yU_BadStand_BadStand : PySem.W.subIn K (.ref c_BadStand) (.ref c_BadStand) = some true)
    (yU_BadStand_BadWritten : PySem.W.subIn K (.ref c_BadStand) (.ref c_BadWritten) = some false)
    (yU_BadStand_WriterError : PySem.W.subIn K (.ref c_BadStand) (.ref c_WriterError) = some true)
    (yU_BadSize_BadRow : PySem.W.subIn K (.ref c_BadSize) (.ref c_BadRow) = some false)
    (yU_BadSize_BadSize : PySem.W.subIn K (.ref c_BadSize) (.ref c_BadSize) = some true)
    (yU_BadSize_BadStand : PySem.W.subIn K (.ref c_BadSize) (.ref c_BadStand) = some false)
    (yU_BadSize_BadWritten : PySem.W.subIn K (.ref c_BadSize) (.ref c_BadWritten) = some false)
    (yU_BadSize_WriterError : PySem.W.subIn K (.ref c_BadSize) (.ref c_WriterError) = some true)
    : ∃ fd : FuncData, (∀ (s : Shared) (v : Value), BindsTo s fd ⟨[v], []⟩ [("_law_script", v)]) ∧ ∀ base : Heap, K.In base → base.Ns mainGlobals mg → FnOk l.prog w K mg base CX0 10 fa fd ["_law_script"] (spLaw K) := by
  have ea := hfa.symm.trans (PySem.W.mg_of X G a_law)
  cases ea
  have F_BadRow_init := fun_mk (st := s_BadRow_init) l_BadRow_init c_BadRow_init w_BadRow_init
  have b_BadRow_init := F_BadRow_init.binds (ps := ["self", "index"]) fun _ _ _ _ _ _ us hl => match us, hl with | [_, _], _ => rfl
  have F_BadWritten_init := fun_mk (st := s_BadWritten_init) l_BadWritten_init c_BadWritten_init w_BadWritten_init
  have b_BadWritten_init := F_BadWritten_init.binds (ps := ["self", "index"]) fun _ _ _ _ _ _ us hl => match us, hl with | [_, _], _ => rfl
  have F_is_between := fun_mk (st := s_is_between) l_is_between c_is_between w_is_between
  have b_is_between := F_is_between.binds (ps := ["value", "least", "most"]) fun _ _ _ _ _ _ us hl => match us, hl with | [_, _, _], _ => rfl
  have F_is_tuple_of := fun_mk (st := s_is_tuple_of) l_is_tuple_of c_is_tuple_of w_is_tuple_of
  have b_is_tuple_of := F_is_tuple_of.binds (ps := ["value", "least", "most"]) fun _ _ _ _ _ _ us hl => match us, hl with | [_, _, _], _ => rfl
  have F_first_outside := fun_mk (st := s_first_outside) l_first_outside c_first_outside w_first_outside
  have b_first_outside := F_first_outside.binds (ps := ["things", "most"]) fun _ _ _ _ _ _ us hl => match us, hl with | [_, _], _ => rfl
  have F_check_size := fun_mk (st := s_check_size) l_check_size c_check_size w_check_size
  have b_check_size := F_check_size.binds (ps := ["value", "least", "most"]) fun _ _ _ _ _ _ us hl => match us, hl with | [_, _, _], _ => rfl
  have F_Writer_len := fun_mk (st := s_Writer_len) l_Writer_len c_Writer_len w_Writer_len
  have b_Writer_len := F_Writer_len.binds (ps := ["self"]) fun _ _ _ _ _ _ us hl => match us, hl with | [_], _ => rfl
  have F_check_stand := fun_mk (st := s_check_stand) l_check_stand c_check_stand w_check_stand
  have b_check_stand := F_check_stand.binds (ps := ["writer", "stand"]) fun _ _ _ _ _ _ us hl => match us, hl with | [_, _], _ => rfl
  have F_check_written := fun_mk (st := s_check_written) l_check_written c_check_written w_check_written
  have b_check_written := F_check_written.binds (ps := ["written"]) fun _ _ _ _ _ _ us hl => match us, hl with | [_], _ => rfl
  have F_as_pair := fun_mk (st := s_as_pair) l_as_pair c_as_pair w_as_pair
  have b_as_pair := F_as_pair.binds (ps := ["one", "other"]) fun _ _ _ _ _ _ us hl => match us, hl with | [_, _], _ => rfl
  have F_come_to := fun_mk (st := s_come_to) l_come_to c_come_to w_come_to
  have b_come_to := F_come_to.binds (ps := ["starts", "leads"]) fun _ _ _ _ _ _ us hl => match us, hl with | [_, _], _ => rfl
  have F_stands_come_to := fun_mk (st := s_stands_come_to) l_stands_come_to c_stands_come_to w_stands_come_to
  have b_stands_come_to := F_stands_come_to.binds (ps := ["table"]) fun _ _ _ _ _ _ us hl => match us, hl with | [_], _ => rfl
  have F_pairs_behind := fun_mk (st := s_pairs_behind) l_pairs_behind c_pairs_behind w_pairs_behind
  have b_pairs_behind := F_pairs_behind.binds (ps := ["table", "pair"]) fun _ _ _ _ _ _ us hl => match us, hl with | [_, _], _ => rfl
  have F_first_pairs := fun_mk (st := s_first_pairs) l_first_pairs c_first_pairs w_first_pairs
  have b_first_pairs := F_first_pairs.binds (ps := ["table"]) fun _ _ _ _ _ _ us hl => match us, hl with | [_], _ => rfl
  have F_pair_leads := fun_mk (st := s_pair_leads) l_pair_leads c_pair_leads w_pair_leads
  have b_pair_leads := F_pair_leads.binds (ps := ["table"]) fun _ _ _ _ _ _ us hl => match us, hl with | [_], _ => rfl
  have F_rank_pairs := fun_mk (st := s_rank_pairs) l_rank_pairs c_rank_pairs w_rank_pairs
  have b_rank_pairs := F_rank_pairs.binds (ps := ["leads"]) fun _ _ _ _ _ _ us hl => match us, hl with | [_], _ => rfl
  have F_may_read := fun_mk (st := s_may_read) l_may_read c_may_read w_may_read
  have b_may_read := F_may_read.binds (ps := ["how", "one", "other"]) fun _ _ _ _ _ _ us hl => match us, hl with | [_, _, _], _ => rfl
  have F_how_behind := fun_mk (st := s_how_behind) l_how_behind c_how_behind w_how_behind
  have b_how_behind := F_how_behind.binds (ps := ["how", "one", "other"]) fun _ _ _ _ _ _ us hl => match us, hl with | [_, _, _], _ => rfl
  have F_moves_of := fun_mk (st := s_moves_of) l_moves_of c_moves_of w_moves_of
  have b_moves_of := F_moves_of.binds (ps := ["table", "state"]) fun _ _ _ _ _ _ us hl => match us, hl with | [_, _], _ => rfl
  have F_moves_from := fun_mk (st := s_moves_from) l_moves_from c_moves_from w_moves_from
  have b_moves_from := F_moves_from.binds (ps := ["table", "start"]) fun _ _ _ _ _ _ us hl => match us, hl with | [_, _], _ => rfl
  have F_states_before := fun_mk (st := s_states_before) l_states_before c_states_before w_states_before
  have b_states_before := F_states_before.binds (ps := ["moves", "states"]) fun _ _ _ _ _ _ us hl => match us, hl with | [_, _], _ => rfl
  have F_least_first := fun_mk (st := s_least_first) l_least_first c_least_first w_least_first
  have b_least_first := F_least_first.binds (ps := ["moves", "start", "levels"]) fun _ _ _ _ _ _ us hl => match us, hl with | [_, _, _], _ => rfl
  have F_states_before_by := fun_mk (st := s_states_before_by) l_states_before_by c_states_before_by w_states_before_by
  have b_states_before_by := F_states_before_by.binds (ps := ["letter", "moves", "states"]) fun _ _ _ _ _ _ us hl => match us, hl with | [_, _, _], _ => rfl
  have F_levels_beside := fun_mk (st := s_levels_beside) l_levels_beside c_levels_beside w_levels_beside
  have b_levels_beside := F_levels_beside.binds (ps := ["moves", "first", "ends"]) fun _ _ _ _ _ _ us hl => match us, hl with | [_, _, _], _ => rfl
  have F_least_second := fun_mk (st := s_least_second) l_least_second c_least_second w_least_second
  have b_least_second := F_least_second.binds (ps := ["moves", "start", "first", "ends"]) fun _ _ _ _ _ _ us hl => match us, hl with | [_, _, _, _], _ => rfl
  have F_least_rows := fun_mk (st := s_least_rows) l_least_rows c_least_rows w_least_rows
  have b_least_rows := F_least_rows.binds (ps := ["moves", "start", "levels"]) fun _ _ _ _ _ _ us hl => match us, hl with | [_, _, _], _ => rfl
  have F_Writer_table := fun_mk (st := s_Writer_table) l_Writer_table c_Writer_table w_Writer_table
  have b_Writer_table := F_Writer_table.binds (ps := ["self"]) fun _ _ _ _ _ _ us hl => match us, hl with | [_], _ => rfl
  have F_word := fun_mk (st := s_word) l_word c_word w_word
  have b_word := F_word.binds (ps := ["writer"]) fun _ _ _ _ _ _ us hl => match us, hl with | [_], _ => rfl
  have F_leads_down := fun_mk (st := s_leads_down) l_leads_down c_leads_down w_leads_down
  have b_leads_down := F_leads_down.binds (ps := ["table", "pair", "told"]) fun _ _ _ _ _ _ us hl => match us, hl with | [_, _, _], _ => rfl
  have F_is_ranked_pair := fun_mk (st := s_is_ranked_pair) l_is_ranked_pair c_is_ranked_pair w_is_ranked_pair
  have b_is_ranked_pair := F_is_ranked_pair.binds (ps := ["value", "stands", "bound"]) fun _ _ _ _ _ _ us hl => match us, hl with | [_, _, _], _ => rfl
  have F_told_ranks := fun_mk (st := s_told_ranks) l_told_ranks c_told_ranks w_told_ranks
  have b_told_ranks := F_told_ranks.binds (ps := ["value", "stands", "bound"]) fun _ _ _ _ _ _ us hl => match us, hl with | [_, _, _], _ => rfl
  have F_shows := fun_mk (st := s_shows) l_shows c_shows w_shows
  have b_shows := F_shows.binds (ps := ["writer", "bound", "value"]) fun _ _ _ _ _ _ us hl => match us, hl with | [_, _, _], _ => rfl
  have F_alike := fun_mk (st := s_alike) l_alike c_alike w_alike
  have b_alike := F_alike.binds (ps := ["writer", "stand", "many"]) fun _ _ _ _ _ _ us hl => match us, hl with | [_, _, _], _ => rfl
  have F_count_behind := fun_mk (st := s_count_behind) l_count_behind c_count_behind w_count_behind
  have b_count_behind := F_count_behind.binds (ps := ["table", "counts", "wrote"]) fun _ _ _ _ _ _ us hl => match us, hl with | [_, _, _], _ => rfl
  have F_count_ends := fun_mk (st := s_count_ends) l_count_ends c_count_ends w_count_ends
  have b_count_ends := F_count_ends.binds (ps := ["table", "stand", "written"]) fun _ _ _ _ _ _ us hl => match us, hl with | [_, _, _], _ => rfl
  have F_letters_into := fun_mk (st := s_letters_into) l_letters_into c_letters_into w_letters_into
  have b_letters_into := F_letters_into.binds (ps := ["row", "wrote", "ends"]) fun _ _ _ _ _ _ us hl => match us, hl with | [_, _, _], _ => rfl
  have F_levels_to := fun_mk (st := s_levels_to) l_levels_to c_levels_to w_levels_to
  have b_levels_to := F_levels_to.binds (ps := ["table", "written", "ends"]) fun _ _ _ _ _ _ us hl => match us, hl with | [_, _, _], _ => rfl
  have F_choices_along := fun_mk (st := s_choices_along) l_choices_along c_choices_along w_choices_along
  have b_choices_along := F_choices_along.binds (ps := ["table", "stand", "written", "ends"]) fun _ _ _ _ _ _ us hl => match us, hl with | [_, _, _, _], _ => rfl
  have F_sure_letters := fun_mk (st := s_sure_letters) l_sure_letters c_sure_letters w_sure_letters
  have b_sure_letters := F_sure_letters.binds (ps := ["table", "written"]) fun _ _ _ _ _ _ us hl => match us, hl with | [_, _], _ => rfl
  have F_count_rows := fun_mk (st := s_count_rows) l_count_rows c_count_rows w_count_rows
  have b_count_rows := F_count_rows.binds (ps := ["writer", "written"]) fun _ _ _ _ _ _ us hl => match us, hl with | [_, _], _ => rfl
  have F_stands_after := fun_mk (st := s_stands_after) l_stands_after c_stands_after w_stands_after
  have b_stands_after := F_stands_after.binds (ps := ["writer", "written"]) fun _ _ _ _ _ _ us hl => match us, hl with | [_, _], _ => rfl
  have F_sure := fun_mk (st := s_sure) l_sure c_sure w_sure
  have b_sure := F_sure.binds (ps := ["writer", "written"]) fun _ _ _ _ _ _ us hl => match us, hl with | [_, _], _ => rfl
  have F_row_to := fun_mk (st := s_row_to) l_row_to c_row_to w_row_to
  have b_row_to := F_row_to.binds (ps := ["writer", "written", "stand"]) fun _ _ _ _ _ _ us hl => match us, hl with | [_, _, _], _ => rfl
  have F_all_tables := fun_mk (st := s_all_tables) l_all_tables c_all_tables w_all_tables
  have b_all_tables := F_all_tables.binds (ps := ["stands", "written"]) fun _ _ _ _ _ _ us hl => match us, hl with | [_, _], _ => rfl
  have F_is_step := fun_mk (st := s_is_step) l_is_step c_is_step w_is_step
  have b_is_step := F_is_step.binds (ps := ["value", "stands"]) fun _ _ _ _ _ _ us hl => match us, hl with | [_, _], _ => rfl
  have F_is_table_row := fun_mk (st := s_is_table_row) l_is_table_row c_is_table_row w_is_table_row
  have b_is_table_row := F_is_table_row.binds (ps := ["value", "stands"]) fun _ _ _ _ _ _ us hl => match us, hl with | [_, _], _ => rfl
  have F_check_table := fun_mk (st := s_check_table) l_check_table c_check_table w_check_table
  have b_check_table := F_check_table.binds (ps := ["table"]) fun _ _ _ _ _ _ us hl => match us, hl with | [_], _ => rfl
  have F_Writer_init := fun_mk (st := s_Writer_init) l_Writer_init c_Writer_init w_Writer_init
  have b_Writer_init := F_Writer_init.binds (ps := ["self", "table"]) fun _ _ _ _ _ _ us hl => match us, hl with | [_, _], _ => rfl
  have F_Writer_letters := fun_mk (st := s_Writer_letters) l_Writer_letters c_Writer_letters w_Writer_letters
  have b_Writer_letters := F_Writer_letters.binds (ps := ["self"]) fun _ _ _ _ _ _ us hl => match us, hl with | [_], _ => rfl
  have F_check_row := fun_mk (st := s_check_row) l_check_row c_check_row w_check_row
  have b_check_row := F_check_row.binds (ps := ["writer", "row"]) fun _ _ _ _ _ _ us hl => match us, hl with | [_, _], _ => rfl
  have F_stands_of := fun_mk (st := s_stands_of) l_stands_of c_stands_of w_stands_of
  have b_stands_of := F_stands_of.binds (ps := ["writer", "row"]) fun _ _ _ _ _ _ us hl => match us, hl with | [_, _], _ => rfl
  have F_write_row := fun_mk (st := s_write_row) l_write_row c_write_row w_write_row
  have b_write_row := F_write_row.binds (ps := ["writer", "row"]) fun _ _ _ _ _ _ us hl => match us, hl with | [_, _], _ => rfl
  have F_census := fun_mk (st := s_census) l_census c_census w_census
  have b_census := F_census.binds (ps := ["stands", "written"]) fun _ _ _ _ _ _ us hl => match us, hl with | [_, _], _ => rfl
  have F_law_mix := fun_mk (st := s_law_mix) l_law_mix c_law_mix w_law_mix
  have b_law_mix := F_law_mix.binds (ps := ["_law_script", "_law_seed"]) fun _ _ _ _ _ _ us hl => match us, hl with | [_, _], _ => rfl
  have F_law_next := fun_mk (st := s_law_next) l_law_next c_law_next w_law_next
  have b_law_next := F_law_next.binds (ps := ["_law_h", "_law_cap"]) fun _ _ _ _ _ _ us hl => match us, hl with | [_, _], _ => rfl
  have F_law_pick := fun_mk (st := s_law_pick) l_law_pick c_law_pick w_law_pick
  have b_law_pick := F_law_pick.binds (ps := ["_law_h", "_law_things"]) fun _ _ _ _ _ _ us hl => match us, hl with | [_, _], _ => rfl
  have F_law_ask := fun_mk (st := s_law_ask) l_law_ask c_law_ask w_law_ask
  have b_law_ask := F_law_ask.binds (ps := ["_law_kind", "_law_writer", "_law_some"]) fun _ _ _ _ _ _ us hl => match us, hl with | [_, _, _], _ => rfl
  have F_law_error := fun_mk (st := s_law_error) l_law_error c_law_error w_law_error
  have b_law_error := F_law_error.binds (ps := ["_law_kind", "_law_writer", "_law_some"]) fun _ _ _ _ _ _ us hl => match us, hl with | [_, _, _], _ => rfl
  have F_law_due := fun_mk (st := s_law_due) l_law_due c_law_due w_law_due
  have b_law_due := F_law_due.binds (ps := ["_law_kind", "_law_good", "_law_wrong"]) fun _ _ _ _ _ _ us hl => match us, hl with | [_, _, _], _ => rfl
  have F_law := fun_mk (st := s_law) l_law c_law w_law
  have b_law := F_law.binds (ps := ["_law_script"]) fun _ _ _ _ _ _ us hl => match us, hl with | [_], _ => rfl
  let T : Env K mg := {
    f_BadRow_init := f_BadRow_init,
    d_BadRow_init := _,
    F_BadRow_init := F_BadRow_init,
    b_BadRow_init := b_BadRow_init,
    f_BadWritten_init := f_BadWritten_init,
    d_BadWritten_init := _,
    F_BadWritten_init := F_BadWritten_init,
    b_BadWritten_init := b_BadWritten_init,
    f_is_between := f_is_between,
    d_is_between := _,
    F_is_between := F_is_between,
    b_is_between := b_is_between,
    m_is_between := PySem.W.mg_of X G a_is_between,
    f_is_tuple_of := f_is_tuple_of,
    d_is_tuple_of := _,
    F_is_tuple_of := F_is_tuple_of,
    b_is_tuple_of := b_is_tuple_of,
    m_is_tuple_of := PySem.W.mg_of X G a_is_tuple_of,
    f_first_outside := f_first_outside,
    d_first_outside := _,
    F_first_outside := F_first_outside,
    b_first_outside := b_first_outside,
    m_first_outside := PySem.W.mg_of X G a_first_outside,
    f_check_size := f_check_size,
    d_check_size := _,
    F_check_size := F_check_size,
    b_check_size := b_check_size,
    m_check_size := PySem.W.mg_of X G a_check_size,
    f_Writer_len := f_Writer_len,
    d_Writer_len := _,
    F_Writer_len := F_Writer_len,
    b_Writer_len := b_Writer_len,
    f_check_stand := f_check_stand,
    d_check_stand := _,
    F_check_stand := F_check_stand,
    b_check_stand := b_check_stand,
    m_check_stand := PySem.W.mg_of X G a_check_stand,
    f_check_written := f_check_written,
    d_check_written := _,
    F_check_written := F_check_written,
    b_check_written := b_check_written,
    m_check_written := PySem.W.mg_of X G a_check_written,
    f_as_pair := f_as_pair,
    d_as_pair := _,
    F_as_pair := F_as_pair,
    b_as_pair := b_as_pair,
    m_as_pair := PySem.W.mg_of X G a_as_pair,
    f_come_to := f_come_to,
    d_come_to := _,
    F_come_to := F_come_to,
    b_come_to := b_come_to,
    m_come_to := PySem.W.mg_of X G a_come_to,
    f_stands_come_to := f_stands_come_to,
    d_stands_come_to := _,
    F_stands_come_to := F_stands_come_to,
    b_stands_come_to := b_stands_come_to,
    m_stands_come_to := PySem.W.mg_of X G a_stands_come_to,
    f_pairs_behind := f_pairs_behind,
    d_pairs_behind := _,
    F_pairs_behind := F_pairs_behind,
    b_pairs_behind := b_pairs_behind,
    m_pairs_behind := PySem.W.mg_of X G a_pairs_behind,
    f_first_pairs := f_first_pairs,
    d_first_pairs := _,
    F_first_pairs := F_first_pairs,
    b_first_pairs := b_first_pairs,
    m_first_pairs := PySem.W.mg_of X G a_first_pairs,
    f_pair_leads := f_pair_leads,
    d_pair_leads := _,
    F_pair_leads := F_pair_leads,
    b_pair_leads := b_pair_leads,
    m_pair_leads := PySem.W.mg_of X G a_pair_leads,
    f_rank_pairs := f_rank_pairs,
    d_rank_pairs := _,
    F_rank_pairs := F_rank_pairs,
    b_rank_pairs := b_rank_pairs,
    m_rank_pairs := PySem.W.mg_of X G a_rank_pairs,
    f_may_read := f_may_read,
    d_may_read := _,
    F_may_read := F_may_read,
    b_may_read := b_may_read,
    m_may_read := PySem.W.mg_of X G a_may_read,
    f_how_behind := f_how_behind,
    d_how_behind := _,
    F_how_behind := F_how_behind,
    b_how_behind := b_how_behind,
    m_how_behind := PySem.W.mg_of X G a_how_behind,
    f_moves_of := f_moves_of,
    d_moves_of := _,
    F_moves_of := F_moves_of,
    b_moves_of := b_moves_of,
    m_moves_of := PySem.W.mg_of X G a_moves_of,
    f_moves_from := f_moves_from,
    d_moves_from := _,
    F_moves_from := F_moves_from,
    b_moves_from := b_moves_from,
    m_moves_from := PySem.W.mg_of X G a_moves_from,
    f_states_before := f_states_before,
    d_states_before := _,
    F_states_before := F_states_before,
    b_states_before := b_states_before,
    m_states_before := PySem.W.mg_of X G a_states_before,
    f_least_first := f_least_first,
    d_least_first := _,
    F_least_first := F_least_first,
    b_least_first := b_least_first,
    m_least_first := PySem.W.mg_of X G a_least_first,
    f_states_before_by := f_states_before_by,
    d_states_before_by := _,
    F_states_before_by := F_states_before_by,
    b_states_before_by := b_states_before_by,
    m_states_before_by := PySem.W.mg_of X G a_states_before_by,
    f_levels_beside := f_levels_beside,
    d_levels_beside := _,
    F_levels_beside := F_levels_beside,
    b_levels_beside := b_levels_beside,
    m_levels_beside := PySem.W.mg_of X G a_levels_beside,
    f_least_second := f_least_second,
    d_least_second := _,
    F_least_second := F_least_second,
    b_least_second := b_least_second,
    m_least_second := PySem.W.mg_of X G a_least_second,
    f_least_rows := f_least_rows,
    d_least_rows := _,
    F_least_rows := F_least_rows,
    b_least_rows := b_least_rows,
    m_least_rows := PySem.W.mg_of X G a_least_rows,
    f_Writer_table := f_Writer_table,
    d_Writer_table := _,
    F_Writer_table := F_Writer_table,
    b_Writer_table := b_Writer_table,
    f_word := f_word,
    d_word := _,
    F_word := F_word,
    b_word := b_word,
    m_word := PySem.W.mg_of X G a_word,
    f_leads_down := f_leads_down,
    d_leads_down := _,
    F_leads_down := F_leads_down,
    b_leads_down := b_leads_down,
    m_leads_down := PySem.W.mg_of X G a_leads_down,
    f_is_ranked_pair := f_is_ranked_pair,
    d_is_ranked_pair := _,
    F_is_ranked_pair := F_is_ranked_pair,
    b_is_ranked_pair := b_is_ranked_pair,
    m_is_ranked_pair := PySem.W.mg_of X G a_is_ranked_pair,
    f_told_ranks := f_told_ranks,
    d_told_ranks := _,
    F_told_ranks := F_told_ranks,
    b_told_ranks := b_told_ranks,
    m_told_ranks := PySem.W.mg_of X G a_told_ranks,
    f_shows := f_shows,
    d_shows := _,
    F_shows := F_shows,
    b_shows := b_shows,
    m_shows := PySem.W.mg_of X G a_shows,
    f_alike := f_alike,
    d_alike := _,
    F_alike := F_alike,
    b_alike := b_alike,
    m_alike := PySem.W.mg_of X G a_alike,
    f_count_behind := f_count_behind,
    d_count_behind := _,
    F_count_behind := F_count_behind,
    b_count_behind := b_count_behind,
    m_count_behind := PySem.W.mg_of X G a_count_behind,
    f_count_ends := f_count_ends,
    d_count_ends := _,
    F_count_ends := F_count_ends,
    b_count_ends := b_count_ends,
    m_count_ends := PySem.W.mg_of X G a_count_ends,
    f_letters_into := f_letters_into,
    d_letters_into := _,
    F_letters_into := F_letters_into,
    b_letters_into := b_letters_into,
    m_letters_into := PySem.W.mg_of X G a_letters_into,
    f_levels_to := f_levels_to,
    d_levels_to := _,
    F_levels_to := F_levels_to,
    b_levels_to := b_levels_to,
    m_levels_to := PySem.W.mg_of X G a_levels_to,
    f_choices_along := f_choices_along,
    d_choices_along := _,
    F_choices_along := F_choices_along,
    b_choices_along := b_choices_along,
    m_choices_along := PySem.W.mg_of X G a_choices_along,
    f_sure_letters := f_sure_letters,
    d_sure_letters := _,
    F_sure_letters := F_sure_letters,
    b_sure_letters := b_sure_letters,
    m_sure_letters := PySem.W.mg_of X G a_sure_letters,
    f_count_rows := f_count_rows,
    d_count_rows := _,
    F_count_rows := F_count_rows,
    b_count_rows := b_count_rows,
    m_count_rows := PySem.W.mg_of X G a_count_rows,
    f_stands_after := f_stands_after,
    d_stands_after := _,
    F_stands_after := F_stands_after,
    b_stands_after := b_stands_after,
    m_stands_after := PySem.W.mg_of X G a_stands_after,
    f_sure := f_sure,
    d_sure := _,
    F_sure := F_sure,
    b_sure := b_sure,
    m_sure := PySem.W.mg_of X G a_sure,
    f_row_to := f_row_to,
    d_row_to := _,
    F_row_to := F_row_to,
    b_row_to := b_row_to,
    m_row_to := PySem.W.mg_of X G a_row_to,
    f_all_tables := f_all_tables,
    d_all_tables := _,
    F_all_tables := F_all_tables,
    b_all_tables := b_all_tables,
    m_all_tables := PySem.W.mg_of X G a_all_tables,
    f_is_step := f_is_step,
    d_is_step := _,
    F_is_step := F_is_step,
    b_is_step := b_is_step,
    m_is_step := PySem.W.mg_of X G a_is_step,
    f_is_table_row := f_is_table_row,
    d_is_table_row := _,
    F_is_table_row := F_is_table_row,
    b_is_table_row := b_is_table_row,
    m_is_table_row := PySem.W.mg_of X G a_is_table_row,
    f_check_table := f_check_table,
    d_check_table := _,
    F_check_table := F_check_table,
    b_check_table := b_check_table,
    m_check_table := PySem.W.mg_of X G a_check_table,
    f_Writer_init := f_Writer_init,
    d_Writer_init := _,
    F_Writer_init := F_Writer_init,
    b_Writer_init := b_Writer_init,
    f_Writer_letters := f_Writer_letters,
    d_Writer_letters := _,
    F_Writer_letters := F_Writer_letters,
    b_Writer_letters := b_Writer_letters,
    f_check_row := f_check_row,
    d_check_row := _,
    F_check_row := F_check_row,
    b_check_row := b_check_row,
    m_check_row := PySem.W.mg_of X G a_check_row,
    f_stands_of := f_stands_of,
    d_stands_of := _,
    F_stands_of := F_stands_of,
    b_stands_of := b_stands_of,
    m_stands_of := PySem.W.mg_of X G a_stands_of,
    f_write_row := f_write_row,
    d_write_row := _,
    F_write_row := F_write_row,
    b_write_row := b_write_row,
    m_write_row := PySem.W.mg_of X G a_write_row,
    f_census := f_census,
    d_census := _,
    F_census := F_census,
    b_census := b_census,
    m_census := PySem.W.mg_of X G a_census,
    f_law_mix := f_law_mix,
    d_law_mix := _,
    F_law_mix := F_law_mix,
    b_law_mix := b_law_mix,
    m_law_mix := PySem.W.mg_of X G a_law_mix,
    f_law_next := f_law_next,
    d_law_next := _,
    F_law_next := F_law_next,
    b_law_next := b_law_next,
    m_law_next := PySem.W.mg_of X G a_law_next,
    f_law_pick := f_law_pick,
    d_law_pick := _,
    F_law_pick := F_law_pick,
    b_law_pick := b_law_pick,
    m_law_pick := PySem.W.mg_of X G a_law_pick,
    f_law_ask := f_law_ask,
    d_law_ask := _,
    F_law_ask := F_law_ask,
    b_law_ask := b_law_ask,
    m_law_ask := PySem.W.mg_of X G a_law_ask,
    f_law_error := f_law_error,
    d_law_error := _,
    F_law_error := F_law_error,
    b_law_error := b_law_error,
    m_law_error := PySem.W.mg_of X G a_law_error,
    f_law_due := f_law_due,
    d_law_due := _,
    F_law_due := F_law_due,
    b_law_due := b_law_due,
    m_law_due := PySem.W.mg_of X G a_law_due,
    f_law := fa,
    d_law := _,
    F_law := F_law,
    b_law := b_law,
    m_law := PySem.W.mg_of X G a_law,
    c_WriterError := c_WriterError,
    m_WriterError := PySem.W.mg_of X G aC_WriterError,
    c_BadStand := c_BadStand,
    m_BadStand := PySem.W.mg_of X G aC_BadStand,
    xq_BadStand := xq_BadStand,
    xk_BadStand := xk_BadStand,
    xs_BadStand := xs_BadStand,
    xt_BadStand := xt_BadStand,
    xe_BadStand := ⟨xg_BadStand, xn_BadStand, xs_BadStand, xd_BadStand, xa_BadStand, cg, ct, xo_BadStand⟩,
    c_BadSize := c_BadSize,
    m_BadSize := PySem.W.mg_of X G aC_BadSize,
    xq_BadSize := xq_BadSize,
    xk_BadSize := xk_BadSize,
    xs_BadSize := xs_BadSize,
    xt_BadSize := xt_BadSize,
    xe_BadSize := ⟨xg_BadSize, xn_BadSize, xs_BadSize, xd_BadSize, xa_BadSize, cg, ct, xo_BadSize⟩,
    ey_BadRow_BadRow := PySem.W.exm_ref yS_BadRow yD_BadRow yT_BadRow yU_BadRow_BadRow,
    ey_BadRow_BadWritten := PySem.W.exm_ref yS_BadWritten yD_BadWritten yT_BadWritten yU_BadRow_BadWritten,
    ey_BadRow_WriterError := PySem.W.exm_ref yS_WriterError yD_WriterError yT_WriterError yU_BadRow_WriterError,
    ky_BadRow_WriterError := kit_any yI_WriterError yT_WriterError yU_BadRow_WriterError,
    ky_BadRow_BadStand := kit_no yI_BadStand yT_BadStand yU_BadRow_BadStand yU_BadRow_BadRow,
    ky_BadRow_BadSize := kit_no yI_BadSize yT_BadSize yU_BadRow_BadSize yU_BadRow_BadRow,
    ey_BadWritten_BadRow := PySem.W.exm_ref yS_BadRow yD_BadRow yT_BadRow yU_BadWritten_BadRow,
    ey_BadWritten_BadWritten := PySem.W.exm_ref yS_BadWritten yD_BadWritten yT_BadWritten yU_BadWritten_BadWritten,
    ey_BadWritten_WriterError := PySem.W.exm_ref yS_WriterError yD_WriterError yT_WriterError yU_BadWritten_WriterError,
    ky_BadWritten_WriterError := kit_any yI_WriterError yT_WriterError yU_BadWritten_WriterError,
    ky_BadWritten_BadStand := kit_no yI_BadStand yT_BadStand yU_BadWritten_BadStand yU_BadWritten_BadWritten,
    ky_BadWritten_BadSize := kit_no yI_BadSize yT_BadSize yU_BadWritten_BadSize yU_BadWritten_BadWritten,
    ey_BadStand_BadRow := PySem.W.exm_ref yS_BadRow yD_BadRow yT_BadRow yU_BadStand_BadRow,
    ey_BadStand_BadWritten := PySem.W.exm_ref yS_BadWritten yD_BadWritten yT_BadWritten yU_BadStand_BadWritten,
    ey_BadStand_WriterError := PySem.W.exm_ref yS_WriterError yD_WriterError yT_WriterError yU_BadStand_WriterError,
    ky_BadStand_WriterError := kit_any yI_WriterError yT_WriterError yU_BadStand_WriterError,
    ky_BadStand_BadStand := kit_any yI_BadStand yT_BadStand yU_BadStand_BadStand,
    ky_BadStand_BadSize := kit_no yI_BadSize yT_BadSize yU_BadStand_BadSize yU_BadStand_BadStand,
    ey_BadSize_BadRow := PySem.W.exm_ref yS_BadRow yD_BadRow yT_BadRow yU_BadSize_BadRow,
    ey_BadSize_BadWritten := PySem.W.exm_ref yS_BadWritten yD_BadWritten yT_BadWritten yU_BadSize_BadWritten,
    ey_BadSize_WriterError := PySem.W.exm_ref yS_WriterError yD_WriterError yT_WriterError yU_BadSize_WriterError,
    ky_BadSize_WriterError := kit_any yI_WriterError yT_WriterError yU_BadSize_WriterError,
    ky_BadSize_BadStand := kit_no yI_BadStand yT_BadStand yU_BadSize_BadStand yU_BadSize_BadSize,
    ky_BadSize_BadSize := kit_any yI_BadSize yT_BadSize yU_BadSize_BadSize,
    c_BadRow := c_BadRow,
    m_BadRow := PySem.W.mg_of X G aC_BadRow,
    ox_BadRow := ⟨⟨_, _, _, _, _, _, _, _, _, _, _, _, _, _, _, xL_BadRow, rfl⟩, sa_BadRow, eC_BadRow, tC_BadRow, kC_BadRow⟩,
    ini_BadRow := a_BadRow_init,
    tyi_BadRow := ti_BadRow,
    xf_BadRow := ⟨ga_BadRow, gg_BadRow, eC_BadRow, hC_BadRow⟩,
    ex_BadRow := ⟨ga_BadRow, gg_BadRow, eC_BadRow, hC_BadRow, ca_BadRow, cg, ct, cm_BadRow⟩,
    ki_BadRow_WriterError := kit_any iB_BadRow_WriterError tB_BadRow_WriterError sB_BadRow_WriterError,
    no_BadRow_index := no_BadRow_index,
    c_BadWritten := c_BadWritten,
    m_BadWritten := PySem.W.mg_of X G aC_BadWritten,
    ox_BadWritten := ⟨⟨_, _, _, _, _, _, _, _, _, _, _, _, _, _, _, xL_BadWritten, rfl⟩, sa_BadWritten, eC_BadWritten, tC_BadWritten, kC_BadWritten⟩,
    ini_BadWritten := a_BadWritten_init,
    tyi_BadWritten := ti_BadWritten,
    xf_BadWritten := ⟨ga_BadWritten, gg_BadWritten, eC_BadWritten, hC_BadWritten⟩,
    ex_BadWritten := ⟨ga_BadWritten, gg_BadWritten, eC_BadWritten, hC_BadWritten, ca_BadWritten, cg, ct, cm_BadWritten⟩,
    ki_BadWritten_WriterError := kit_any iB_BadWritten_WriterError tB_BadWritten_WriterError sB_BadWritten_WriterError,
    no_BadWritten_index := no_BadWritten_index,
    at_Writer_len := a_Writer_len,
    fn_Writer_len := i_Writer_len,
    c_Writer := c_Writer,
    m_Writer := PySem.W.mg_of X G aC_Writer,
    cl_Writer := ⟨pg_Writer, hd_Writer, po_Writer, sa_Writer⟩,
    mk_Writer := ⟨mk_Writer, a_Writer_init, i_Writer_init, kc_Writer⟩,
    no_Writer_table := no_Writer_table,
    p_Writer_table := p_Writer_table,
    pr_Writer_table := ⟨a_Writer_table, g_Writer_table, k_Writer_table, _, r_Writer_table⟩,
    p_Writer_letters := p_Writer_letters,
    pr_Writer_letters := ⟨a_Writer_letters, g_Writer_letters, k_Writer_letters, _, r_Writer_letters⟩,
    t_GREATEST_WRITTEN := t_GREATEST_WRITTEN,
    m_GREATEST_WRITTEN := PySem.W.mg_of X G m_GREATEST_WRITTEN,
    t_LONGEST := t_LONGEST,
    m_LONGEST := PySem.W.mg_of X G m_LONGEST,
    t_APART := t_APART,
    m_APART := PySem.W.mg_of X G m_APART,
    t_TOGETHER := t_TOGETHER,
    m_TOGETHER := PySem.W.mg_of X G m_TOGETHER,
    t_PARTING := t_PARTING,
    m_PARTING := PySem.W.mg_of X G m_PARTING,
    t_LEAST_LETTERS := t_LEAST_LETTERS,
    m_LEAST_LETTERS := PySem.W.mg_of X G m_LEAST_LETTERS,
    t_MOST_LETTERS := t_MOST_LETTERS,
    m_MOST_LETTERS := PySem.W.mg_of X G m_MOST_LETTERS,
    t_MOST_STANDS := t_MOST_STANDS,
    m_MOST_STANDS := PySem.W.mg_of X G m_MOST_STANDS,
    z_bool := PySem.W.mg_none_of X G z_bool,
    z_int := PySem.W.mg_none_of X G z_int,
    z_isinstance := PySem.W.mg_none_of X G z_isinstance,
    z_len := PySem.W.mg_none_of X G z_len,
    z_tuple := PySem.W.mg_none_of X G z_tuple,
    z_enumerate := PySem.W.mg_none_of X G z_enumerate,
    z_max := PySem.W.mg_none_of X G z_max,
    z_min := PySem.W.mg_none_of X G z_min,
    z_list := PySem.W.mg_none_of X G z_list,
    z_sorted := PySem.W.mg_none_of X G z_sorted,
    z_range := PySem.W.mg_none_of X G z_range,
    z_all := PySem.W.mg_none_of X G z_all,
    z_any := PySem.W.mg_none_of X G z_any,
    z_reversed := PySem.W.mg_none_of X G z_reversed,
    z_zip := PySem.W.mg_none_of X G z_zip,
    z_sum := PySem.W.mg_none_of X G z_sum }
  exact ⟨PySem.W.fnOf "law" "law" (defArgs s_law) (defBody s_law) (defScope s_law) .none kV_law dc_law pm_law an_law cd_law ct_law, fun s v => .of_eq rfl, fun base _ _ => ok_law T⟩
theorem walk {l : PySem.W.OpenLaw} {q : Program} {loose : List Str} {XP : (Str → Option Value) → Heap → Prop} {YP : World → Heap → Prop} {d : DefRec} {K : Params → PySem.W.Frag} (hn : l.most = some 63) (hdf : d.params.defaults = [])
    (hY : ∀ (w : World) (h : Heap), YP w h → (K w.params).In h)
    (F : ∀ (w : World) (mg : Str → Option Value) (fa : Addr) (h : Heap), (K w.params).In h → h.Ns mainGlobals mg → mg d.name = some (.ref fa) →
      ∃ fd : FuncData, (∀ (s : Shared) (u : Value), BindsTo s fd ⟨[u], []⟩ [("_law_script", u)]) ∧ ∀ base : Heap, (K w.params).In base → base.Ns mainGlobals mg → FnOk l.prog w (K w.params) mg base CX0 10 fa fd ["_law_script"] (spLaw (K w.params))) :
    PySem.W.WalkO q loose XP YP l.row.toRowW d [] (fun f vs => PySem.call f vs) :=
  L2.walk_of (n := 63) (k := 10) (x := "_law_script") (CX := fun _ => CX0) (sp := fun w => spLaw (K w.params)) hn (by decide) hdf ⟨rfl, by decide, by decide⟩ hY F (fun _ _ a ns hl _ hS => ⟨a, ns, rfl, hS, hl, fun _ => rfl⟩) fun _ _ _ _ _ z => z
end Wl
open PySem PySem.W PyProof.Rows
set_option maxRecDepth 100000 in
set_option maxHeartbeats 0 in
theorem PySem.Challenge.cw_wroteback_k13_questions_refused_holds : PySem.Challenge.rw_wroteback_k13_questions_refused.Holds := by
  w_on; o_law; k_head; (case hw => w_witness2)
  k_fill
  refine Wl.walk (l := PySem.Challenge.rw_wroteback_k13_questions_refused) rfl rfl (fun w h Y => PySem.W.kIn_of Y) ?F
  case F =>
    intro w mg fa h KX G hmg
    refine' Wl.all_mk KX G hmg ?cg ?ct ?aC_WriterError ?aC_BadStand ?aC_BadSize ?aC_BadRow ?aC_BadWritten ?aC_Writer ?a_BadRow_init ?i_BadRow_init ?l_BadRow_init ?c_BadRow_init ?w_BadRow_init ?a_BadWritten_init ?i_BadWritten_init ?l_BadWritten_init ?c_BadWritten_init ?w_BadWritten_init ?a_is_between ?l_is_between ?c_is_between ?w_is_between ?a_is_tuple_of ?l_is_tuple_of ?c_is_tuple_of ?w_is_tuple_of ?a_first_outside ?l_first_outside ?c_first_outside ?w_first_outside ?a_check_size ?l_check_size ?c_check_size ?w_check_size ?a_Writer_len ?i_Writer_len ?l_Writer_len ?c_Writer_len ?w_Writer_len ?a_check_stand ?l_check_stand ?c_check_stand ?w_check_stand ?a_check_written ?l_check_written ?c_check_written ?w_check_written ?a_as_pair ?l_as_pair ?c_as_pair ?w_as_pair ?a_come_to ?l_come_to ?c_come_to ?w_come_to ?a_stands_come_to ?l_stands_come_to ?c_stands_come_to ?w_stands_come_to ?a_pairs_behind ?l_pairs_behind ?c_pairs_behind ?w_pairs_behind ?a_first_pairs ?l_first_pairs ?c_first_pairs ?w_first_pairs ?a_pair_leads ?l_pair_leads ?c_pair_leads ?w_pair_leads ?a_rank_pairs ?l_rank_pairs ?c_rank_pairs ?w_rank_pairs ?a_may_read ?l_may_read ?c_may_read ?w_may_read ?a_how_behind ?l_how_behind ?c_how_behind ?w_how_behind ?a_moves_of ?l_moves_of ?c_moves_of ?w_moves_of ?a_moves_from ?l_moves_from ?c_moves_from ?w_moves_from ?a_states_before ?l_states_before ?c_states_before ?w_states_before ?a_least_first ?l_least_first ?c_least_first ?w_least_first ?a_states_before_by ?l_states_before_by ?c_states_before_by ?w_states_before_by ?a_levels_beside ?l_levels_beside ?c_levels_beside ?w_levels_beside ?a_least_second ?l_least_second ?c_least_second ?w_least_second ?a_least_rows ?l_least_rows ?c_least_rows ?w_least_rows ?a_Writer_table ?g_Writer_table ?k_Writer_table ?r_Writer_table ?l_Writer_table ?c_Writer_table ?w_Writer_table ?a_word ?l_word ?c_word ?w_word ?a_leads_down ?l_leads_down ?c_leads_down ?w_leads_down ?a_is_ranked_pair ?l_is_ranked_pair ?c_is_ranked_pair ?w_is_ranked_pair ?a_told_ranks ?l_told_ranks ?c_told_ranks ?w_told_ranks ?a_shows ?l_shows ?c_shows ?w_shows ?a_alike ?l_alike ?c_alike ?w_alike ?a_count_behind ?l_count_behind ?c_count_behind ?w_count_behind ?a_count_ends ?l_count_ends ?c_count_ends ?w_count_ends ?a_letters_into ?l_letters_into ?c_letters_into ?w_letters_into ?a_levels_to ?l_levels_to ?c_levels_to ?w_levels_to ?a_choices_along ?l_choices_along ?c_choices_along ?w_choices_along ?a_sure_letters ?l_sure_letters ?c_sure_letters ?w_sure_letters ?a_count_rows ?l_count_rows ?c_count_rows ?w_count_rows ?a_stands_after ?l_stands_after ?c_stands_after ?w_stands_after ?a_sure ?l_sure ?c_sure ?w_sure ?a_row_to ?l_row_to ?c_row_to ?w_row_to ?a_all_tables ?l_all_tables ?c_all_tables ?w_all_tables ?a_is_step ?l_is_step ?c_is_step ?w_is_step ?a_is_table_row ?l_is_table_row ?c_is_table_row ?w_is_table_row ?a_check_table ?l_check_table ?c_check_table ?w_check_table ?a_Writer_init ?i_Writer_init ?l_Writer_init ?c_Writer_init ?w_Writer_init ?a_Writer_letters ?g_Writer_letters ?k_Writer_letters ?r_Writer_letters ?l_Writer_letters ?c_Writer_letters ?w_Writer_letters ?a_check_row ?l_check_row ?c_check_row ?w_check_row ?a_stands_of ?l_stands_of ?c_stands_of ?w_stands_of ?a_write_row ?l_write_row ?c_write_row ?w_write_row ?a_census ?l_census ?c_census ?w_census ?a_law_mix ?l_law_mix ?c_law_mix ?w_law_mix ?a_law_next ?l_law_next ?c_law_next ?w_law_next ?a_law_pick ?l_law_pick ?c_law_pick ?w_law_pick ?a_law_ask ?l_law_ask ?c_law_ask ?w_law_ask ?a_law_error ?l_law_error ?c_law_error ?w_law_error ?a_law_due ?l_law_due ?c_law_due ?w_law_due ?a_law ?l_law ?c_law ?w_law ?xq_BadStand ?xk_BadStand ?xs_BadStand ?xt_BadStand ?xd_BadStand ?xg_BadStand ?xn_BadStand ?xa_BadStand ?xo_BadStand ?xq_BadSize ?xk_BadSize ?xs_BadSize ?xt_BadSize ?xd_BadSize ?xg_BadSize ?xn_BadSize ?xa_BadSize ?xo_BadSize ?xL_BadRow ?sa_BadRow ?ga_BadRow ?gg_BadRow ?ti_BadRow ?kC_BadRow ?eC_BadRow ?tC_BadRow ?hC_BadRow ?iC_BadRow ?sC_BadRow ?ca_BadRow ?cm_BadRow ?sB_BadRow_WriterError ?iB_BadRow_WriterError ?tB_BadRow_WriterError ?no_BadRow_index ?xL_BadWritten ?sa_BadWritten ?ga_BadWritten ?gg_BadWritten ?ti_BadWritten ?kC_BadWritten ?eC_BadWritten ?tC_BadWritten ?hC_BadWritten ?iC_BadWritten ?sC_BadWritten ?ca_BadWritten ?cm_BadWritten ?sB_BadWritten_WriterError ?iB_BadWritten_WriterError ?tB_BadWritten_WriterError ?no_BadWritten_index ?pg_Writer ?hd_Writer ?po_Writer ?sa_Writer ?mk_Writer ?kc_Writer ?no_Writer_table ?m_GREATEST_WRITTEN ?m_LONGEST ?m_APART ?m_TOGETHER ?m_PARTING ?m_LEAST_LETTERS ?m_MOST_LETTERS ?m_MOST_STANDS ?z_bool ?z_int ?z_isinstance ?z_len ?z_tuple ?z_enumerate ?z_max ?z_min ?z_list ?z_sorted ?z_range ?z_all ?z_any ?z_reversed ?z_zip ?z_sum ?yS_BadRow ?yD_BadRow ?yT_BadRow ?yI_BadRow ?yS_BadSize ?yD_BadSize ?yT_BadSize ?yI_BadSize ?yS_BadStand ?yD_BadStand ?yT_BadStand ?yI_BadStand ?yS_BadWritten ?yD_BadWritten ?yT_BadWritten ?yI_BadWritten ?yS_WriterError ?yD_WriterError ?yT_WriterError ?yI_WriterError ?yU_BadRow_BadRow ?yU_BadRow_BadSize ?yU_BadRow_BadStand ?yU_BadRow_BadWritten ?yU_BadRow_WriterError ?yU_BadWritten_BadRow ?yU_BadWritten_BadSize ?yU_BadWritten_BadStand ?yU_BadWritten_BadWritten ?yU_BadWritten_WriterError ?yU_BadStand_BadRow ?yU_BadStand_BadSize ?yU_BadStand_BadStand ?yU_BadStand_BadWritten ?yU_BadStand_WriterError ?yU_BadSize_BadRow ?yU_BadSize_BadSize ?yU_BadSize_BadStand ?yU_BadSize_BadWritten ?yU_BadSize_WriterError
    (case cg => k_is)
    (case ct => k_is)
    (case aC_WriterError => k_is)
    (case aC_BadStand => k_is)
    (case aC_BadSize => k_is)
    (case aC_BadRow => k_is)
    (case aC_BadWritten => k_is)
    (case aC_Writer => k_is)
    (case a_BadRow_init => k_is)
    (case i_BadRow_init => k_is)
    (case l_BadRow_init => k_is)
    (case c_BadRow_init => k_is)
    (case w_BadRow_init => k_is)
    (case a_BadWritten_init => k_is)
    (case i_BadWritten_init => k_is)
    (case l_BadWritten_init => k_is)
    (case c_BadWritten_init => k_is)
    (case w_BadWritten_init => k_is)
    (case a_is_between => k_is)
    (case l_is_between => k_is)
    (case c_is_between => k_is)
    (case w_is_between => k_is)
    (case a_is_tuple_of => k_is)
    (case l_is_tuple_of => k_is)
    (case c_is_tuple_of => k_is)
    (case w_is_tuple_of => k_is)
    (case a_first_outside => k_is)
    (case l_first_outside => k_is)
    (case c_first_outside => k_is)
    (case w_first_outside => k_is)
    (case a_check_size => k_is)
    (case l_check_size => k_is)
    (case c_check_size => k_is)
    (case w_check_size => k_is)
    (case a_Writer_len => k_is)
    (case i_Writer_len => k_is)
    (case l_Writer_len => k_is)
    (case c_Writer_len => k_is)
    (case w_Writer_len => k_is)
    (case a_check_stand => k_is)
    (case l_check_stand => k_is)
    (case c_check_stand => k_is)
    (case w_check_stand => k_is)
    (case a_check_written => k_is)
    (case l_check_written => k_is)
    (case c_check_written => k_is)
    (case w_check_written => k_is)
    (case a_as_pair => k_is)
    (case l_as_pair => k_is)
    (case c_as_pair => k_is)
    (case w_as_pair => k_is)
    (case a_come_to => k_is)
    (case l_come_to => k_is)
    (case c_come_to => k_is)
    (case w_come_to => k_is)
    (case a_stands_come_to => k_is)
    (case l_stands_come_to => k_is)
    (case c_stands_come_to => k_is)
    (case w_stands_come_to => k_is)
    (case a_pairs_behind => k_is)
    (case l_pairs_behind => k_is)
    (case c_pairs_behind => k_is)
    (case w_pairs_behind => k_is)
    (case a_first_pairs => k_is)
    (case l_first_pairs => k_is)
    (case c_first_pairs => k_is)
    (case w_first_pairs => k_is)
    (case a_pair_leads => k_is)
    (case l_pair_leads => k_is)
    (case c_pair_leads => k_is)
    (case w_pair_leads => k_is)
    (case a_rank_pairs => k_is)
    (case l_rank_pairs => k_is)
    (case c_rank_pairs => k_is)
    (case w_rank_pairs => k_is)
    (case a_may_read => k_is)
    (case l_may_read => k_is)
    (case c_may_read => k_is)
    (case w_may_read => k_is)
    (case a_how_behind => k_is)
    (case l_how_behind => k_is)
    (case c_how_behind => k_is)
    (case w_how_behind => k_is)
    (case a_moves_of => k_is)
    (case l_moves_of => k_is)
    (case c_moves_of => k_is)
    (case w_moves_of => k_is)
    (case a_moves_from => k_is)
    (case l_moves_from => k_is)
    (case c_moves_from => k_is)
    (case w_moves_from => k_is)
    (case a_states_before => k_is)
    (case l_states_before => k_is)
    (case c_states_before => k_is)
    (case w_states_before => k_is)
    (case a_least_first => k_is)
    (case l_least_first => k_is)
    (case c_least_first => k_is)
    (case w_least_first => k_is)
    (case a_states_before_by => k_is)
    (case l_states_before_by => k_is)
    (case c_states_before_by => k_is)
    (case w_states_before_by => k_is)
    (case a_levels_beside => k_is)
    (case l_levels_beside => k_is)
    (case c_levels_beside => k_is)
    (case w_levels_beside => k_is)
    (case a_least_second => k_is)
    (case l_least_second => k_is)
    (case c_least_second => k_is)
    (case w_least_second => k_is)
    (case a_least_rows => k_is)
    (case l_least_rows => k_is)
    (case c_least_rows => k_is)
    (case w_least_rows => k_is)
    (case a_Writer_table => k_is)
    (case g_Writer_table => k_is)
    (case k_Writer_table => k_is)
    (case r_Writer_table => k_is)
    (case l_Writer_table => k_is)
    (case c_Writer_table => k_is)
    (case w_Writer_table => k_is)
    (case a_word => k_is)
    (case l_word => k_is)
    (case c_word => k_is)
    (case w_word => k_is)
    (case a_leads_down => k_is)
    (case l_leads_down => k_is)
    (case c_leads_down => k_is)
    (case w_leads_down => k_is)
    (case a_is_ranked_pair => k_is)
    (case l_is_ranked_pair => k_is)
    (case c_is_ranked_pair => k_is)
    (case w_is_ranked_pair => k_is)
    (case a_told_ranks => k_is)
    (case l_told_ranks => k_is)
    (case c_told_ranks => k_is)
    (case w_told_ranks => k_is)
    (case a_shows => k_is)
    (case l_shows => k_is)
    (case c_shows => k_is)
    (case w_shows => k_is)
    (case a_alike => k_is)
    (case l_alike => k_is)
    (case c_alike => k_is)
    (case w_alike => k_is)
    (case a_count_behind => k_is)
    (case l_count_behind => k_is)
    (case c_count_behind => k_is)
    (case w_count_behind => k_is)
    (case a_count_ends => k_is)
    (case l_count_ends => k_is)
    (case c_count_ends => k_is)
    (case w_count_ends => k_is)
    (case a_letters_into => k_is)
    (case l_letters_into => k_is)
    (case c_letters_into => k_is)
    (case w_letters_into => k_is)
    (case a_levels_to => k_is)
    (case l_levels_to => k_is)
    (case c_levels_to => k_is)
    (case w_levels_to => k_is)
    (case a_choices_along => k_is)
    (case l_choices_along => k_is)
    (case c_choices_along => k_is)
    (case w_choices_along => k_is)
    (case a_sure_letters => k_is)
    (case l_sure_letters => k_is)
    (case c_sure_letters => k_is)
    (case w_sure_letters => k_is)
    (case a_count_rows => k_is)
    (case l_count_rows => k_is)
    (case c_count_rows => k_is)
    (case w_count_rows => k_is)
    (case a_stands_after => k_is)
    (case l_stands_after => k_is)
    (case c_stands_after => k_is)
    (case w_stands_after => k_is)
    (case a_sure => k_is)
    (case l_sure => k_is)
    (case c_sure => k_is)
    (case w_sure => k_is)
    (case a_row_to => k_is)
    (case l_row_to => k_is)
    (case c_row_to => k_is)
    (case w_row_to => k_is)
    (case a_all_tables => k_is)
    (case l_all_tables => k_is)
    (case c_all_tables => k_is)
    (case w_all_tables => k_is)
    (case a_is_step => k_is)
    (case l_is_step => k_is)
    (case c_is_step => k_is)
    (case w_is_step => k_is)
    (case a_is_table_row => k_is)
    (case l_is_table_row => k_is)
    (case c_is_table_row => k_is)
    (case w_is_table_row => k_is)
    (case a_check_table => k_is)
    (case l_check_table => k_is)
    (case c_check_table => k_is)
    (case w_check_table => k_is)
    (case a_Writer_init => k_is)
    (case i_Writer_init => k_is)
    (case l_Writer_init => k_is)
    (case c_Writer_init => k_is)
    (case w_Writer_init => k_is)
    (case a_Writer_letters => k_is)
    (case g_Writer_letters => k_is)
    (case k_Writer_letters => k_is)
    (case r_Writer_letters => k_is)
    (case l_Writer_letters => k_is)
    (case c_Writer_letters => k_is)
    (case w_Writer_letters => k_is)
    (case a_check_row => k_is)
    (case l_check_row => k_is)
    (case c_check_row => k_is)
    (case w_check_row => k_is)
    (case a_stands_of => k_is)
    (case l_stands_of => k_is)
    (case c_stands_of => k_is)
    (case w_stands_of => k_is)
    (case a_write_row => k_is)
    (case l_write_row => k_is)
    (case c_write_row => k_is)
    (case w_write_row => k_is)
    (case a_census => k_is)
    (case l_census => k_is)
    (case c_census => k_is)
    (case w_census => k_is)
    (case a_law_mix => k_is)
    (case l_law_mix => k_is)
    (case c_law_mix => k_is)
    (case w_law_mix => k_is)
    (case a_law_next => k_is)
    (case l_law_next => k_is)
    (case c_law_next => k_is)
    (case w_law_next => k_is)
    (case a_law_pick => k_is)
    (case l_law_pick => k_is)
    (case c_law_pick => k_is)
    (case w_law_pick => k_is)
    (case a_law_ask => k_is)
    (case l_law_ask => k_is)
    (case c_law_ask => k_is)
    (case w_law_ask => k_is)
    (case a_law_error => k_is)
    (case l_law_error => k_is)
    (case c_law_error => k_is)
    (case w_law_error => k_is)
    (case a_law_due => k_is)
    (case l_law_due => k_is)
    (case c_law_due => k_is)
    (case w_law_due => k_is)
    (case a_law => k_is)
    (case l_law => k_is)
    (case c_law => k_is)
    (case w_law => k_is)
    (case xq_BadStand => k_exc)
    (case xk_BadStand => k_is)
    (case xs_BadStand => k_is)
    (case xt_BadStand => k_is)
    (case xd_BadStand => k_is)
    (case xg_BadStand => k_is)
    (case xn_BadStand => k_is)
    (case xa_BadStand => k_is)
    (case xo_BadStand => k_is)
    (case xq_BadSize => k_exc)
    (case xk_BadSize => k_is)
    (case xs_BadSize => k_is)
    (case xt_BadSize => k_is)
    (case xd_BadSize => k_is)
    (case xg_BadSize => k_is)
    (case xn_BadSize => k_is)
    (case xa_BadSize => k_is)
    (case xo_BadSize => k_is)
    (case xL_BadRow => k_is)
    (case sa_BadRow => k_is)
    (case ga_BadRow => k_is)
    (case gg_BadRow => k_is)
    (case ti_BadRow => k_is)
    (case kC_BadRow => k_is)
    (case eC_BadRow => k_is)
    (case tC_BadRow => k_is)
    (case hC_BadRow => k_is)
    (case iC_BadRow => k_is)
    (case sC_BadRow => k_is)
    (case ca_BadRow => k_is)
    (case cm_BadRow => k_is)
    (case sB_BadRow_WriterError => k_is)
    (case iB_BadRow_WriterError => k_is)
    (case tB_BadRow_WriterError => k_is)
    (case no_BadRow_index => k_is)
    (case xL_BadWritten => k_is)
    (case sa_BadWritten => k_is)
    (case ga_BadWritten => k_is)
    (case gg_BadWritten => k_is)
    (case ti_BadWritten => k_is)
    (case kC_BadWritten => k_is)
    (case eC_BadWritten => k_is)
    (case tC_BadWritten => k_is)
    (case hC_BadWritten => k_is)
    (case iC_BadWritten => k_is)
    (case sC_BadWritten => k_is)
    (case ca_BadWritten => k_is)
    (case cm_BadWritten => k_is)
    (case sB_BadWritten_WriterError => k_is)
    (case iB_BadWritten_WriterError => k_is)
    (case tB_BadWritten_WriterError => k_is)
    (case no_BadWritten_index => k_is)
    (case pg_Writer => k_is)
    (case hd_Writer => k_is)
    (case po_Writer => k_is)
    (case sa_Writer => k_is)
    (case mk_Writer => k_is)
    (case kc_Writer => k_is)
    (case no_Writer_table => k_is)
    (case m_GREATEST_WRITTEN => k_is)
    (case m_LONGEST => k_is)
    (case m_APART => k_is)
    (case m_TOGETHER => k_is)
    (case m_PARTING => k_is)
    (case m_LEAST_LETTERS => k_is)
    (case m_MOST_LETTERS => k_is)
    (case m_MOST_STANDS => k_is)
    (case z_bool => k_is)
    (case z_int => k_is)
    (case z_isinstance => k_is)
    (case z_len => k_is)
    (case z_tuple => k_is)
    (case z_enumerate => k_is)
    (case z_max => k_is)
    (case z_min => k_is)
    (case z_list => k_is)
    (case z_sorted => k_is)
    (case z_range => k_is)
    (case z_all => k_is)
    (case z_any => k_is)
    (case z_reversed => k_is)
    (case z_zip => k_is)
    (case z_sum => k_is)
    (case yS_BadRow => k_is)
    (case yD_BadRow => k_is)
    (case yT_BadRow => k_is)
    (case yI_BadRow => k_is)
    (case yS_BadSize => k_is)
    (case yD_BadSize => k_is)
    (case yT_BadSize => k_is)
    (case yI_BadSize => k_is)
    (case yS_BadStand => k_is)
    (case yD_BadStand => k_is)
    (case yT_BadStand => k_is)
    (case yI_BadStand => k_is)
    (case yS_BadWritten => k_is)
    (case yD_BadWritten => k_is)
    (case yT_BadWritten => k_is)
    (case yI_BadWritten => k_is)
    (case yS_WriterError => k_is)
    (case yD_WriterError => k_is)
    (case yT_WriterError => k_is)
    (case yI_WriterError => k_is)
    (case yU_BadRow_BadRow => k_is)
    (case yU_BadRow_BadSize => k_is)
    (case yU_BadRow_BadStand => k_is)
    (case yU_BadRow_BadWritten => k_is)
    (case yU_BadRow_WriterError => k_is)
    (case yU_BadWritten_BadRow => k_is)
    (case yU_BadWritten_BadSize => k_is)
    (case yU_BadWritten_BadStand => k_is)
    (case yU_BadWritten_BadWritten => k_is)
    (case yU_BadWritten_WriterError => k_is)
    (case yU_BadStand_BadRow => k_is)
    (case yU_BadStand_BadSize => k_is)
    (case yU_BadStand_BadStand => k_is)
    (case yU_BadStand_BadWritten => k_is)
    (case yU_BadStand_WriterError => k_is)
    (case yU_BadSize_BadRow => k_is)
    (case yU_BadSize_BadSize => k_is)
    (case yU_BadSize_BadStand => k_is)
    (case yU_BadSize_BadWritten => k_is)
    (case yU_BadSize_WriterError => k_is)
