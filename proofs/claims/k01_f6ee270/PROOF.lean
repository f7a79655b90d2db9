import PyProof.Rows.All
import Wide.All
import OpenK.AllK
import Wide.FinOn
import HandS.ForMost
import HandS.Walk
import HandS.Zip
import KE.GoesEnum
import HandS.IsInst
import HandS.Property
import HandS.TupAny
import HandS.TupMul
import HandS.Style
import HandS.Codes
import HandS.ForExc
import HandS.OwnEq
import HandS.ExcInit
import HandS.ExcField
import HandS.ExcIs
import HandS.CallSlots
import KE.KExcIs
import PySem.Challenge.RW_wroteback_k01_tables_refused
set_option Elab.async false
set_option linter.all false
set_option maxRecDepth 100000
set_option maxHeartbeats 2000000
/-! enumerate over a tuple, zip over a list and a tuple, as walks of the hand layer. -/
namespace Wb
open PySem PySem.Spec PyProof.Rows L2
/-- one argument: what enumerate makes of a thing whose iterator begins as B says -/
theorem meets_enum1 {v : Value} {o : Obj} {G : Heap → Prop} (B : Begins v o G) :
    Meets (Builtin.«enumerate.__new__» ⟨[.type "enumerate", v], []⟩) (fun _ R s => G s.heap ∧
      R (.ok (.ret (.ref (s.heap.push o).objs.size)))
        { s with heap := (s.heap.push o).push { cls := .type "enumerate", data := .fields #[.none, .bool false, .ref s.heap.objs.size, rawInt 0, .none, .none] } }) :=
  .of_wp fun prog w A R s g => by
    obtain ⟨hp, gg, dd, tk, os⟩ := s
    obtain ⟨g1, g⟩ := g
    have hs := sub_enumerate
    have it1 : ∀ {A' : Around} {E Q : Value → Shared → Prop}, Q (.ref hp.objs.size) ⟨hp.push o, gg, dd, tk, os⟩ →
        wpAny (model prog w) A' (pyIter v) Q E ⟨hp, gg, dd, tk, os⟩ := fun z => B.iter prog w _ _ ⟨hp, gg, dd, tk, os⟩ _ g1 z
    wp_walk using it1
    refine wpAny_stack_any fun u => wpAny_pure ?_
    split
    · rename_i c _ _ _ _ _
      cases (c == Value.type "enumerate") <;> (wp_walk using it1) <;> exact ⟨_, rfl, g⟩
    · (wp_walk using it1)
      exact ⟨_, rfl, g⟩
theorem call_enum1 {prog : Program} {w : World} {A : Around} {E Q : Value → Shared → Prop} {s : Shared} {v : Value} {o : Obj} {G : Heap → Prop} (B : Begins v o G) (g : G s.heap)
    (k : ∀ h', IsEnum h' (s.heap.objs.size + 1) s.heap.objs.size 0 .none → h'.get? s.heap.objs.size = some o →
      (∀ b u, s.heap.get? b = some u → h'.get? b = some u) → Q (.ref (s.heap.objs.size + 1)) { s with heap := h' }) :
    wpAny (model prog w) A (call (.type "enumerate") [v]) Q E s := by
  refine callType_new F.called_enumerate (by decide) (F.typeCall_enumerate_1 _) (F.newCall_enumerate_1 _) (fun ob => F.args_object_init_2 ob _) F.entry_enumerate_new (meets_enum1 B) ⟨g, ?_⟩
  have z : (s.heap.push o).objs.size = s.heap.objs.size + 1 := Heap.size_push ..
  have e : IsEnum ((s.heap.push o).push { cls := .type "enumerate", data := .fields #[.none, .bool false, .ref s.heap.objs.size, rawInt 0, .none, .none] }) (s.heap.objs.size + 1) s.heap.objs.size 0 .none := by
    have q := Heap.get?_push_size (s.heap.push o) (o := { cls := .type "enumerate", data := .fields #[.none, .bool false, .ref s.heap.objs.size, rawInt 0, .none, .none] }) rfl
    rw [z] at q
    exact q
  show _ ∧ _
  rw [z]
  exact ⟨⟨_, e, rfl⟩, k _ e (Heap.get?_push_of_some _ (Heap.get?_push_size _ B.free)) fun b u x => Heap.get?_push_of_some _ (Heap.get?_push_of_some _ x)⟩
/-- the tuple at a, each item in a new pair with its number -/
def ItT (K : PySem.W.Frag) (a : Addr) : It :=
  ⟨fun i H => ∃ (xs : List V) (x : V), SqT K H a xs ∧ xs[i]? = some x,
   fun i H v H' => ∃ T x, v = .ref T ∧ H T = none ∧ H' = upd H T (.tup [.int (i : Nat), x]) ∧ ∀ ys, SqT K H a ys → ys[i]? = some x,
   fun i H => ∃ xs : List V, SqT K H a xs ∧ xs.length ≤ i⟩
theorem turn_enumT {P : Program} {w : World} {K : PySem.W.Frag} {elts : List Expr} {kk : Nat} {tp : Pos} (a e it : Addr) (ne : a ≠ it) (nae : a ≠ e) :
    Turn P w K (.Tuple elts kk tp) (ItT K a) [e, it] e (fun i g => (∃ old, IsEnum g e it ((i : Nat) : Int) old) ∧ g.IsTupleIter it a i ∧ e ≠ it) where
  mem := by simp
  obj := by
    intro i g st b hb
    obtain ⟨⟨old, he⟩, ⟨o, ho, _, hd⟩, _⟩ := st
    rcases (by simpa using hb : b = e ∨ b = it) with rfl | rfl
    · exact ⟨_, he, fun v q => nomatch q⟩
    · exact ⟨o, ho, fun v q => by rw [hd] at q; cases q⟩
  keep := by
    intro i g g' st k
    obtain ⟨⟨old, he⟩, hi, hne⟩ := st
    exact ⟨⟨old, k e (by simp) _ he⟩, hi.at fun o q => k it (by simp) o q, hne⟩
  item := by
    intro X hP hw hK hc i pins s σ H E I hf st hg
    subst hP hw hK
    obtain ⟨⟨old, he⟩, hit, hne⟩ := st
    obtain ⟨xs, x, hq, hx⟩ := hg
    obtain ⟨its, rv, p, _⟩ := I.tuple hq
    obtain ⟨u, hu, ru⟩ := rv.get hx
    have elt : e < s.heap.objs.size := Heap.lt_size he
    have ilt : it < s.heap.objs.size := by
      obtain ⟨_, q, _⟩ := hit
      exact Heap.lt_size q
    have hu' : its.toArray[i]? = some u := by simpa using hu
    have hlt : i < its.toArray.size := by
      rcases Nat.lt_or_ge i its.toArray.size with q | q
      · exact q
      · rw [Array.getElem?_eq_none q] at hu'
        cases hu'
    -- what the tuple's own iterator draws; e is none of its objects but it may be that a is e: no
    have D := Draws.tuple (prog := X.prog) (w := X.w) (A := X.A.in1) (I.ok.hd hc) it a ne its.toArray
    have hea : e ∉ [it, a] := by
      intro q
      rcases (by simpa using q : e = it ∨ e = a) with z | z
      · exact hne z
      · exact nae z.symm
    refine wpAny_pyNext_enum_itemC D he ⟨hit, p⟩ hlt hne hea fun y h' tk hy ho hst hT hsz hk => ?_
    have ey : y = u := Option.some.inj (hy.symm.trans hu')
    subst ey
    refine ⟨_, rfl, wpAny_letOwnedTupleGo_enum (s := { s with heap := h', toks := tk + 1 }) ho fun h'' he' sb => ?_⟩
    have hT2 : h''.get? s.heap.objs.size = some { cls := .type "tuple", data := .seq #[.int i tk, y] } := (sb.2 _ (Nat.ne_of_gt elt)).trans hT
    have new : ObjOk X.prog X.w (upd H s.heap.objs.size (.tup [.int (i : Nat), x])) h'' s.heap.objs.size (.tup [.int (i : Nat), x]) :=
      ⟨(by show 2 ≤ sizeLine; decide), [.int i tk, y], .cons ⟨_, rfl⟩ (.cons ru .nil), ⟨_, hT2, rfl, _, rfl⟩⟩
    have I1 : Inv X pins σ (upd H s.heap.objs.size (.tup [.int (i : Nat), x])) { s with heap := h'', toks := tk + 1 } :=
      I.turnedNew (ch := [e, it]) (fun b ob hb q => (sb.2 b fun z => hb (by simp [z])).trans (hk b ob (fun z => hb (by simp [z])) (fun z => hb (by simp [z])) q)) hf (Nat.le_refl _) new
    refine ⟨.ref s.heap.objs.size, _, I1, rfl, ⟨_, x, rfl, I.hok.fresh (Nat.le_refl _), rfl, fun ys hy => by rw [I.tuple_inj hy hq]; exact hx⟩, ⟨⟨y, ?_⟩, ?_, hne⟩, fun b hb => ?_⟩
    · rw [show ((i + 1 : Nat) : Int) = (i : Int) + 1 by omega]
      exact he'
    · exact hst.1.at fun o q => (sb.2 it (Ne.symm hne)).trans q
    · have lt : b < s.heap.objs.size := by
        rcases (by simpa using hb : b = e ∨ b = it) with z | z
        · rw [z]; exact elt
        · rw [z]; exact ilt
      rw [upd_ne (Nat.ne_of_lt lt)]
      exact (hf b hb).1
  done := by
    intro X hP hw hK hc i pins s σ H E I hf st hg
    subst hP hw hK
    obtain ⟨⟨old, he⟩, hit, hne⟩ := st
    obtain ⟨xs, hq, hx⟩ := hg
    obtain ⟨its, rv, p, _⟩ := I.tuple hq
    have hl := rv.length
    -- the iterator stands at i, at or beyond the end
    have D : Draws X.prog X.w X.A.in1 it [it, a] 0 (fun _ _ => True) (fun j g => g.IsTupleIter it a i ∧ g.IsTuple a its.toArray) :=
      { live := fun _ _ q => by obtain ⟨⟨o, ho, _⟩, _⟩ := q; exact ⟨o, ho⟩
        frame := fun _ g g' q hk => ⟨q.1.at fun o z => hk it (by simp) o z, q.2.at fun o z => hk a (by simp) o z⟩
        item := fun j _ _ _ hj _ _ => absurd hj (Nat.not_lt_zero _)
        done := fun s' Q' E' q hE => wpAny_nextOf_tuple_end (I.ok.hd hc) q.1 q.2 (by simp; omega) hE }
    obtain ⟨f0, f1, f2, f3, f4, f5⟩ := hf it (by simp)
    exact wpAny_pyNext_enum_endD D he ⟨hit, p⟩ fun h' eb => ⟨rfl, I.turned (t' := s.toks) (fun b o hb q => eb b o hb q) f0 f1 f3 f4 f5⟩
  self := by
    intro A i s Q E st q
    obtain ⟨⟨_, he⟩, _⟩ := st
    exact wpAny_pyIter_enum he q
def iEnumT (K : PySem.W.Frag) (ta : TA) : TI := fun σ H R => ta σ H fun vs H1 => ∃ a xs, vs = [.ref a] ∧ SqT K H1 a xs ∧ R (ItT K a) H1
theorem pi_enumT {X : Cx} {e : Expr} {ta : TA} {p pos tp : Pos} {elts : List Expr} {kk : Nat} (hg : Gl X "enumerate") (hm : X.mg "enumerate" = none) (ha : PA X [e] ta)
    (hs : starEach [e] X.env = [(false, eval e X.env)] := by rfl) : PI X (.Tuple elts kk tp) (.Call (.Name "enumerate" p) [e] [] pos) (iEnumT X.K ta) := by
  refine ⟨fun pins s σ H R I h => ?_⟩
  refine Call_ (ld_blt I hg hm boot_enumerate (PyProof.Rows.callWith_type1 (thn (ha.run pos pins s σ H _ I h) fun us s1 ⟨vs, H1, I1, r1, q1⟩ => ?_) hs rfl))
  obtain ⟨a, xs, rfl, hq, q⟩ := q1
  obtain _ | ⟨r, rr⟩ := r1
  cases rr
  cases r
  obtain ⟨its, rv, pt, _⟩ := I1.tuple hq
  have alt : a < s1.heap.objs.size := by
    obtain ⟨o, ho, _⟩ := id pt
    exact Heap.lt_size ho
  refine call_enum1 (begins_tuple a its.toArray) pt fun h' he hit hk => wpAny_pyIter_enum he ?_
  have I2 : Inv X pins σ H1 { s1 with heap := h' } := I1.kept (t' := s1.toks) hk
  refine ⟨s1.heap.objs.size + 1, [s1.heap.objs.size + 1, s1.heap.objs.size], _, _, H1, rfl, I2,
    turn_enumT a (s1.heap.objs.size + 1) s1.heap.objs.size (Nat.ne_of_lt alt) (Nat.ne_of_lt (Nat.lt_succ_of_lt alt)), ⟨⟨.none, he⟩, ⟨_, hit, rfl, rfl⟩, Nat.succ_ne_self _⟩, fun b hb => ?_, q⟩
  have le : s1.heap.objs.size ≤ b := by
    rcases (by simpa using hb : b = s1.heap.objs.size + 1 ∨ b = s1.heap.objs.size) with z | z
    · rw [z]; exact Nat.le_add_right _ _
    · rw [z]; exact Nat.le_refl _
  exact I1.fpOk le (I1.hok.fresh le)
theorem walk_enumT {K : PySem.W.Frag} {a : Addr} {xs : List V} : Walk (ItT K a) xs.length (fun H => SqT K H a xs) (YPair (fun i => some (.int (i : Nat))) (fun i => xs[i]?)) where
  goes := fun i H hi g => ⟨xs, xs[i], g, by simp [hi]⟩
  stops := fun H g => ⟨xs, g, Nat.le_refl _⟩
  yields := by
    intro i H x H' hi g y
    obtain ⟨T, z, hv, hT, hH, q⟩ := y
    exact ⟨T, _, z, hv, hT, hH, rfl, q xs g⟩
end Wb
/-! zip over a list and a tuple, as a walk of the hand layer. -/
namespace Wb
open PySem PySem.Spec PyProof.Rows L2
/-- the list at a and the tuple at b, item by item in new pairs -/
def ItM (K : PySem.W.Frag) (a b : Addr) : It :=
  ⟨fun i H => ∃ (xs ys : List V) (x y : V), SqL K H a xs ∧ SqT K H b ys ∧ xs[i]? = some x ∧ ys[i]? = some y,
   fun i H v H' => ∃ T x y, v = .ref T ∧ H T = none ∧ H' = upd H T (.tup [x, y]) ∧ (∀ l, SqL K H a l → l[i]? = some x) ∧ ∀ l, SqT K H b l → l[i]? = some y,
   fun i H => ∃ xs ys : List V, SqL K H a xs ∧ SqT K H b ys ∧ i ≤ xs.length ∧ i ≤ ys.length ∧ (i = xs.length ∨ i = ys.length)⟩
theorem zsep (n a b : Nat) (ha : a < n) (hb : b < n) : ZipSep2 (n + 4) (n + 2) (n + 3) n (n + 1) [n, a] [n + 1, b] := by
  have nm : ∀ x y z : Nat, x ≠ y → x ≠ z → x ∉ [y, z] := fun x y z h1 h2 q => by
    rcases (by simpa using q : x = y ∨ x = z) with e | e
    · exact h1 e
    · exact h2 e
  have e1 : ∀ k : Nat, n + k ≠ a := fun k => by omega
  have e2 : ∀ k : Nat, n + k ≠ b := fun k => by omega
  have d : ∀ j k : Nat, j ≠ k → n + j ≠ n + k := fun j k h => by omega
  exact ⟨d 2 4 (by decide), d 3 4 (by decide), d 2 3 (by decide), d 2 0 (by decide), List.mem_cons_self .., nm _ _ _ (d 4 0 (by decide)) (e1 4), nm _ _ _ (d 3 0 (by decide)) (e1 3),
    d 2 1 (by decide), List.mem_cons_self .., nm _ _ _ (d 4 1 (by decide)) (e2 4), nm _ _ _ (d 3 1 (by decide)) (e2 3), nm _ _ _ (d 0 1 (by decide)) (e2 0), nm _ _ _ (d 1 0 (by decide)) (e1 1)⟩
theorem turn_zipM {P : Program} {w : World} {K : PySem.W.Frag} {elts : List Expr} {kk : Nat} {tp : Pos} {a b z TI TO i1 i2 : Addr} (S : ZipSep2 z TI TO i1 i2 [i1, a] [i2, b]) :
    Turn P w K (.Tuple elts kk tp) (ItM K a b) [z, TI, TO, i1, i2] z
      (fun i g => IsZip g z TI TO .none ∧ IsTupOf2 g TI (.ref i1) (.ref i2) ∧ (∃ x y, IsTupOf2 g TO x y) ∧ g.IsListIter i1 a i ∧ g.IsTupleIter i2 b i) where
  mem := by simp
  obj := by
    intro i g st c hc
    obtain ⟨hz, hTI, ⟨x, y, hTO⟩, ⟨o1, e1, _, d1⟩, ⟨o2, e2, _, d2⟩⟩ := st
    rcases (by simpa using hc : c = z ∨ c = TI ∨ c = TO ∨ c = i1 ∨ c = i2) with rfl | rfl | rfl | rfl | rfl
    · exact ⟨_, hz, fun v q => nomatch q⟩
    · exact ⟨_, hTI, fun v q => nomatch q⟩
    · exact ⟨_, hTO, fun v q => nomatch q⟩
    · exact ⟨o1, e1, fun v q => by rw [d1] at q; cases q⟩
    · exact ⟨o2, e2, fun v q => by rw [d2] at q; cases q⟩
  keep := by
    intro i g g' st k
    obtain ⟨hz, hTI, ⟨x, y, hTO⟩, h1, h2⟩ := st
    exact ⟨k z (by simp) _ hz, k TI (by simp) _ hTI, ⟨x, y, k TO (by simp) _ hTO⟩, h1.at fun o q => k i1 (by simp) o q, h2.at fun o q => k i2 (by simp) o q⟩
  item := by
    intro X hP hw hK hc i pins s σ H E I hf st hg
    subst hP hw hK
    obtain ⟨hz, hTI, ⟨x0, y0, hTO⟩, h1, h2⟩ := st
    obtain ⟨xs, ys, x, y, qx, qy, hx, hy⟩ := hg
    obtain ⟨its, rv, p, _⟩ := I.list qx
    obtain ⟨its2, rv2, p2, _⟩ := I.tuple qy
    obtain ⟨u, hu, ru⟩ := rv.get hx
    obtain ⟨u2, hu2, ru2⟩ := rv2.get hy
    have zl : z < s.heap.objs.size := Heap.lt_size hz
    have l1 : i < its.toArray.size := by
      obtain ⟨q, _⟩ := List.getElem?_eq_some_iff.mp hu
      simpa using q
    have l2 : i < its2.toArray.size := by
      obtain ⟨q, _⟩ := List.getElem?_eq_some_iff.mp hu2
      simpa using q
    have hh := I.ok.hd hc
    have D1 := Draws.list (prog := X.prog) (w := X.w) (A := X.A.in1) hh i1 a (fun e => by have q := S.sep1_2; have q2 := S.mem1; exact absurd (e ▸ p.isList) (fun z1 => by
      obtain ⟨o, ho, hcl, n, hd⟩ := z1
      obtain ⟨o1, e1, c1, d1⟩ := h1
      rw [e1] at ho
      cases ho
      rw [d1] at hd
      cases hd)) its.toArray
    have D2 := Draws.tuple (prog := X.prog) (w := X.w) (A := X.A.in1) hh i2 b (fun e => absurd (e ▸ p2) (fun z1 => by
      obtain ⟨o, ho, hcl, n, hd⟩ := z1
      obtain ⟨o1, e1, c1, d1⟩ := h2
      rw [e1] at ho
      cases ho
      rw [d1] at hd
      cases hd)) its2.toArray
    refine wpAny_pyNext_zipD2_item S D1 D2 hz hTI hTO ⟨h1, p.isList⟩ ⟨h2, p2⟩ l1 l2 fun v1 v2 h' tk y1 y2 z' TO' s1' s2' hT hsz hk => ?_
    have e1 : v1 = u := Option.some.inj (y1.symm.trans (by simpa using hu))
    have e2 : v2 = u2 := Option.some.inj (y2.symm.trans (by simpa using hu2))
    subst e1 e2
    refine ⟨_, rfl, wpAny_letOwnedTupleGo_zip (s := { s with heap := h', toks := tk }) z' fun h'' z'' sb => ?_⟩
    have hT2 : h''.get? s.heap.objs.size = some { cls := .type "tuple", data := .seq #[v1, v2] } := (sb.2 _ (Nat.ne_of_gt zl)).trans hT
    have new : ObjOk X.prog X.w (upd H s.heap.objs.size (.tup [x, y])) h'' s.heap.objs.size (.tup [x, y]) :=
      ⟨(by show 2 ≤ sizeLine; decide), [v1, v2], .cons ru (.cons ru2 .nil), ⟨_, hT2, rfl, _, rfl⟩⟩
    have I1 : Inv X pins σ (upd H s.heap.objs.size (.tup [x, y])) { s with heap := h'', toks := tk } :=
      I.turnedNew (t' := tk) (ch := [z, TI, TO, i1, i2])
        (fun c o hb q => (sb.2 c (fun e => hb (by simp [e]))).trans (hk c o (fun e => hb (by simp [e])) (fun e => hb (by simp [e])) (fun e => hb (by simp [e])) (fun e => hb (by simp [e])) q)) hf (Nat.le_refl _) new
    refine ⟨.ref s.heap.objs.size, _, I1, rfl, ⟨_, x, y, rfl, I.hok.fresh (Nat.le_refl _), rfl, fun l hl => by rw [I.list_inj hl qx]; exact hx, fun l hl => by rw [I.tuple_inj hl qy]; exact hy⟩, ⟨z'', ?_, ⟨v1, v2, ?_⟩, ?_, ?_⟩, fun c hcm => ?_⟩
    · exact (sb.2 _ S.TIz).trans (hk _ _ S.TIz S.TITO S.TIi1 S.TIi2 hTI)
    · exact (sb.2 _ S.TOz).trans TO'
    · exact s1'.1.at fun o q => (sb.2 _ S.zi1.symm).trans q
    · exact s2'.1.at fun o q => (sb.2 _ S.zi2.symm).trans q
    · have lt : c < s.heap.objs.size := by
        rcases (by simpa using hcm : c = z ∨ c = TI ∨ c = TO ∨ c = i1 ∨ c = i2) with q | q | q | q | q
        · rw [q]; exact zl
        · rw [q]; exact Heap.lt_size hTI
        · rw [q]; exact Heap.lt_size hTO
        · rw [q]; obtain ⟨_, e1, _⟩ := h1; exact Heap.lt_size e1
        · rw [q]; obtain ⟨_, e2, _⟩ := h2; exact Heap.lt_size e2
      rw [upd_ne (Nat.ne_of_lt lt)]
      exact (hf c hcm).1
  done := by
    intro X hP hw hK hc i pins s σ H E I hf st hg
    subst hP hw hK
    obtain ⟨hz, hTI, ⟨x0, y0, hTO⟩, h1, h2⟩ := st
    obtain ⟨xs, ys, qx, qy, hle1, hle2, hend⟩ := hg
    obtain ⟨its, rv, p, _⟩ := I.list qx
    obtain ⟨its2, rv2, p2, _⟩ := I.tuple qy
    have l1 := rv.length
    have l2 := rv2.length
    have hh := I.ok.hd hc
    have D1 := Draws.list (prog := X.prog) (w := X.w) (A := X.A.in1) hh i1 a (fun e => absurd (e ▸ p.isList) (fun z1 => by
      obtain ⟨o, ho, hcl, n, hd⟩ := z1
      obtain ⟨o1, e1, c1, d1⟩ := h1
      rw [e1] at ho
      cases ho
      rw [d1] at hd
      cases hd)) its.toArray
    have D2 := Draws.tuple (prog := X.prog) (w := X.w) (A := X.A.in1) hh i2 b (fun e => absurd (e ▸ p2) (fun z1 => by
      obtain ⟨o, ho, hcl, n, hd⟩ := z1
      obtain ⟨o1, e1, c1, d1⟩ := h2
      rw [e1] at ho
      cases ho
      rw [d1] at hd
      cases hd)) its2.toArray
    exact wpAny_pyNext_zipD2_end S D1 D2 hz hTI hTO ⟨h1, p.isList⟩ ⟨h2, p2⟩ (by simp; omega) (by simp; omega) (by simp; omega)
      fun h' tk hk => ⟨rfl, I.turnedL (t' := tk) (ch := [z, TI, TO, i1, i2]) (fun c o hb q => hk c o (fun e => hb (by simp [e])) (fun e => hb (by simp [e])) (fun e => hb (by simp [e])) (fun e => hb (by simp [e])) q) hf⟩
  self := fun A i s Q E st q => wpAny_pyIter_zip st.1 q
def iZipM (K : PySem.W.Frag) (ta : TA) : TI := fun σ H R => ta σ H fun vs H1 => ∃ a b xs ys, vs = [.ref a, .ref b] ∧ SqL K H1 a xs ∧ SqT K H1 b ys ∧ R (ItM K a b) H1
theorem pi_zipM {X : Cx} {e e2 : Expr} {ta : TA} {p pos tp : Pos} {elts : List Expr} {kk : Nat} (hg : Gl X "zip") (hm : X.mg "zip" = none) (ha : PA X [e, e2] ta)
    (hs : starEach [e, e2] X.env = (false, eval e X.env) :: starEach [e2] X.env := by rfl) (hpl : (backTo pos (starEach [e2] X.env)).any (·.1) = false := by rfl) :
    PI X (.Tuple elts kk tp) (.Call (.Name "zip" p) [e, e2] [] pos) (iZipM X.K ta) := by
  refine ⟨fun pins s σ H R I h => ?_⟩
  refine Call_ (ld_blt I hg hm PyProof.Rows.boot_zip (PyProof.Rows.callWith_type1 (thn (ha.run pos pins s σ H _ I h) fun us s1 ⟨vs, H1, I1, r1, q1⟩ => ?_) hs hpl))
  obtain ⟨a, b, xs, ys, rfl, qx, qy, q⟩ := q1
  obtain _ | ⟨r, rr⟩ := r1
  obtain _ | ⟨r', rr⟩ := rr
  cases rr
  cases r
  cases r'
  obtain ⟨its, rv, p1, _⟩ := I1.list qx
  obtain ⟨its2, rv2, p2, _⟩ := I1.tuple qy
  have la : a < s1.heap.objs.size := by
    obtain ⟨o, ho, _⟩ := p1.isList
    exact Heap.lt_size ho
  have lb : b < s1.heap.objs.size := by
    obtain ⟨o, ho, _⟩ := id p2
    exact Heap.lt_size ho
  refine zip_begins2 (begins_list a its.toArray) (begins_tuple b its2.toArray) p1.isList p2 fun h' hz hTI hTO g1 g2 hsz hk => wpAny_pyIter_zip hz ?_
  have I2 : Inv X pins σ H1 { s1 with heap := h' } := I1.kept (t' := s1.toks) hk
  refine ⟨s1.heap.objs.size + 4, [s1.heap.objs.size + 4, s1.heap.objs.size + 2, s1.heap.objs.size + 3, s1.heap.objs.size, s1.heap.objs.size + 1], _, _, H1, rfl, I2,
    turn_zipM (zsep s1.heap.objs.size a b la lb), ⟨hz, hTI, ⟨_, _, hTO⟩, ⟨_, g1, rfl, rfl⟩, ⟨_, g2, rfl, rfl⟩⟩, fun c hcm => ?_, q⟩
  have le : s1.heap.objs.size ≤ c := by
    rcases (by simpa using hcm : c = s1.heap.objs.size + 4 ∨ c = s1.heap.objs.size + 2 ∨ c = s1.heap.objs.size + 3 ∨ c = s1.heap.objs.size ∨ c = s1.heap.objs.size + 1) with z | z | z | z | z
    · rw [z]; exact Nat.le_add_right _ _
    · rw [z]; exact Nat.le_add_right _ _
    · rw [z]; exact Nat.le_add_right _ _
    · rw [z]; exact Nat.le_refl _
    · rw [z]; exact Nat.le_add_right _ _
  exact I1.fpOk le (I1.hok.fresh le)
theorem walk_zipM {K : PySem.W.Frag} {a b : Addr} {xs ys : List V} {n : Nat} (hn : n = min xs.length ys.length) :
    Walk (ItM K a b) n (fun H => SqL K H a xs ∧ SqT K H b ys) (YPair (fun i => xs[i]?) (fun i => ys[i]?)) where
  goes := fun i H hi g => ⟨xs, ys, xs[i]'(by omega), ys[i]'(by omega), g.1, g.2, List.getElem?_eq_getElem _, List.getElem?_eq_getElem _⟩
  stops := fun H g => ⟨xs, ys, g.1, g.2, by omega, by omega, by omega⟩
  yields := by
    intro i H x H' hi g y
    obtain ⟨T, z, z', hv, hT, hH, q, q'⟩ := y
    exact ⟨T, z, z', hv, hT, hH, q xs g.1, q' ys g.2⟩
end Wb
/-! Data in the heap, and what draws from the script leave as it was. -/
namespace Wb
open PySem L2
/-! ### heaps -/
theorem same_tup {K : PySem.W.Frag} {H H' : Hp} {a : Addr} {xs : List V} (e : Same H H') (h : SqT K H a xs) : SqT K H' a xs := by
  rcases h with (h | ⟨o, h⟩) | h
  · exact .inl (.inl (e _ _ h))
  · exact .inl (.inr ⟨o, e _ _ h⟩)
  · exact .inr h
theorem same_new {H : Hp} {p : Addr} (h : H p = none) (o : HO) : Same H (upd H p o) := fun b u q => by
  rw [upd_ne (ne_of_none q h)]
  exact q
/-- all but the two objects of the source stands as it was -/
def Old (h l : Addr) (H H' : Hp) : Prop := ∀ b o, H b = some o → b ≠ h → b ≠ l → H' b = some o
theorem Old.refl {h l : Addr} (H : Hp) : Old h l H H := fun _ _ q _ _ => q
theorem Old.trans {h l : Addr} {H H1 H2 : Hp} (a : Old h l H H1) (b : Old h l H1 H2) : Old h l H H2 := fun c o q x y => b c o (a c o q x y) x y
theorem Old.of {h l : Addr} {H H' : Hp} (s : Same H H') : Old h l H H' := fun b o q _ _ => s b o q
theorem Old.new {h l : Addr} {H H' : Hp} (s : Old h l H H') {p : Addr} (hp : H' p = none) (o : HO) : Old h l H (upd H' p o) := s.trans (Old.of (same_new hp o))
/-- the heap without the source -/
def cut (h l : Addr) (H : Hp) : Hp := fun b => if b = h ∨ b = l then none else H b
theorem cut_some {h l b : Addr} {H : Hp} {o : HO} (q : cut h l H b = some o) : H b = some o ∧ b ≠ h ∧ b ≠ l := by
  unfold cut at q
  split at q
  · cases q
  · rename_i n
    exact ⟨q, fun e => n (.inl e), fun e => n (.inr e)⟩
theorem cut_of {h l b : Addr} {H : Hp} {o : HO} (q : H b = some o) (n : b ≠ h) (m : b ≠ l) : cut h l H b = some o := by
  unfold cut
  rw [if_neg (fun z => z.elim n m)]
  exact q
theorem cut_same (h l : Addr) (H : Hp) : Same (cut h l H) H := fun _ _ q => (cut_some q).1
theorem Old.cut {h l : Addr} {H H' : Hp} (s : Old h l H H') : Same (cut h l H) (cut h l H') := fun b o q => by
  obtain ⟨e, n, m⟩ := cut_some q
  exact cut_of (s b o e n m) n m
/-- the source of draws: a number, a list of numbers, a number -/
structure Src (h l : Addr) (H : Hp) : Prop where
  ne : h ≠ l
  ex : ∃ (st k : Int) (cs : List Int), H h = some (.lst [.int st, .ref l, .int k]) ∧ H l = some (.lst (cs.map V.int)) ∧ cs.length ≤ 63
theorem Src.same {h l : Addr} {H H' : Hp} (s : Src h l H) (e : Same H H') : Src h l H' := by
  obtain ⟨ne, st, k, cs, a, b, c⟩ := s
  exact ⟨ne, st, k, cs, e _ _ a, e _ _ b, c⟩
theorem Src.neh {h l p : Addr} {H : Hp} (s : Src h l H) (e : H p = none) : p ≠ h := by
  obtain ⟨_, st, k, cs, a, b, c⟩ := s
  exact (ne_of_none a e).symm
theorem Src.nel {h l p : Addr} {H : Hp} (s : Src h l H) (e : H p = none) : p ≠ l := by
  obtain ⟨_, st, k, cs, a, b, c⟩ := s
  exact (ne_of_none b e).symm
theorem cut_new {h l p : Addr} {H : Hp} {o : HO} (s : Src h l H) (e : H p = none) : cut h l (upd H p o) p = some o := cut_of upd_same (s.neh e) (s.nel e)
/-- a new object leaves the source -/
theorem Src.new {h l p : Addr} {H : Hp} (s : Src h l H) (e : H p = none) (o : HO) : Src h l (upd H p o) := s.same (same_new e o)
/-- a store elsewhere leaves the source -/
theorem Src.upd {h l p : Addr} {H : Hp} (s : Src h l H) (n : p ≠ h) (m : p ≠ l) (o : HO) : Src h l (L2.upd H p o) := by
  obtain ⟨ne, st, k, cs, a, b, c⟩ := s
  exact ⟨ne, st, k, cs, by rw [upd_ne n.symm]; exact a, by rw [upd_ne m.symm]; exact b, c⟩
/-! ### data -/
section
variable {K : PySem.W.Frag} {H H' : Hp}
mutual
theorem dp_mono (hl : ∀ a xs, SqL K H a xs → SqL K H' a xs) (ht : ∀ a xs, SqT K H a xs → SqT K H' a xs) : ∀ (d : PyData) (v : V), Dp K H v d → Dp K H' v d
  | .none, _, h => by cases h; exact .non
  | .bool b, _, h => by cases h; exact .bl b
  | .int i, _, h => by cases h; exact .int i
  | .str x, _, h => by cases h; exact .str x
  | .list ds, _, h => by
    cases h with
    | lst s a => exact .lst (hl _ _ s) (dp_monoAll hl ht ds _ a)
  | .tuple ds, _, h => by
    cases h with
    | tup s a => exact .tup (ht _ _ s) (dp_monoAll hl ht ds _ a)
  | .dict _, _, h => by cases h
theorem dp_monoAll (hl : ∀ a xs, SqL K H a xs → SqL K H' a xs) (ht : ∀ a xs, SqT K H a xs → SqT K H' a xs) : ∀ (ds : List PyData) (vs : List V), DpAll K H vs ds → DpAll K H' vs ds
  | [], _, h => by cases h; exact .nil
  | d :: ds, _, h => by
    cases h with
    | cons a b => exact .cons (dp_mono hl ht d _ a) (dp_monoAll hl ht ds _ b)
end
end
theorem dp_same {K : PySem.W.Frag} {H H' : Hp} {v : V} {d : PyData} (h : Dp K H v d) (s : Same H H') : Dp K H' v d := dp_mono (fun _ _ q => s.seq q) (fun _ _ q => same_tup s q) d v h
theorem dps_same {K : PySem.W.Frag} {H H' : Hp} {v : List V} {d : List PyData} (h : DpAll K H v d) (s : Same H H') : DpAll K H' v d := dp_monoAll (fun _ _ q => s.seq q) (fun _ _ q => same_tup s q) d v h
theorem dps_len {K : PySem.W.Frag} {H : Hp} : ∀ {ds : List PyData} {vs : List V}, DpAll K H vs ds → vs.length = ds.length
  | [], _, h => by cases h; rfl
  | _ :: _, _, h => by
    cases h with
    | cons a b => simp [dps_len b]
theorem dps_get {K : PySem.W.Frag} {H : Hp} : ∀ {ds : List PyData} {vs : List V} {i : Nat} {d : PyData}, DpAll K H vs ds → ds[i]? = some d → ∃ v, vs[i]? = some v ∧ Dp K H v d
  | [], _, _, _, _, e => by simp at e
  | _ :: _, _, 0, _, h, e => by
    cases h with
    | cons a b =>
      simp at e
      subst e
      exact ⟨_, rfl, a⟩
  | _ :: _, _, i + 1, _, h, e => by
    cases h with
    | cons a b =>
      obtain ⟨v, h1, h2⟩ := dps_get (i := i) b (by simpa using e)
      exact ⟨v, by simpa using h1, h2⟩
theorem dps_getV {K : PySem.W.Frag} {H : Hp} : ∀ {ds : List PyData} {vs : List V} {i : Nat} {v : V}, DpAll K H vs ds → vs[i]? = some v → ∃ d, ds[i]? = some d ∧ Dp K H v d
  | [], _, _, _, h, e => by cases h; simp at e
  | _ :: _, _, 0, _, h, e => by
    cases h with
    | cons a b =>
      simp at e
      subst e
      exact ⟨_, rfl, a⟩
  | _ :: _, _, i + 1, _, h, e => by
    cases h with
    | cons a b =>
      obtain ⟨v, h1, h2⟩ := dps_getV (i := i) b (by simpa using e)
      exact ⟨v, by simpa using h1, h2⟩
theorem dps_app {K : PySem.W.Frag} {H : Hp} : ∀ {ds es : List PyData} {vs us : List V}, DpAll K H vs ds → DpAll K H us es → DpAll K H (vs ++ us) (ds ++ es)
  | [], _, _, _, h, g => by cases h; exact g
  | _ :: _, _, _, _, h, g => by
    cases h with
    | cons a b => exact .cons a (dps_app b g)
theorem dps_snoc {K : PySem.W.Frag} {H : Hp} {ds : List PyData} {vs : List V} {d : PyData} {v : V} (h : DpAll K H vs ds) (g : Dp K H v d) : DpAll K H (vs ++ [v]) (ds ++ [d]) := dps_app h (.cons g .nil)
theorem dps_ints {K : PySem.W.Frag} {H : Hp} : ∀ {ns : List Int}, DpAll K H (ns.map V.int) (ns.map PyData.int)
  | [] => .nil
  | n :: _ => .cons (.int n) dps_ints
theorem dps_nats {K : PySem.W.Frag} {H : Hp} : ∀ {ns : List Nat}, DpAll K H (ns.map fun n : Nat => V.int (n : Int)) (ns.map fun n : Nat => PyData.int (n : Int))
  | [] => .nil
  | n :: _ => .cons (.int n) dps_nats
/-- back from data to values: a tuple's numbers -/
theorem dps_ofInts {K : PySem.W.Frag} {H : Hp} : ∀ {ns : List Int} {vs : List V}, DpAll K H vs (ns.map PyData.int) → vs = ns.map V.int
  | [], _, h => by cases h; rfl
  | n :: ns, _, h => by
    cases h with
    | cons a b =>
      cases a
      rw [dps_ofInts b, List.map_cons]
theorem dps_ofNats {K : PySem.W.Frag} {H : Hp} : ∀ {ns : List Nat} {vs : List V}, DpAll K H vs (ns.map fun n : Nat => PyData.int (n : Int)) → vs = ns.map fun n : Nat => V.int (n : Int)
  | [], _, h => by cases h; rfl
  | n :: ns, _, h => by
    cases h with
    | cons a b =>
      cases a
      rw [dps_ofNats b, List.map_cons]
theorem dp_tup {K : PySem.W.Frag} {H : Hp} {v : V} {ds : List PyData} (h : Dp K H v (.tuple ds)) : ∃ a xs, v = .ref a ∧ SqT K H a xs ∧ DpAll K H xs ds := by
  cases h with
  | tup s a => exact ⟨_, _, rfl, s, a⟩
theorem dp_lst {K : PySem.W.Frag} {H : Hp} {v : V} {ds : List PyData} (h : Dp K H v (.list ds)) : ∃ a xs, v = .ref a ∧ SqL K H a xs ∧ DpAll K H xs ds := by
  cases h with
  | lst s a => exact ⟨_, _, rfl, s, a⟩
theorem dp_int {K : PySem.W.Frag} {H : Hp} {v : V} {i : Int} (h : Dp K H v (.int i)) : v = .int i := by
  cases h
  rfl
/-! ### what kind of thing -/
def kindOf : PyData → String
  | .none => "NoneType"
  | .bool _ => "bool"
  | .int _ => "int"
  | .str _ => "str"
  | .list _ => "list"
  | .tuple _ => "tuple"
  | .dict _ => "dict"
theorem tyx_lst {K : PySem.W.Frag} {H : Hp} {a : Addr} {xs : List V} (h : SqL K H a xs) : TyX K H (.ref a) (.type "list") := by
  rcases h with (h | ⟨o, h⟩) | ⟨o, its, n, h, c, _⟩
  · exact .base (.lst h)
  · exact .base (.frz h)
  · exact .kList h c
theorem tyx_tup {K : PySem.W.Frag} {H : Hp} {a : Addr} {xs : List V} (h : SqT K H a xs) : TyX K H (.ref a) (.type "tuple") := by
  rcases h with (h | ⟨o, h⟩) | ⟨o, its, n, h, c, _⟩
  · exact .base (.tup h)
  · exact .fTuple h
  · exact .kTuple h c
theorem dp_ty {K : PySem.W.Frag} {H : Hp} {v : V} {d : PyData} (h : Dp K H v d) : TyX K H v (.type (kindOf d)) := by
  cases h with
  | non => exact .base .non
  | bl b => exact .base (.bl b)
  | int i => exact .base (.int i)
  | str x => exact .base (.str x)
  | lst s _ => exact tyx_lst s
  | tup s _ => exact tyx_tup s
/-- the answer of isinstance for plain data -/
def isA (d : PyData) (T : String) : Bool := (kitB (kindOf d) T).getD false
theorem kind_mem (d : PyData) : kindOf d ∈ ["NoneType", "bool", "int", "str", "list", "tuple", "dict"] := by cases d <;> simp [kindOf]
theorem kit_some : ∀ k ∈ ["NoneType", "bool", "int", "str", "list", "tuple", "dict"], ∀ T ∈ ["int", "bool", "str", "tuple", "list"], kitB k T = some (decide (k = T) || (decide (k = "bool") && decide (T = "int"))) := by decide +kernel
theorem isA_val (d : PyData) {T : String} (hT : T = "int" ∨ T = "bool" ∨ T = "str" ∨ T = "tuple" ∨ T = "list") : kitB (kindOf d) T = some (decide (kindOf d = T) || (decide (kindOf d = "bool") && decide (T = "int"))) :=
  kit_some _ (kind_mem d) T (by rcases hT with rfl | rfl | rfl | rfl | rfl <;> decide)
theorem isA_eq {K : PySem.W.Frag} {d : PyData} {T : String} (hT : T = "int" ∨ T = "bool" ∨ T = "str" ∨ T = "tuple" ∨ T = "list") : PySem.W.kitOne K (.type (kindOf d)) (.type T) = some (isA d T) := by
  have e : kitB (kindOf d) T = some (isA d T) := by
    unfold isA
    rw [isA_val d hT]
    rfl
  exact kit_ty e
def isSeq : PyData → Bool
  | .list _ => true
  | .tuple _ => true
  | _ => false
theorem isA_int (d : PyData) : isA d "int" = (match d with | .int _ => true | .bool _ => true | _ => false) := by
  unfold isA
  rw [isA_val d (by simp)]
  cases d <;> (unfold kindOf; rfl)
theorem isA_bool (d : PyData) : isA d "bool" = (match d with | .bool _ => true | _ => false) := by
  unfold isA
  rw [isA_val d (by simp)]
  cases d <;> (unfold kindOf; rfl)
theorem isA_str (d : PyData) : isA d "str" = (match d with | .str _ => true | _ => false) := by
  unfold isA
  rw [isA_val d (by simp)]
  cases d <;> (unfold kindOf; rfl)
theorem isA_tuple (d : PyData) : isA d "tuple" = (match d with | .tuple _ => true | _ => false) := by
  unfold isA
  rw [isA_val d (by simp)]
  cases d <;> (unfold kindOf; rfl)
theorem isA_list (d : PyData) : isA d "list" = (match d with | .list _ => true | _ => false) := by
  unfold isA
  rw [isA_val d (by simp)]
  cases d <;> (unfold kindOf; rfl)
/-- isinstance(x, T) of plain data, as it is read -/
theorem rd_isi {K : PySem.W.Frag} {H : Hp} {v : V} {d : PyData} {T : String} {Q : VK} (hd : Dp K H v d) (hT : T = "int" ∨ T = "bool" ∨ T = "str" ∨ T = "tuple" ∨ T = "list") (q : Q (.bl (isA d T)) H) : rIsi K [v, .ty T] H Q :=
  ⟨v, .ty T, .type (kindOf d), .type T, isA d T, rfl, .ty T, (dp_ty hd), isA_eq hT, q⟩
/-- isinstance(x, (tuple, list)) -/
theorem isSeq_eq {K : PySem.W.Frag} {d : PyData} : PySem.W.kitAny K (.type (kindOf d)) [.type "tuple", .type "list"] = some (isSeq d) := by
  refine kitAny_cons (isA_eq (T := "tuple") (by simp)) (fun e => kitAny_cons (isA_eq (T := "list") (by simp)) (fun e2 => ?_) (fun e2 => ?_)) (fun e => ?_)
  · rw [kitAny_nil]
    rw [isA_tuple] at e
    rw [isA_list] at e2
    cases d <;> simp_all [isSeq]
  · rw [isA_list] at e2
    cases d <;> simp_all [isSeq]
  · rw [isA_tuple] at e
    cases d <;> simp_all [isSeq]
/-- the things of a list or tuple -/
def items : PyData → List PyData
  | .list ds => ds
  | .tuple ds => ds
  | _ => []
theorem dp_seq {K : PySem.W.Frag} {H : Hp} {v : V} {d : PyData} (h : Dp K H v d) (e : isSeq d = true) : ∃ a xs, v = .ref a ∧ (SqL K H a xs ∨ SqT K H a xs) ∧ DpAll K H xs (items d) := by
  cases h with
  | lst s a => exact ⟨_, _, rfl, .inl s, a⟩
  | tup s a => exact ⟨_, _, rfl, .inr s, a⟩
  | _ => cases e
theorem seq_same {K : PySem.W.Frag} {H H' : Hp} {a : Addr} {xs : List V} (h : SqL K H a xs ∨ SqT K H a xs) (s : Same H H') : SqL K H' a xs ∨ SqT K H' a xs := h.elim (fun q => .inl (s.seq q)) (fun q => .inr (same_tup s q))
theorem rd_ixseq {K : PySem.W.Frag} {H : Hp} {a : Addr} {xs : List V} {i : Int} {v : V} {Q : VK} (h : SqL K H a xs ∨ SqT K H a xs) (hv : atI xs i = some v) (q : Q v H) : rIx K (.ref a) (.int i) H Q :=
  h.elim (fun z => .inl ⟨a, xs, i, v, rfl, rfl, z, hv, q⟩) (fun z => .inr (.inl ⟨a, xs, i, v, rfl, rfl, z, hv, q⟩))
/-- data of at most n levels, its lists and tuples short, its texts plain -/
def fine : Nat → PyData → Prop
  | 0, _ => False
  | n + 1, d => match d with
    | .list ds => ds.length ≤ 1000 ∧ ∀ e ∈ ds, fine n e
    | .tuple ds => ds.length ≤ 1000 ∧ ∀ e ∈ ds, fine n e
    | .str x => PyData.strOk x = true
    | .dict _ => False
    | _ => True
theorem fine_item {n : Nat} {d e : PyData} {i : Nat} (h : fine (n + 1) d) (he : (items d)[i]? = some e) : fine n e := by
  cases d with
  | list ds => exact h.2 e (List.mem_of_getElem? he)
  | tuple ds => exact h.2 e (List.mem_of_getElem? he)
  | _ => simp [items] at he
theorem fine_len {n : Nat} {d : PyData} (h : fine (n + 1) d) : (items d).length ≤ 1000 := by
  cases d with
  | list ds => exact h.1
  | tuple ds => exact h.1
  | _ => simp [items]
theorem fine_up : ∀ {n : Nat} {d : PyData}, fine n d → fine (n + 1) d
  | 0, _, h => h.elim
  | n + 1, .list ds, h => ⟨h.1, fun e he => fine_up (h.2 e he)⟩
  | n + 1, .tuple ds, h => ⟨h.1, fun e he => fine_up (h.2 e he)⟩
  | n + 1, .str x, h => h
  | n + 1, .none, _ => trivial
  | n + 1, .bool _, _ => trivial
  | n + 1, .int _, _ => trivial
  | n + 1, .dict _, h => h.elim
theorem fine_ints (r : List Nat) (h : r.length ≤ 1000) (n : Nat) : fine (n + 2) (.tuple (r.map fun a : Nat => PyData.int (a : Int))) := by
  refine ⟨by rw [List.length_map]; exact h, fun e he => ?_⟩
  obtain ⟨a, _, rfl⟩ := List.mem_map.mp he
  exact trivial
theorem fine_intsL (r : List Nat) (h : r.length ≤ 1000) (n : Nat) : fine (n + 2) (.list (r.map fun a : Nat => PyData.int (a : Int))) := by
  refine ⟨by rw [List.length_map]; exact h, fun e he => ?_⟩
  obtain ⟨a, _, rfl⟩ := List.mem_map.mp he
  exact trivial
/-- a number from lo to hi -/
def btw (d : PyData) (lo hi : Int) : Bool := match d with
  | .int i => decide (lo ≤ i) && decide (i ≤ hi)
  | _ => false
/-- a tuple of lo to hi things -/
def tupN (d : PyData) (lo hi : Int) : Bool := match d with
  | .tuple ds => decide (lo ≤ (ds.length : Int)) && decide ((ds.length : Int) ≤ hi)
  | _ => false
end Wb
namespace Wb
open PySem L2
/-! the rules' readings by name, with the written part told (a comprehension's block wants it so) -/
def rLenS (K : PySem.W.Frag) : List V → Hp → VK → Prop := fun xs H Q => ∃ p ys, xs = [.ref p] ∧ (SqL K H p ys ∨ SqT K H p ys) ∧ Q (.int ys.length) H
theorem call_lenS {X : Cx} : CallR X (.builtin "len") (rLenS X.K) := call_len_seq
def rListOf (K : PySem.W.Frag) : List V → Hp → VK → Prop := fun xs H Q => ∃ p ys, xs = [.ref p] ∧ (SqL K H p ys ∨ SqT K H p ys) ∧ ∀ l, H l = none → Q (.ref l) (upd H l (.lst ys))
theorem call_listS {X : Cx} : CallR X (.type "list") (rListOf X.K) := call_list_of
def rTupOf (K : PySem.W.Frag) : List V → Hp → VK → Prop := fun xs H Q => ∃ p ys, xs = [.ref p] ∧ ((SqL K H p ys ∧ ∀ l, H l = none → Q (.ref l) (upd H l (.tup ys))) ∨ (SqT K H p ys ∧ Q (.ref p) H))
theorem call_tupS {X : Cx} : CallR X (.type "tuple") (rTupOf X.K) := call_tuple_of
end Wb
namespace Wb
open PySem L2
/-! ### the tuples of a heap: they never change -/
def tups (H : Hp) : Hp := fun b => match H b with
  | some (.tup xs) => some (.tup xs)
  | _ => none
theorem tups_some {H : Hp} {b : Addr} {o : HO} (q : tups H b = some o) : H b = some o ∧ ∃ xs, o = .tup xs := by
  unfold tups at q
  split at q
  · rename_i xs e
    cases q
    exact ⟨e, xs, rfl⟩
  · cases q
theorem tups_of {H : Hp} {b : Addr} {xs : List V} (q : H b = some (.tup xs)) : tups H b = some (.tup xs) := by
  unfold tups
  rw [q]
theorem tups_same (H : Hp) : Same (tups H) H := fun _ _ q => (tups_some q).1
/-- the tuples stand as they were -/
def TS (H H' : Hp) : Prop := Same (tups H) (tups H')
theorem TS.refl (H : Hp) : TS H H := Same.refl _
theorem TS.trans {H H1 H2 : Hp} (a : TS H H1) (b : TS H1 H2) : TS H H2 := Same.trans a b
theorem TS.same {H H' : Hp} (s : Same H H') : TS H H' := fun b o q => by
  obtain ⟨e, xs, rfl⟩ := tups_some q
  exact tups_of (s _ _ e)
theorem TS.new {H H' : Hp} (s : TS H H') {p : Addr} (hp : H' p = none) (o : HO) : TS H (upd H' p o) := s.trans (TS.same (same_new hp o))
theorem TS.lst {H H' : Hp} (s : TS H H') {p : Addr} {xs : List V} (hp : H' p = some (.lst xs)) (o : HO) : TS H (upd H' p o) := s.trans fun b u q => by
  obtain ⟨e, ys, rfl⟩ := tups_some q
  exact tups_of (by rw [upd_ne (ne_of e hp (by intro z; cases z))]; exact e)
theorem Old.ts {h l : Addr} {H H' : Hp} (S : Src h l H) (o : Old h l H H') : TS H H' := fun b u q => by
  obtain ⟨e, ys, rfl⟩ := tups_some q
  obtain ⟨_, st, k, cs, a, c, _⟩ := S
  exact tups_of (o _ _ e (ne_of e a (by intro z; cases z)) (ne_of e c (by intro z; cases z)))
theorem dp_ts {K : PySem.W.Frag} {H H' : Hp} {v : V} {d : PyData} (h : Dp K (tups H) v d) (s : TS H H') : Dp K (tups H') v d := dp_same h s
theorem dps_ts {K : PySem.W.Frag} {H H' : Hp} {v : List V} {d : List PyData} (h : DpAll K (tups H) v d) (s : TS H H') : DpAll K (tups H') v d := dps_same h s
theorem dp_tups {K : PySem.W.Frag} {H : Hp} {v : V} {d : PyData} (h : Dp K (tups H) v d) : Dp K H v d := dp_same h (tups_same H)
end Wb
namespace Wb
open PySem L2
theorem Old.free {h l p : Addr} {H H' : Hp} (o : Old h l H H') (e : H' p = none) (nh : p ≠ h) (nl : p ≠ l) : H p = none := by
  cases q : H p with
  | none => rfl
  | some u =>
    rw [o _ _ q nh nl] at e
    cases e
/-- a store to an object that was not there -/
theorem Old.put {h l p : Addr} {H H' : Hp} (o : Old h l H H') (e : H p = none) (u : HO) : Old h l H (upd H' p u) := fun b v hb bh bl => by
  rw [upd_ne (fun z => by subst z; rw [e] at hb; cases hb)]
  exact o _ _ hb bh bl
theorem Same.put {p : Addr} {H H' : Hp} (s : Same H H') (e : H p = none) (u : HO) : Same H (upd H' p u) := fun b v hb => by
  rw [upd_ne (fun z => by subst z; rw [e] at hb; cases hb)]
  exact s _ _ hb
end Wb
/-! Tables of writers as plain lists, and what a writer does. -/
namespace Wb
open PySem L2
abbrev Tab := List (List (Nat × Nat))
def stepD (s : Nat × Nat) : PyData := .tuple [.int (s.1 : Int), .int (s.2 : Int)]
def rowD (r : List (Nat × Nat)) : PyData := .tuple (r.map stepD)
def tabD (t : Tab) : PyData := .tuple (t.map rowD)
structure Good (t : Tab) (n : Nat) : Prop where
  len1 : 1 ≤ t.length
  len6 : t.length ≤ 6
  n2 : 2 ≤ n
  n3 : n ≤ 3
  rows : ∀ r ∈ t, r.length = n
  steps : ∀ r ∈ t, ∀ s ∈ r, s.1 < t.length ∧ s.2 ≤ 3
/-- the step of a letter at a stand -/
def stp (t : Tab) (s a : Nat) : Nat × Nat := (t.getD s []).getD a (0, 0)
theorem Good.row {t : Tab} {n s : Nat} (g : Good t n) (hs : s < t.length) : t.getD s [] ∈ t ∧ (t.getD s []).length = n := by
  have e : t.getD s [] = t[s] := by simp [List.getD, List.getElem?_eq_getElem hs]
  rw [e]
  exact ⟨List.getElem_mem hs, g.rows _ (List.getElem_mem hs)⟩
theorem Good.stp {t : Tab} {n s a : Nat} (g : Good t n) (hs : s < t.length) (ha : a < n) : (stp t s a).1 < t.length ∧ (stp t s a).2 ≤ 3 := by
  obtain ⟨m, l⟩ := g.row hs
  have la : a < (t.getD s []).length := by omega
  have e : Wb.stp t s a = (t.getD s [])[a] := by unfold Wb.stp; rw [List.getD, List.getElem?_eq_getElem la]; rfl
  rw [e]
  exact g.steps _ m _ (List.getElem_mem la)
/-- a table in the heap, its row, its step -/
theorem tab_row {K : PySem.W.Frag} {H : Hp} {v : V} {t : Tab} (h : Dp K H v (tabD t)) {s : Nat} (hs : s < t.length) :
    ∃ p xs u, v = .ref p ∧ SqT K H p xs ∧ xs[s]? = some u ∧ Dp K H u (rowD (t.getD s [])) ∧ xs.length = t.length := by
  obtain ⟨p, xs, rfl, hx, ha⟩ := dp_tup h
  have e : (t.map rowD)[s]? = some (rowD (t.getD s [])) := by
    rw [List.getElem?_map, List.getElem?_eq_getElem hs]
    simp [List.getD, List.getElem?_eq_getElem hs]
  obtain ⟨u, hu, du⟩ := dps_get ha e
  exact ⟨p, xs, u, rfl, hx, hu, du, by rw [dps_len ha, List.length_map]⟩
theorem row_step {K : PySem.W.Frag} {H : Hp} {v : V} {r : List (Nat × Nat)} (h : Dp K H v (rowD r)) {a : Nat} (ha : a < r.length) :
    ∃ p xs q, v = .ref p ∧ SqT K H p xs ∧ xs[a]? = some (.ref q) ∧ SqT K H q [.int ((r.getD a (0, 0)).1 : Int), .int ((r.getD a (0, 0)).2 : Int)] ∧ xs.length = r.length := by
  obtain ⟨p, xs, rfl, hx, hA⟩ := dp_tup h
  have e : (r.map stepD)[a]? = some (stepD (r.getD a (0, 0))) := by
    rw [List.getElem?_map, List.getElem?_eq_getElem ha]
    simp [List.getD, List.getElem?_eq_getElem ha]
  obtain ⟨u, hu, du⟩ := dps_get hA e
  obtain ⟨q, ys, rfl, hy, hB⟩ := dp_tup du
  have ey : ys = [.int ((r.getD a (0, 0)).1 : Int), .int ((r.getD a (0, 0)).2 : Int)] := dps_ofInts (ns := [((r.getD a (0, 0)).1 : Int), ((r.getD a (0, 0)).2 : Int)]) hB
  rw [ey] at hy
  exact ⟨p, xs, q, rfl, hx, hu, hy, by rw [dps_len hA, List.length_map]⟩
/-- table[s][a] -/
theorem tab_get {K : PySem.W.Frag} {H : Hp} {v : V} {t : Tab} {n : Nat} (h : Dp K H v (tabD t)) (g : Good t n) {s a : Nat} (hs : s < t.length) (ha : a < n) :
    ∃ p xs q ys r, v = .ref p ∧ SqT K H p xs ∧ xs[s]? = some (.ref q) ∧ SqT K H q ys ∧ ys[a]? = some (.ref r) ∧ SqT K H r [.int ((stp t s a).1 : Int), .int ((stp t s a).2 : Int)] := by
  obtain ⟨p, xs, u, rfl, hx, hu, du, _⟩ := tab_row h hs
  obtain ⟨m, l⟩ := g.row hs
  obtain ⟨q, ys, r, rfl, hy, hr, hz, _⟩ := row_step du (a := a) (by omega)
  exact ⟨p, xs, q, ys, r, rfl, hx, hu, hy, hr, hz⟩
/-! ### what is passed and what is written -/
def runS (t : Tab) (s : Nat) : List Nat → List Nat
  | [] => [s]
  | a :: r => s :: runS t (stp t s a).1 r
def runW (t : Tab) (s : Nat) : List Nat → List Nat
  | [] => []
  | a :: r => (stp t s a).2 :: runW t (stp t s a).1 r
def endS (t : Tab) (s : Nat) : List Nat → Nat
  | [] => s
  | a :: r => endS t (stp t s a).1 r
theorem runS_len (t : Tab) : ∀ (r : List Nat) (s : Nat), (runS t s r).length = r.length + 1
  | [], _ => rfl
  | a :: r, s => by simp [runS, runS_len t r]
theorem runW_len (t : Tab) : ∀ (r : List Nat) (s : Nat), (runW t s r).length = r.length
  | [], _ => rfl
  | a :: r, s => by simp [runW, runW_len t r]
theorem endS_snoc (t : Tab) (a : Nat) : ∀ (r : List Nat) (s : Nat), endS t s (r ++ [a]) = (stp t (endS t s r) a).1
  | [], _ => rfl
  | b :: r, s => by simp only [List.cons_append, endS]; exact endS_snoc t a r _
theorem runS_snoc (t : Tab) (a : Nat) : ∀ (r : List Nat) (s : Nat), runS t s (r ++ [a]) = runS t s r ++ [endS t s (r ++ [a])]
  | [], _ => rfl
  | b :: r, s => by simp only [List.cons_append, runS, endS, runS_snoc t a r]
theorem runW_snoc (t : Tab) (a : Nat) : ∀ (r : List Nat) (s : Nat), runW t s (r ++ [a]) = runW t s r ++ [(stp t (endS t s r) a).2]
  | [], _ => rfl
  | b :: r, s => by simp only [List.cons_append, runW, endS, runW_snoc t a r]
theorem runS_end (t : Tab) : ∀ (r : List Nat) (s : Nat), ∃ l, runS t s r = l ++ [endS t s r] ∧ l.length = r.length
  | [], s => ⟨[], rfl, rfl⟩
  | b :: r, s => by
    obtain ⟨l, h, e⟩ := runS_end t r (stp t s b).1
    exact ⟨s :: l, by simp [runS, endS, h], by simp [e]⟩
theorem runS_get (t : Tab) : ∀ (r : List Nat) (s i : Nat), i ≤ r.length → (runS t s r)[i]? = some (endS t s (r.take i))
  | [], s, i, h => by
    have e : i = 0 := by simpa using h
    subst e
    rfl
  | b :: r, s, 0, _ => rfl
  | b :: r, s, i + 1, h => by
    simp only [runS, List.getElem?_cons_succ, List.take_succ_cons, endS]
    exact runS_get t r _ i (by simpa using h)
theorem endS_lt {t : Tab} {n : Nat} (g : Good t n) : ∀ (r : List Nat) (s : Nat), s < t.length → (∀ a ∈ r, a < n) → endS t s r < t.length
  | [], s, hs, _ => hs
  | b :: r, s, hs, hr => endS_lt g r _ (g.stp hs (hr b (by simp))).1 fun a ha => hr a (by simp [ha])
theorem take_snoc {α : Type} {l : List α} {i : Nat} {x : α} (h : l[i]? = some x) : l.take (i + 1) = l.take i ++ [x] := by
  rw [List.take_add_one, h]
  rfl
end Wb
namespace Wb
theorem drop_cons {α : Type} {l : List α} {i : Nat} {x : α} (h : l[i]? = some x) : l.drop i = x :: l.drop (i + 1) := by
  obtain ⟨hl, rfl⟩ := List.getElem?_eq_some_iff.mp h
  exact List.drop_eq_getElem_cons hl
end Wb
namespace Wb
open PySem L2
/-- a writer at p over the table at v -/
def WrAt (C : Addr) (H : Hp) (p : Addr) (v : V) : Prop := ∃ dx, H p = some (.ins C dx [("_table", v)])
theorem WrAt.same {C : Addr} {H H' : Hp} {p : Addr} {v : V} (h : WrAt C H p v) (s : Same H H') : WrAt C H' p v := by
  obtain ⟨dx, h⟩ := h
  exact ⟨dx, s _ _ h⟩
end Wb
namespace Wb
theorem iteNT {c A B : Prop} [Decidable c] (hc : ¬ c) (h : A) : if (!decide c) = true then A else B := by
  rw [decide_eq_false hc]
  exact h
end Wb
/-! What is no table: the first fault of any plain data. -/
namespace Wb
open PySem L2
/-- a tuple of a number below n and one from 0 to 3 -/
def stepOk (d : PyData) (n : Int) : Bool := match d with
  | .tuple [a, b] => btw a 0 (n - 1) && btw b 0 3
  | _ => false
/-- a tuple of two or three steps -/
def rowOk (d : PyData) (n : Int) : Bool := match d with
  | .tuple ds => tupN d 2 3 && ds.all fun e => stepOk e n
  | _ => false
def scan (n : Int) (l : Nat) : List PyData → Nat → Option Nat
  | [], _ => none
  | d :: r, k => if rowOk d n = true ∧ (items d).length = l then scan n l r (k + 1) else some k
/-- none: a table; some none: no tuple of 1 to 6 things; some (some k): the k-th is no row -/
def fault (d : PyData) : Option (Option Nat) :=
  if tupN d 1 6 = true then (scan ((items d).length : Int) (items ((items d).getD 0 .none)).length (items d) 0).map some else some none
def faultD : Option Nat → PyData
  | none => .none
  | some k => .int (k : Int)
theorem btw_nat {d : PyData} {hi : Int} (h : btw d 0 hi = true) : ∃ k : Nat, d = .int (k : Int) ∧ (k : Int) ≤ hi := by
  cases d with
  | int i =>
    simp [btw] at h
    exact ⟨i.toNat, by rw [Int.toNat_of_nonneg h.1], by omega⟩
  | _ => simp [btw] at h
theorem stepOk_nat {d : PyData} {n : Nat} (h : stepOk d n = true) : ∃ s : Nat × Nat, d = stepD s ∧ s.1 < n ∧ s.2 ≤ 3 := by
  unfold stepOk at h
  split at h
  · rename_i a b
    rw [Bool.and_eq_true] at h
    obtain ⟨x, rfl, hx⟩ := btw_nat h.1
    obtain ⟨y, rfl, hy⟩ := btw_nat h.2
    exact ⟨(x, y), rfl, by show x < n; omega, by show y ≤ 3; omega⟩
  · cases h
theorem tupN_of {d : PyData} {lo hi : Int} (h : tupN d lo hi = true) : ∃ ds, d = .tuple ds ∧ lo ≤ (ds.length : Int) ∧ (ds.length : Int) ≤ hi := by
  cases d with
  | tuple ds => simp [tupN] at h; exact ⟨ds, rfl, h.1, h.2⟩
  | _ => simp [tupN] at h
theorem steps_nat {n : Nat} : ∀ {ds : List PyData}, (ds.all fun e => stepOk e n) = true → ∃ r : List (Nat × Nat), ds = r.map stepD ∧ ∀ s ∈ r, s.1 < n ∧ s.2 ≤ 3
  | [], _ => ⟨[], rfl, fun s h => by cases h⟩
  | d :: ds, h => by
    rw [List.all_cons, Bool.and_eq_true] at h
    obtain ⟨s, rfl, h1, h2⟩ := stepOk_nat h.1
    obtain ⟨r, rfl, hr⟩ := steps_nat h.2
    refine ⟨s :: r, rfl, fun x hx => ?_⟩
    rcases List.mem_cons.mp hx with rfl | hx
    · exact ⟨h1, h2⟩
    · exact hr x hx
theorem rowOk_nat {d : PyData} {n : Nat} (h : rowOk d n = true) : ∃ r : List (Nat × Nat), d = rowD r ∧ 2 ≤ r.length ∧ r.length ≤ 3 ∧ ∀ s ∈ r, s.1 < n ∧ s.2 ≤ 3 := by
  cases d with
  | tuple ds =>
    have h' : (tupN (.tuple ds) 2 3 && ds.all fun e => stepOk e n) = true := h
    rw [Bool.and_eq_true] at h'
    obtain ⟨es, e, l1, l2⟩ := tupN_of h'.1
    cases e
    obtain ⟨r, rfl, hr⟩ := steps_nat h'.2
    rw [List.length_map] at l1 l2
    exact ⟨r, rfl, by omega, by omega, hr⟩
  | _ => cases h
theorem scan_none {n l : Nat} : ∀ {ds : List PyData} {k : Nat}, scan n l ds k = none → ∃ t : Tab, ds = t.map rowD ∧ ∀ r ∈ t, r.length = l ∧ 2 ≤ r.length ∧ r.length ≤ 3 ∧ ∀ s ∈ r, s.1 < n ∧ s.2 ≤ 3
  | [], _, _ => ⟨[], rfl, fun r h => by cases h⟩
  | d :: ds, k, h => by
    unfold scan at h
    split at h
    · rename_i c
      obtain ⟨r, rfl, a, b, cc⟩ := rowOk_nat c.1
      obtain ⟨t, rfl, ht⟩ := scan_none h
      have el : r.length = l := by
        have := c.2
        simpa [items, rowD] using this
      refine ⟨r :: t, rfl, fun x hx => ?_⟩
      rcases List.mem_cons.mp hx with rfl | hx
      · exact ⟨el, a, b, cc⟩
      · exact ht x hx
    · cases h
theorem fault_none {d : PyData} (h : fault d = none) : ∃ (t : Tab) (n : Nat), d = tabD t ∧ Good t n := by
  unfold fault at h
  split at h
  · rename_i c
    obtain ⟨ds, rfl, l1, l2⟩ := tupN_of c
    have h' := Option.map_eq_none_iff.mp h
    obtain ⟨t, e, ht⟩ := scan_none h'
    have e' : ds = t.map rowD := e
    subst e'
    have lt : (t.map rowD).length = t.length := List.length_map _
    have lt2 : (items (.tuple (t.map rowD))).length = t.length := lt
    rw [lt] at l1 l2
    cases t with
    | nil => simp at l1
    | cons r0 t =>
      have h0 := ht r0 (by simp)
      refine ⟨r0 :: t, r0.length, rfl, by omega, by omega, h0.2.1, h0.2.2.1, fun r hr => ?_, fun r hr s hs => ?_⟩
      · rw [(ht r hr).1, h0.1]
      · have q := (ht r hr).2.2.2 s hs
        rw [lt2] at q
        exact q
  · cases h
theorem stepOk_good {s : Nat × Nat} {n : Nat} (h1 : s.1 < n) (h2 : s.2 ≤ 3) : stepOk (stepD s) n = true := by
  have e1 : ((s.1 : Nat) : Int) ≤ (n : Int) - 1 := by omega
  have e2 : ((s.2 : Nat) : Int) ≤ 3 := by omega
  simp [stepOk, stepD, btw, e1, e2]
theorem rowOk_good {t : Tab} {n : Nat} (g : Good t n) {r : List (Nat × Nat)} (hr : r ∈ t) : rowOk (rowD r) t.length = true := by
  have l := g.rows r hr
  have n2 := g.n2
  have n3 := g.n3
  have e1 : tupN (.tuple (r.map stepD)) 2 3 = true := by
    simp [tupN]
    omega
  show (tupN (.tuple (r.map stepD)) 2 3 && (r.map stepD).all fun e => stepOk e t.length) = true
  rw [e1, Bool.true_and, List.all_map, List.all_eq_true]
  intro s hs
  obtain ⟨a, b⟩ := g.steps r hr s hs
  exact stepOk_good a b
theorem scan_good {n l : Nat} : ∀ {t : Tab} {k : Nat}, (∀ r ∈ t, rowOk (rowD r) n = true ∧ r.length = l) → scan n l (t.map rowD) k = none
  | [], _, _ => rfl
  | r :: t, k, h => by
    have h0 := h r (by simp)
    show (if rowOk (rowD r) n = true ∧ (items (rowD r)).length = l then scan n l (t.map rowD) (k + 1) else some k) = none
    rw [if_pos ⟨h0.1, by simpa [items, rowD] using h0.2⟩]
    exact scan_good fun x hx => h x (by simp [hx])
theorem good_fault {t : Tab} {n : Nat} (g : Good t n) : fault (tabD t) = none := by
  have g1 := g.len1
  have g6 := g.len6
  have et : tupN (tabD t) 1 6 = true := by
    show (decide (1 ≤ ((t.map rowD).length : Int)) && decide (((t.map rowD).length : Int) ≤ 6)) = true
    rw [List.length_map, Bool.and_eq_true, decide_eq_true_eq, decide_eq_true_eq]
    omega
  unfold fault
  rw [if_pos et]
  have l0 : (items ((items (tabD t)).getD 0 .none)).length = n := by
    cases t with
    | nil => simp at g1
    | cons r t =>
      have := g.rows r (by simp)
      simpa [items, tabD, rowD] using this
  have ln : ((items (tabD t)).length : Int) = ((t.length : Nat) : Int) := by simp [items, tabD]
  rw [l0, ln]
  have q : scan (t.length : Int) n (t.map rowD) 0 = none := scan_good fun r hr => ⟨rowOk_good g hr, g.rows r hr⟩
  exact congrArg (Option.map some) q
end Wb
namespace Wb
open PySem L2
mutual
theorem fine_lay : ∀ (n : Nat) (d : PyData), fine n d → d.canLay0 = true ∧ d.depth ≤ n
  | 0, _, h => h.elim
  | n + 1, .none, _ => ⟨rfl, Nat.zero_le _⟩
  | n + 1, .bool _, _ => ⟨rfl, Nat.zero_le _⟩
  | n + 1, .int _, _ => ⟨rfl, Nat.zero_le _⟩
  | n + 1, .str x, h => by
    have h' : PyData.strOk x = true := h
    exact ⟨by simpa [PyData.canLay0] using h', Nat.zero_le _⟩
  | n + 1, .list ds, h => by
    obtain ⟨a, b⟩ := fine_layAll n ds h.2
    exact ⟨by simpa [PyData.canLay0] using a, by simp only [PyData.depth]; omega⟩
  | n + 1, .tuple ds, h => by
    obtain ⟨a, b⟩ := fine_layAll n ds h.2
    exact ⟨by simpa [PyData.canLay0] using a, by simp only [PyData.depth]; omega⟩
  | n + 1, .dict _, h => h.elim
theorem fine_layAll : ∀ (n : Nat) (ds : List PyData), (∀ e ∈ ds, fine n e) → PyData.canLayAll0 ds = true ∧ PyData.depthAll ds ≤ n
  | n, [], _ => ⟨rfl, Nat.zero_le _⟩
  | n, d :: ds, h => by
    obtain ⟨a, b⟩ := fine_lay n d (h d (by simp))
    obtain ⟨a2, b2⟩ := fine_layAll n ds fun e he => h e (by simp [he])
    exact ⟨by simp [PyData.canLayAll0, a, a2], by simp only [PyData.depthAll]; omega⟩
end
theorem fine_shaped {n : Nat} {d : PyData} (h : fine n d) (hn : n ≤ 60) : SeqAt.shaped d = true := by
  obtain ⟨a, b⟩ := fine_lay n d h
  unfold SeqAt.shaped
  rw [a, Bool.true_and, decide_eq_true_eq]
  omega
theorem in23 (n : Nat) : inV (.int (n : Int)) [.int 2, .int 3] = decide (n = 2 ∨ n = 3) := by
  by_cases h : n = 2
  · subst h; rfl
  · by_cases h3 : n = 3
    · subst h3; rfl
    · rw [decide_eq_false (by omega)]
      have e2 : ((n : Int) = 2) = False := by simp; omega
      have e3 : ((n : Int) = 3) = False := by simp; omega
      simp [inV, eqV]
      omega
end Wb
/-! Own classes: making one where the making may raise, their own == and len, isinstance of a caught error that has fields. -/
namespace Wb
open PySem PySem.Spec PyProof.Rows L2
section
variable {X : Cx} {CX : CXT} {k : Nat} {f C : Addr} {fd : FuncData} {ps : List Str} {sp : Sp} {E : L2.St → XK} {x : Str} {p pos : Pos} {e : Expr} {es : List Expr} {t : TA}
/-- C(e, ..), what is raised wished for at the slots -/
def tMakeS (C : Addr) (sp : Sp) (E : L2.St → XK) (t : TA) : TE := fun σ H Q => t σ H fun vs H1 => ∀ y dy, H1 y = none → H1 dy = none → dy ≠ y →
  sp (.ref y :: vs) (upd (upd H1 dy (.own y)) y (.ins C dy [])) (fun v H2 => v = .non ∧ Q (.ref y) H2) (E σ)
theorem make_at {pins : List (Addr × Obj)} {σ : L2.St} {H : Hp} {s : Shared} {Q : VK} {E1 : XK} {us : List Value} {vs : List V} (M : Mk X.K C f) (F : FnOk X.prog X.w X.K X.mg X.base CX k f fd ps sp) (hr : Room (k + 1) X.A) (hb : Binds X.K fd ps [])
    (hx : PassesAt CX X σ E1) (I : Inv X pins σ H s) (r : Vals vs us)
    (h : ∀ y dy, H y = none → H dy = none → dy ≠ y → sp (.ref y :: vs) (upd (upd H dy (.own y)) y (.ins C dy [])) (fun v H2 => v = .non ∧ Q (.ref y) H2) E1) :
    wpAny (model X.prog X.w) X.A (call (.ref C) us) (EP X pins σ Q) X.xe s := by
  have q0 := h (s.heap.objs.size + 1) s.heap.objs.size (I.hok.fresh (Nat.le_succ _)) (I.hok.fresh (Nat.le_refl _)) (Nat.ne_of_lt (Nat.lt_succ_self _))
  have J := Inv.made (C := C) I
  have rr : Vals (V.ref (s.heap.objs.size + 1) :: vs) (Value.ref (s.heap.objs.size + 1) :: us) := .cons rfl r
  have len : (Value.ref (s.heap.objs.size + 1) :: us).length = ps.length := rr.length.symm.trans (F.len _ _ _ _ q0)
  have bd := hb _ (Value.ref (s.heap.objs.size + 1) :: us) J.kIn (by rw [List.append_nil]; exact len)
  rw [List.append_nil] at bd
  refine wpAny_call (make_map (f := f) I.kIn M.makes M.init (beq_iff_eq.mp M.fn) (codeAny_mono (F.run _ X.stack _ _ ⟨Value.ref (s.heap.objs.size + 1) :: us, []⟩ _ _ _ E1 (hr.make C us []) (J.env0.make C us []) bd rr q0) fun o s' g => ?_))
  match o, g with
  | .error er, g => exact hx pins _ _ er s' J g
  | .ok (.ret u), g =>
    obtain ⟨v, H', I3, rv, ev, q3⟩ := J.after g
    subst ev
    exact ⟨rv, V.ref (s.heap.objs.size + 1), H', I3, rfl, q3⟩
theorem pe_makeS (M : Mk X.K C f) (F : FnOk X.prog X.w X.K X.mg X.base CX k f fd ps sp) (hr : Room (k + 1) X.A) (hg : Gl X x) (hm : X.mg x = some (.ref C)) (hb : Binds X.K fd ps []) (hx : ∀ σ, PassesAt CX X σ (E σ)) (ha : PA X (e :: es) t)
    (hdb : (x == ("__debug__" : Str)) = false := by decide) (he : starEach (e :: es) X.env = (false, eval e X.env) :: starEach es X.env := by rfl) (hpl : (backTo pos (starEach es X.env)).any (·.1) = false := by rfl) :
    PE X (.Call (.Name x p) (e :: es) [] pos) (tMakeS C sp E t) :=
  ⟨fun pins s σ H Q I h => wpAny_Call_Name_kw (ld_glob I hg hm
    (PySem.W.callWith_K (h₀ := X.base) I.ok.mod.kin M.kp (thn (ha.run pos pins s σ H _ I h) fun us s1 ⟨vs, H1, I1, r, q⟩ => ⟨I1.kIn, make_at M F hr hb (hx σ) I1 r q⟩) he hpl) hdb)⟩
end
/-! ### x == y by an own __eq__ that hands back a bool -/
/-- the right one's type: an instance of the same class, or a tuple -/
inductive EqTo (K : PySem.W.Frag) (C : Addr) (H : Hp) : V → Prop where
  | ins {b dx : Addr} {fs : List (Str × V)} (h : H b = some (.ins C dx fs)) : EqTo K C H (.ref b)
  | tup {b : Addr} {xs : List V} (h : SqT K H b xs) (n : PySem.W.subIn K (.type "tuple") (.ref C) = some false) : EqTo K C H (.ref b)
def rOwnEq (K : PySem.W.Frag) (C : Addr) (sp : Sp) : R2 := fun x y H Q => ∃ a dx fs, x = .ref a ∧ H a = some (.ins C dx fs) ∧ EqTo K C H y ∧ sp [x, y] H (fun v H' => (∃ b, v = .bl b) ∧ Q v H') E0
theorem op_ownEq {X : Cx} {k : Nat} {f C : Addr} {fd : FuncData} {ps : List Str} {sp : Sp} (F : FnOk X.prog X.w X.K X.mg X.base CX0 k f fd ps sp) (hr : Room k X.A)
    (hs : PySem.W.findIn X.K (.ref C) "__eq__" = some (some (.ref f))) (hf : PySem.W.isFn X.K (.ref f) = true) (hb : Binds X.K fd ps []) : OpR X (compareOp .Eq) (rOwnEq X.K C sp) := by
  intro pins s σ H x y u v Q I rx ry h
  obtain ⟨a, dx, fs, rfl, ha, hy, hsp⟩ := h
  cases rx
  obtain ⟨mA, J0, _⟩ := ins_get I.hok ha
  obtain ⟨od, J, _⟩ := J0.look
  obtain ⟨m, hF⟩ := I.fr
  have r2 : Vals [V.ref a, y] [Value.ref a, v] := .cons rfl (.cons ry .nil)
  have len := F.len _ _ _ _ hsp
  have bd : _ := hb s [.ref a, v] I.kIn (by simpa using len)
  have run : wpAny (model X.prog X.w) X.A (call (.ref f) [.ref a, v]) (PySem.W.CmpBack (EP X pins σ Q)) X.xe s := by
    refine wpAny_call (codeAny_mono (F.run X.A X.stack s H ⟨[.ref a, v], []⟩ [.ref a, v] [.ref a, y] _ E0 hr I.env0 (by simpa using bd) r2 hsp) fun o s' g => ?_)
    match o, g with
    | .error er, g => exact g.elim
    | .ok (.ret z), g =>
      obtain ⟨z', H', I', rz, ⟨b, eb⟩, q⟩ := I.after g
      subst eb
      cases rz
      exact ⟨.bl b, H', I', rfl, q⟩
  cases hy with
  | ins hb' =>
    cases ry
    obtain ⟨mB, K0, _⟩ := ins_get I.hok hb'
    obtain ⟨od', K1, _⟩ := K0.look
    exact PySem.W.cmp_K (op := .Eq) (tb := .ref C) hr.units0 hF I.ok.mod.kin J K1.type (by simp [PySem.W.notFirst]) hs hf run
  | tup hb' n =>
    cases ry
    obtain ⟨its, rv, ⟨o, ho, hc, _⟩, _⟩ := I.tuple hb'
    exact PySem.W.cmp_K (op := .Eq) (tb := .type "tuple") hr.units0 hF I.ok.mod.kin J (PySem.W.kitAt_ty _ _ ⟨o, ho, hc⟩) (by simp [PySem.W.notFirst, n]) hs hf run
end Wb
namespace Wb
open PySem PySem.Spec PyProof.Rows L2
/-- len(x) by an own __len__ -/
def rOwnLen (C : Addr) (sp : Sp) : List V → Hp → VK → Prop := fun xs H Q => ∃ a dx fs, xs = [.ref a] ∧ H a = some (.ins C dx fs) ∧ sp [.ref a] H (fun v H' => (∃ n : Nat, v = .int (n : Int) ∧ n ≤ 1000) ∧ Q v H') E0
theorem call_ownLen {X : Cx} {k : Nat} {f C : Addr} {fd : FuncData} {ps : List Str} {sp : Sp} (F : FnOk X.prog X.w X.K X.mg X.base CX0 k f fd ps sp) (hr : Room (k + 1) X.A)
    (hs : PySem.W.findIn X.K (.ref C) "__len__" = some (some (.ref f))) (hf : PySem.W.isFn X.K (.ref f) = true) (hb : Binds X.K fd ps []) : CallR X (.builtin "len") (rOwnLen C sp) := by
  intro pins s σ H xs us Q I r h
  obtain ⟨a, dx, fs, rfl, ha, hsp⟩ := h
  obtain ⟨u, rfl, ru⟩ := vals1 r
  cases ru
  obtain ⟨mA, J0, _⟩ := ins_get I.hok ha
  obtain ⟨od, J, _⟩ := J0.look
  obtain ⟨m, hF⟩ := I.fr
  have len := F.len _ _ _ _ hsp
  have bd := hb s [.ref a] I.kIn (by simpa using len)
  refine PySem.W.len_K hF I.ok.mod.kin J hs hf (wpAny_call (codeAny_mono (F.run X.A.in1 X.stack s H ⟨[.ref a], []⟩ [.ref a] [.ref a] _ E0 hr.in1 I.env0.in1 (by simpa using bd) (.cons rfl .nil) hsp) fun o s' g => ?_))
  match o, g with
  | .error er, g => exact g.elim
  | .ok (.ret z), g =>
    obtain ⟨z', H', I', rz, ⟨n, en, hn⟩, q⟩ := I.after g
    subst en
    obtain ⟨tk, ez⟩ := rz
    subst ez
    exact ⟨⟨Int.natCast_nonneg _, Int.lt_of_le_of_lt (Int.ofNat_le.mpr hn) (by decide)⟩, .int (n : Int), H', I'.tok _, ⟨_, rfl⟩, q⟩
end Wb
namespace Wb
open PySem PySem.Spec PyProof.Rows L2
/-- isinstance(e, c), e the exception that the suite holds (its class cls), with its dict at d -/
def rIsX (K : PySem.W.Frag) (D a : Addr) (cls : Value) (d : Option Addr) : List V → Hp → VK → Prop := fun xs H Q => ∃ (c : V) (cv : Value) (b : Bool) (dd : Addr) (fs : List (Str × V)), xs = [.ref a, c] ∧ cls = .ref D ∧ d = some dd ∧
  (∀ u, RelV c u → u = cv) ∧ PySem.W.kitOne K (.ref D) cv = some b ∧ H dd = some (.xd fs) ∧ Q (.bl b) H
theorem call_isX {X : Cx} {a D : Addr} {cls : Value} {d : Option Addr} {oe : Obj} {pn : List (Addr × Obj)} (C : ExcC X.K D) (hz : Zc cls d oe) (hf : ∃ vs, oe.data = .fields vs) : CallR (X.suite a ((a, oe) :: pn)) (.builtin "isinstance") (rIsX X.K D a cls d) := by
  intro pins s σ H xs us Q I r h
  obtain ⟨c, cv, b, dd, fs, rfl, rfl, rfl, hcv, e, hd, q⟩ := h
  obtain ⟨u1, u2, rfl, ra, rt⟩ := vals2 r
  cases ra
  have ec := hcv _ rt
  subst ec
  obtain ⟨hget, _⟩ := I.pin (a, oe) (List.mem_append.mpr (.inl List.mem_cons_self))
  obtain ⟨mA, hns, _⟩ := (show ObjOk X.prog X.w H s.heap dd (.xd fs) from I.hok dd _ hd)
  obtain ⟨od, ho, _⟩ := lookIn_ns hns
  obtain ⟨vs, hv⟩ := hf
  have J : PySem.W.InstAt s.heap a oe D (some od) := ⟨hget, hz.1, by unfold PySem.W.notCls; rw [hv] <;> rfl, by rw [hz.2]; exact ho⟩
  have hcl : (PySem.W.clsIn X.K D).isSome = true := by
    obtain ⟨cd, hc, _⟩ := PySem.W.any_some C.hd
    rw [hc]
    rfl
  exact PySem.W.kia_one (PySem.W.kitx_exc hcl C.hg C.hk C.hs C.ha C.hn C.ht C.hm) I.kIn J e (fun z => nomatch z) fun tk => ⟨.bl b, H, I.kept (t' := tk) fun _ _ z => z, rfl, q⟩
/-! ### isinstance(x, C), C an own class -/
structure OwnIs (K : PySem.W.Frag) (C : Addr) : Prop where
  cl : Cls K C
  ha : PySem.W.findIn K (.ref C) "__class__" = some (some (.builtin "object.__class__"))
  hn : PySem.W.specialIn K (.builtin "object.__class__") "__get__" = some (some (.builtin "getset_descriptor.__get__"))
  ht : PySem.W.takesIn K (.builtin "object.__class__") = some true
  hm : PySem.W.mroIn K C (.type "object") = some true
  ty : PySem.W.typeIn K (.ref C) = some (.type "type")
theorem OwnIs.isome {K : PySem.W.Frag} {C : Addr} (o : OwnIs K C) : (PySem.W.clsIn K C).isSome = true := by
  obtain ⟨cd, hc, _⟩ := PySem.W.any_some o.cl.hd
  rw [hc]
  rfl
theorem OwnIs.tyx {K : PySem.W.Frag} {C : Addr} (o : OwnIs K C) {H : Hp} {a dx : Addr} {fs : List (Str × V)} (h : H a = some (.ins C dx fs)) : TyX K H (.ref a) (.ref C) := .base (TyOf.ins h o.cl o.ha o.hn o.ht o.hm)
theorem kit_self {K : PySem.W.Frag} {C : Addr} : PySem.W.kitOne K (.ref C) (.ref C) = some true := by
  unfold PySem.W.kitOne
  rw [if_pos (beq_self_eq_true _)]
theorem sub_plain {K : PySem.W.Frag} {C : Addr} (d : PyData) : PySem.W.subIn K (.type (kindOf d)) (.ref C) = some false := by
  cases d <;> rfl
theorem OwnIs.plain {K : PySem.W.Frag} {C : Addr} (o : OwnIs K C) (d : PyData) : PySem.W.kitOne K (.type (kindOf d)) (.ref C) = some false := by
  unfold PySem.W.kitOne
  rw [if_neg (by intro z; cases d <;> cases z)]
  show (if ((PySem.W.clsIn K C).isSome && PySem.W.typeIn K (.ref C) == some (.type "type")) = true then PySem.W.subIn K (.type (kindOf d)) (.ref C) else none) = some false
  rw [o.isome, o.ty, if_pos (by rfl)]
  exact sub_plain d
theorem kit_sub {K : PySem.W.Frag} {C D : Addr} {b : Bool} (hc : (PySem.W.clsIn K D).isSome = true) (ht : PySem.W.typeIn K (.ref D) = some (.type "type")) (hs : PySem.W.subIn K (.ref C) (.ref D) = some b) (ne : C ≠ D) : PySem.W.kitOne K (.ref C) (.ref D) = some b := by
  unfold PySem.W.kitOne
  rw [if_neg (by intro z; exact ne (Value.ref.inj (beq_iff_eq.mp z)))]
  show (if ((PySem.W.clsIn K D).isSome && PySem.W.typeIn K (.ref D) == some (.type "type")) = true then PySem.W.subIn K (.ref C) (.ref D) else none) = some b
  rw [hc, ht, if_pos (by rfl)]
  exact hs
end Wb
namespace Wb
open PySem L2
theorem kit_any {K : PySem.W.Frag} {C D : Addr} (hc : PySem.W.isClsIn K D = true) (ht : PySem.W.typeIn K (.ref D) = some (.type "type")) (hs : PySem.W.subIn K (.ref C) (.ref D) = some true) : PySem.W.kitOne K (.ref C) (.ref D) = some true := by
  by_cases e : C = D
  · rw [e]
    exact kit_self
  · exact kit_sub hc ht hs e
/-- an error of the class at S, caught by that class -/
theorem exm_own {K : PySem.W.Frag} {S : Addr} (a : PySem.W.subIn K (.ref S) (.type "BaseException") = some true) (b : PySem.W.isClsIn K S = true) (c : PySem.W.typeIn K (.ref S) = some (.type "type")) (d : PySem.W.subIn K (.ref S) (.ref S) = some true) :
    PySem.W.exmOne K (.ref S) (.ref S) = some true := by
  have b' : (PySem.W.clsIn K S).isSome = true := b
  show (if (PySem.W.subIn K (.ref S) (.type "BaseException") == some true) = true then (if ((PySem.W.clsIn K S).isSome && PySem.W.typeIn K (.ref S) == some (.type "type")) = true then PySem.W.subIn K (.ref S) (.ref S) else none) else none) = _
  rw [a, b', c, d]
  rfl
end Wb
namespace Wb
open PySem L2
theorem exc_same {H : Hp} {a dx C : Addr} {o1 o2 o3 o4 : HO} (ha : H a = none) (hd : (upd H a o1) dx = none) (ne : dx ≠ a) : Same H (upd (del (upd (upd (upd H a o1) dx o2) a o3) a) dx o4) := fun b o hb => by
  have b1 : b ≠ a := ne_of_none hb ha
  have hd' : H dx = none := by rw [upd_ne ne] at hd; exact hd
  have b2 : b ≠ dx := ne_of_none hb hd'
  rw [upd_ne b2, del_ne b1, upd_ne b1, upd_ne b2, upd_ne b1]
  exact hb
/-- BadX.__init__(self, index) -/
def spBad (C : Addr) : Sp := fun vs H Q _ => ∃ (a : Addr) (v : V), vs = [.ref a, v] ∧ H a = some (exo a C none) ∧
  ∀ dx, H dx = none → dx ≠ a → Q .non (upd (upd H dx (exd dx [("index", v)])) a (exo a C (some dx)))
/-- the raise's own end, from what the promise says -/
theorem bad_made {H : Hp} {a C : Addr} {v : V} {Q : Value → Option Addr → Hp → Prop} (na : H a = none) (q : ∀ dd H', Same H H' → H' dd = some (.xd [("index", v)]) → Q (.ref C) (some dd) H') :
    spBad C [.ref a, v] (upd H a (exo a C none)) (fun z H2 => z = .non ∧ ∃ (d : Addr) (fs : List (Str × V)), H2 a = some (exo a C (some d)) ∧ H2 d = some (exd d fs) ∧ H d = none ∧ Q (.ref C) (some d) (upd (del H2 a) d (.xd fs))) (fun _ _ _ => False) :=
  ⟨a, v, rfl, upd_same, fun dx nd ne => ⟨rfl, dx, _, upd_same, (upd_ne ne).trans upd_same, by rw [upd_ne ne] at nd; exact nd, q dx _ (exc_same (C := C) na nd ne) upd_same⟩⟩
end Wb
/-! Written data, slices and sums of tuples: rules that tell the data alone. -/
namespace Wb
open PySem PySem.Spec PyProof.Rows L2
theorem PE.weak {X : Cx} {e : Expr} {t t' : TE} (h : PE X e t) (f : ∀ σ H Q, t' σ H Q → t σ H Q) : PE X e t' := ⟨fun pins s σ H Q I q => h.run pins s σ H Q I (f σ H Q q)⟩
theorem PA.weak {X : Cx} {es : List Expr} {t t' : TA} (h : PA X es t) (f : ∀ σ H Q, t' σ H Q → t σ H Q) : PA X es t' := ⟨fun pos pins s σ H Q I q => h.run pos pins s σ H Q I (f σ H Q q)⟩
/-- both stand -/
def Two (h l : Addr) (H : Hp) : Prop := H h ≠ none ∧ H l ≠ none
theorem Two.same {h l : Addr} {H H' : Hp} (t : Two h l H) (s : Same H H') : Two h l H' := by
  obtain ⟨a, b⟩ := t
  refine ⟨fun z => a (s.free z), fun z => b (s.free z)⟩
theorem Src.two {h l : Addr} {H : Hp} (S : Src h l H) : Two h l H := by
  obtain ⟨_, st, k, cs, a, b, _⟩ := S
  exact ⟨by rw [a]; simp, by rw [b]; simp⟩
theorem Two.new {h l p : Addr} {H : Hp} (t : Two h l H) (np : H p = none) (o : HO) : cut h l (upd H p o) p = some o :=
  cut_of upd_same (fun e => t.1 (e ▸ np)) (fun e => t.2 (e ▸ np))
theorem cut_step {h l p : Addr} {H : Hp} (np : H p = none) (o : HO) : Same (cut h l H) (cut h l (upd H p o)) := (Old.of (same_new np o)).cut
theorem cut_sm {h l : Addr} {H H' : Hp} (s : Same H H') : Same (cut h l H) (cut h l H') := (Old.of s).cut
theorem dp_cut {K : PySem.W.Frag} {h l : Addr} {H : Hp} {v : V} {d : PyData} (x : Dp K (cut h l H) v d) : Dp K H v d := dp_same x (cut_same h l H)
/-- an expression that lays the data d, apart from h and l -/
def tD (K : PySem.W.Frag) (d : PyData) : TE := fun _ H Q => ∃ h l, Two h l H ∧ ∀ v H', Same H H' → Dp K (cut h l H') v d → Q v H'
def tDs (K : PySem.W.Frag) (ds : List PyData) : TA := fun _ H Q => ∃ h l, Two h l H ∧ ∀ vs H', Same H H' → DpAll K (cut h l H') vs ds → Q vs H'
section
variable {X : Cx} {pos : Pos}
theorem pd_int {i : Int} {j : Nat} : PE X (.Constant (.int i) j pos) (tD X.K (.int i)) := PE.weak pe_int fun σ H Q ⟨h, l, _, q⟩ => q _ H (Same.refl H) (.int i)
theorem pd_bl {b : Bool} {j : Nat} : PE X (.Constant (.bool b) j pos) (tD X.K (.bool b)) := PE.weak pe_bl fun σ H Q ⟨h, l, _, q⟩ => q _ H (Same.refl H) (.bl b)
theorem pd_non {j : Nat} : PE X (.Constant .none j pos) (tD X.K .none) := PE.weak pe_non fun σ H Q ⟨h, l, _, q⟩ => q _ H (Same.refl H) .non
theorem pd_str {x : Str} {j : Nat} : PE X (.Constant (.str x) j pos) (tD X.K (.str x)) := PE.weak pe_str fun σ H Q ⟨h, l, _, q⟩ => q _ H (Same.refl H) (.str x)
theorem pd_neg {i : Int} {j : Nat} {p : Pos} : PE X (.UnaryOp .USub (.Constant (.int i) j p) pos) (tD X.K (.int (-i))) := PE.weak (pe_un un_neg pe_int) fun σ H Q ⟨h, l, _, q⟩ => ⟨i, rfl, q _ H (Same.refl H) (.int (-i))⟩
theorem pda_nil : PA X [] (tDs X.K []) := PA.weak pa_nil fun σ H Q ⟨h, l, _, q⟩ => q [] H (Same.refl H) .nil
theorem pda_cons {e : Expr} {es : List Expr} {d : PyData} {ds : List PyData} (h : PE X e (tD X.K d)) (hs : PA X es (tDs X.K ds)) (st : starEach (e :: es) X.env = (false, eval e X.env) :: starEach es X.env := by rfl) : PA X (e :: es) (tDs X.K (d :: ds)) :=
  PA.weak (pa_cons h hs st) fun σ H Q ⟨h, l, tw, q⟩ => ⟨h, l, tw, fun v H1 s1 d1 => ⟨h, l, tw.same s1, fun vs H2 s2 d2 => q _ H2 (s1.trans s2) (.cons (dp_same d1 (cut_sm s2)) d2)⟩⟩
theorem small2 {n : Nat} (h : n ≤ 1000) : n ≤ sizeLine := Nat.le_of_lt (small1000 h)
theorem pd_tup {es : List Expr} {k : Nat} {ds : List PyData} (h : PA X es (tDs X.K ds)) (hl : ds.length ≤ 1000 := by decide) : PE X (.Tuple es k pos) (tD X.K (.tuple ds)) :=
  PE.weak (pe_tup h) fun σ H Q ⟨h, l, tw, q⟩ => ⟨h, l, tw, fun vs H1 s1 d1 => ⟨by rw [dps_len d1]; exact small2 hl, fun p np => q _ _ (s1.trans (same_new np _)) (.tup (SqT.of ((tw.same s1).new np _)) (dps_same d1 (cut_step np _)))⟩⟩
theorem pd_lst {es : List Expr} {ds : List PyData} (h : PA X es (tDs X.K ds)) (hl : ds.length ≤ 1000 := by decide) : PE X (.List es pos) (tD X.K (.list ds)) :=
  PE.weak (pe_lst h) fun σ H Q ⟨h, l, tw, q⟩ => ⟨h, l, tw, fun vs H1 s1 d1 => ⟨by rw [dps_len d1]; exact small2 hl, fun p np => q _ _ (s1.trans (same_new np _)) (.lst (SqL.of ((tw.same s1).new np _)) (dps_same d1 (cut_step np _)))⟩⟩
theorem dps_rep {K : PySem.W.Frag} {H : Hp} {vs : List V} {ds : List PyData} (h : DpAll K H vs ds) : ∀ n : Nat, DpAll K H (List.replicate n vs).flatten (List.replicate n ds).flatten
  | 0 => .nil
  | n + 1 => by
    rw [List.replicate_succ, List.replicate_succ, List.flatten_cons, List.flatten_cons]
    exact dps_app h (dps_rep h n)
/-- a tuple times a written number -/
theorem pd_rep {a : Expr} {i : Int} {j : Nat} {p : Pos} {ds : List PyData} (h : PE X a (tD X.K (.tuple ds))) (h1 : ds.length ≤ 1000 := by decide) (h0 : ds ≠ [] := by simp) (i2 : 2 ≤ i := by decide) (i1 : i ≤ 1000 := by decide) :
    PE X (.BinOp a .Mult (.Constant (.int i) j p) pos) (tD X.K (.tuple (List.replicate i.toNat ds).flatten)) :=
  PE.weak (pe_op op_repT h pe_int) fun σ H Q ⟨h, l, tw, q⟩ => ⟨h, l, tw, fun v H1 s1 d1 => by
    obtain ⟨b, xs, rfl, hx, hA⟩ := dp_tup d1
    have hl := dps_len hA
    refine ⟨b, i, xs, rfl, rfl, same_tup (cut_same h l H1) hx, fun e => h0 (by subst e; exact List.length_eq_zero_iff.mp hl.symm), i2, i1, by omega, fun q' nq => ?_⟩
    exact q _ _ (s1.trans (same_new nq _)) (.tup (SqT.of ((tw.same s1).new nq _)) (dps_rep (dps_same hA (cut_step nq _)) _))⟩
/-- a displayed list times a written number -/
theorem pd_repL {es : List Expr} {i : Int} {j : Nat} {p p2 : Pos} {ds : List PyData} (h : PA X es (tDs X.K ds)) (h1 : ds.length ≤ 1000 := by decide) (i0 : 0 ≤ i := by decide) (i1 : i ≤ 1000 := by decide) :
    PE X (.BinOp (.List es p2) .Mult (.Constant (.int i) j p) pos) (tD X.K (.list (List.replicate i.toNat ds).flatten)) :=
  PE.weak (pe_op op_rep (pe_lst h) pe_int) fun σ H Q ⟨h, l, tw, q⟩ => ⟨h, l, tw, fun vs H1 s1 d1 => by
    have hl := dps_len d1
    refine ⟨by rw [hl]; exact small2 h1, fun b nb => ⟨b, i, vs, rfl, rfl, upd_same, Int.le_trans (by decide) i0, Int.lt_of_le_of_lt i1 (by decide), ?_, fun q' nq => ?_⟩⟩
    · have : vs.length * i.toNat ≤ 1000 * 1000 := Nat.mul_le_mul (by omega) (by omega)
      exact Nat.le_trans this (by decide)
    · have s2 := s1.trans (same_new nb (.lst vs))
      exact q _ _ (s2.trans (same_new nq _)) (.lst (SqL.of ((tw.same s2).new nq _)) (dps_rep (dps_same (dps_same d1 (cut_step nb _)) (cut_step nq _)) _))⟩
/-- a slice of a tuple -/
def cutD (ds : List PyData) (lo hi : Option Int) : List PyData := (ds.drop (HT.sIx ds.length 0 lo)).take (HT.sIx ds.length ds.length hi - HT.sIx ds.length 0 lo)
theorem dps_drop {K : PySem.W.Frag} {H : Hp} : ∀ {ds : List PyData} {vs : List V} (n : Nat), DpAll K H vs ds → DpAll K H (vs.drop n) (ds.drop n)
  | _, _, 0, h => h
  | [], _, n + 1, h => by cases h; exact .nil
  | d :: ds, _, n + 1, h => by
    cases h with
    | cons a b => exact dps_drop n b
theorem dps_take {K : PySem.W.Frag} {H : Hp} : ∀ {ds : List PyData} {vs : List V} (n : Nat), DpAll K H vs ds → DpAll K H (vs.take n) (ds.take n)
  | _, _, 0, h => .nil
  | [], _, n + 1, h => by cases h; exact .nil
  | d :: ds, _, n + 1, h => by
    cases h with
    | cons a b => exact .cons a (dps_take n b)
theorem cut_dps {K : PySem.W.Frag} {H : Hp} {ds : List PyData} {vs : List V} (h : DpAll K H vs ds) (lo hi : Option Int) : DpAll K H (cutV vs lo hi) (cutD ds lo hi) := by
  unfold cutV cutD
  rw [dps_len h]
  exact dps_take _ (dps_drop _ h)
def rSlD (K : PySem.W.Frag) : V → Option Int → Option Int → Hp → VK → Prop := fun x lo hi H Q => ∃ h l ds, Two h l H ∧ Dp K (cut h l H) x (.tuple ds) ∧ ∀ v H', Same H H' → Dp K (cut h l H') v (.tuple (cutD ds lo hi)) → Q v H'
theorem sl_tupD : SlR X (rSlD X.K) := by
  intro pins s σ H x v vl vu lo hi sl Q I rx hs pl pu h
  obtain ⟨h, l, ds, tw, d, q⟩ := h
  obtain ⟨a, xs, rfl, hx, hA⟩ := dp_tup d
  have hl := dps_len hA
  refine sl_tupA pins s σ H _ v vl vu lo hi sl Q I rx hs pl pu ⟨a, xs, rfl, same_tup (cut_same h l H) hx, fun e => ?_, fun _ p np => ?_⟩
  · refine q _ H (Same.refl H) ?_
    have : cutD ds lo hi = ds := by
      unfold cutD
      rw [← hl, e.1, e.2, List.drop_zero, Nat.sub_zero, hl, List.take_length]
    rw [this]
    exact d
  · exact q _ _ (same_new np _) (.tup (SqT.of (tw.new np _)) (dps_same (cut_dps hA lo hi) (cut_step np _)))
/-- the sum of two tuples -/
def rCatD (K : PySem.W.Frag) : R2 := fun x y H Q => ∃ h l ds es, Two h l H ∧ Dp K (cut h l H) x (.tuple ds) ∧ Dp K (cut h l H) y (.tuple es) ∧ ds.length + es.length ≤ 1000 ∧ ∀ v H', Same H H' → Dp K (cut h l H') v (.tuple (ds ++ es)) → Q v H'
theorem op_catD : OpR X (binaryOp .Add) (rCatD X.K) := by
  intro pins s σ H x y v u Q I rx ry h
  obtain ⟨h, l, ds, es, tw, d, e, hl, q⟩ := h
  obtain ⟨a, xs, rfl, hx, hA⟩ := dp_tup d
  obtain ⟨b, ys, rfl, hy, hB⟩ := dp_tup e
  have l1 := dps_len hA
  have l2 := dps_len hB
  refine op_catA pins s σ H _ _ v u Q I rx ry ⟨a, b, xs, ys, rfl, rfl, same_tup (cut_same h l H) hx, same_tup (cut_same h l H) hy, by rw [l1, l2]; exact small2 hl, fun z => ?_, fun _ z => ?_, fun _ _ p np => ?_⟩
  · have : ds = [] := List.length_eq_zero_iff.mp (by rw [← l1, z]; rfl)
    subst this
    exact q _ H (Same.refl H) e
  · have : es = [] := List.length_eq_zero_iff.mp (by rw [← l2, z]; rfl)
    subst this
    rw [List.append_nil] at q
    exact q _ H (Same.refl H) d
  · exact q _ _ (same_new np _) (.tup (SqT.of (tw.new np _)) (dps_same (dps_app hA hB) (cut_step np _)))
end
end Wb
namespace Wb
open PySem L2
/-- no promise yet -/
def spNone : Sp := fun _ _ _ _ => False
def top (i : Nat) : Stmt := PySem.Challenge.pw_wroteback_k01_tables_refused.main.body.getD i (.Pass ⟨0, 0, 0, 0⟩)
abbrev s_BadTable_init : Stmt := inClass (top 2) 0
abbrev n_BadTable_init : List Str := ["self", "index"]
theorem sc_BadTable_init : FnScope n_BadTable_init ["self", "index"] (defScope s_BadTable_init) := ⟨rfl, rfl, rfl, by decide +kernel, rfl, by decide +kernel, by decide +kernel⟩
abbrev s_is_between : Stmt := top 5
abbrev n_is_between : List Str := ["value", "least", "most"]
theorem sc_is_between : FnScope n_is_between ["value", "least", "most"] (defScope s_is_between) := ⟨rfl, rfl, rfl, by decide +kernel, rfl, by decide +kernel, by decide +kernel⟩
abbrev s_is_tuple_of : Stmt := top 6
abbrev n_is_tuple_of : List Str := ["value", "least", "most"]
theorem sc_is_tuple_of : FnScope n_is_tuple_of ["value", "least", "most"] (defScope s_is_tuple_of) := ⟨rfl, rfl, rfl, by decide +kernel, rfl, by decide +kernel, by decide +kernel⟩
abbrev s_is_step : Stmt := top 12
abbrev n_is_step : List Str := ["value", "stands"]
theorem sc_is_step : FnScope n_is_step ["value", "stands"] (defScope s_is_step) := ⟨rfl, rfl, rfl, by decide +kernel, rfl, by decide +kernel, by decide +kernel⟩
abbrev s_is_table_row : Stmt := top 13
abbrev n_is_table_row : List Str := ["value", "stands", "step"]
theorem sc_is_table_row : FnScope n_is_table_row ["value", "stands"] (defScope s_is_table_row) := ⟨rfl, rfl, rfl, by decide +kernel, rfl, by decide +kernel, by decide +kernel⟩
abbrev s_check_table : Stmt := top 14
abbrev n_check_table : List Str := ["table", "index", "row"]
theorem sc_check_table : FnScope n_check_table ["table"] (defScope s_check_table) := ⟨rfl, rfl, rfl, by decide +kernel, rfl, by decide +kernel, by decide +kernel⟩
abbrev s_Writer_init : Stmt := inClass (top 11) 0
abbrev n_Writer_init : List Str := ["self", "table"]
theorem sc_Writer_init : FnScope n_Writer_init ["self", "table"] (defScope s_Writer_init) := ⟨rfl, rfl, rfl, by decide +kernel, rfl, by decide +kernel, by decide +kernel⟩
abbrev s_Writer_table : Stmt := inClass (top 11) 1
abbrev n_Writer_table : List Str := ["self"]
theorem sc_Writer_table : FnScope n_Writer_table ["self"] (defScope s_Writer_table) := ⟨rfl, rfl, rfl, by decide +kernel, rfl, by decide +kernel, by decide +kernel⟩
abbrev s_Writer_letters : Stmt := inClass (top 11) 2
abbrev n_Writer_letters : List Str := ["self"]
theorem sc_Writer_letters : FnScope n_Writer_letters ["self"] (defScope s_Writer_letters) := ⟨rfl, rfl, rfl, by decide +kernel, rfl, by decide +kernel, by decide +kernel⟩
abbrev s_Writer_len : Stmt := inClass (top 11) 3
abbrev n_Writer_len : List Str := ["self"]
theorem sc_Writer_len : FnScope n_Writer_len ["self"] (defScope s_Writer_len) := ⟨rfl, rfl, rfl, by decide +kernel, rfl, by decide +kernel, by decide +kernel⟩
abbrev s_Writer_eq : Stmt := inClass (top 11) 4
abbrev n_Writer_eq : List Str := ["self", "other"]
theorem sc_Writer_eq : FnScope n_Writer_eq ["self", "other"] (defScope s_Writer_eq) := ⟨rfl, rfl, rfl, by decide +kernel, rfl, by decide +kernel, by decide +kernel⟩
abbrev s_law_mix : Stmt := top 16
abbrev n_law_mix : List Str := ["_law_script", "_law_seed", "_law_state", "_law_cell"]
theorem sc_law_mix : FnScope n_law_mix ["_law_script", "_law_seed"] (defScope s_law_mix) := ⟨rfl, rfl, rfl, by decide +kernel, rfl, by decide +kernel, by decide +kernel⟩
abbrev s_law_next : Stmt := top 17
abbrev n_law_next : List Str := ["_law_h", "_law_cap", "_law_cell"]
theorem sc_law_next : FnScope n_law_next ["_law_h", "_law_cap"] (defScope s_law_next) := ⟨rfl, rfl, rfl, by decide +kernel, rfl, by decide +kernel, by decide +kernel⟩
abbrev s_law_alike : Stmt := top 18
abbrev n_law_alike : List Str := ["_law_found", "_law_due", "_law_k"]
theorem sc_law_alike : FnScope n_law_alike ["_law_found", "_law_due"] (defScope s_law_alike) := ⟨rfl, rfl, rfl, by decide +kernel, rfl, by decide +kernel, by decide +kernel⟩
abbrev s_law_pick : Stmt := top 19
abbrev n_law_pick : List Str := ["_law_h", "_law_things"]
theorem sc_law_pick : FnScope n_law_pick ["_law_h", "_law_things"] (defScope s_law_pick) := ⟨rfl, rfl, rfl, by decide +kernel, rfl, by decide +kernel, by decide +kernel⟩
abbrev s_law_table : Stmt := top 20
abbrev n_law_table : List Str := ["_law_h", "_law_kind", "_law_letters", "_law_some", "_law_stand", "_law_letter", "_law_many", "_law_cap", "_law_rows", "_law_first", "_law_same", "_law_row", "_law_sign"]
theorem sc_law_table : FnScope n_law_table ["_law_h"] (defScope s_law_table) := ⟨rfl, rfl, rfl, by decide +kernel, rfl, by decide +kernel, by decide +kernel⟩
abbrev s_law_step : Stmt := top 21
abbrev n_law_step : List Str := ["_law_thing", "_law_many", "_law_part"]
theorem sc_law_step : FnScope n_law_step ["_law_thing", "_law_many"] (defScope s_law_step) := ⟨rfl, rfl, rfl, by decide +kernel, rfl, by decide +kernel, by decide +kernel⟩
abbrev s_law_fault : Stmt := top 22
abbrev n_law_fault : List Str := ["_law_table_here", "_law_k", "_law_row", "_law_step_here"]
theorem sc_law_fault : FnScope n_law_fault ["_law_table_here"] (defScope s_law_fault) := ⟨rfl, rfl, rfl, by decide +kernel, rfl, by decide +kernel, by decide +kernel⟩
abbrev s_law_tried : Stmt := top 23
abbrev n_law_tried : List Str := ["_law_table_here", "_law_found", "error"]
theorem sc_law_tried : FnScope n_law_tried ["_law_table_here"] (defScope s_law_tried) := ⟨rfl, rfl, rfl, by decide +kernel, rfl, by decide +kernel, by decide +kernel⟩
abbrev s_law : Stmt := top 24
abbrev n_law : List Str := ["_law_script", "_law_h", "_law_turn", "_law_table_here", "_law_steps", "_law_odd", "_law_change", "_law_spot", "_law_row", "_law_at", "_law_found", "_law_fault_here"]
theorem sc_law : FnScope n_law ["_law_script"] (defScope s_law) := ⟨rfl, rfl, rfl, by decide +kernel, rfl, by decide +kernel, by decide +kernel⟩
/-- what stands behind the top, as the walk asks for it -/
structure Env (K : PySem.W.Frag) (mg : Str → Option Value) where
  f_BadTable_init : Addr
  d_BadTable_init : FuncData
  F_BadTable_init : Fun K "__init__" "BadTable.__init__" s_BadTable_init f_BadTable_init d_BadTable_init
  b_BadTable_init : Binds K d_BadTable_init ["self", "index"] []
  f_is_between : Addr
  d_is_between : FuncData
  F_is_between : Fun K "is_between" "is_between" s_is_between f_is_between d_is_between
  b_is_between : Binds K d_is_between ["value", "least", "most"] []
  m_is_between : mg "is_between" = some (.ref f_is_between)
  f_is_tuple_of : Addr
  d_is_tuple_of : FuncData
  F_is_tuple_of : Fun K "is_tuple_of" "is_tuple_of" s_is_tuple_of f_is_tuple_of d_is_tuple_of
  b_is_tuple_of : Binds K d_is_tuple_of ["value", "least", "most"] []
  m_is_tuple_of : mg "is_tuple_of" = some (.ref f_is_tuple_of)
  f_is_step : Addr
  d_is_step : FuncData
  F_is_step : Fun K "_is_step" "_is_step" s_is_step f_is_step d_is_step
  b_is_step : Binds K d_is_step ["value", "stands"] []
  m_is_step : mg "_is_step" = some (.ref f_is_step)
  f_is_table_row : Addr
  d_is_table_row : FuncData
  F_is_table_row : Fun K "_is_table_row" "_is_table_row" s_is_table_row f_is_table_row d_is_table_row
  b_is_table_row : Binds K d_is_table_row ["value", "stands"] []
  m_is_table_row : mg "_is_table_row" = some (.ref f_is_table_row)
  f_check_table : Addr
  d_check_table : FuncData
  F_check_table : Fun K "_check_table" "_check_table" s_check_table f_check_table d_check_table
  b_check_table : Binds K d_check_table ["table"] []
  m_check_table : mg "_check_table" = some (.ref f_check_table)
  f_Writer_init : Addr
  d_Writer_init : FuncData
  F_Writer_init : Fun K "__init__" "Writer.__init__" s_Writer_init f_Writer_init d_Writer_init
  b_Writer_init : Binds K d_Writer_init ["self", "table"] []
  f_Writer_table : Addr
  d_Writer_table : FuncData
  F_Writer_table : Fun K "table" "Writer.table" s_Writer_table f_Writer_table d_Writer_table
  b_Writer_table : Binds K d_Writer_table ["self"] []
  f_Writer_letters : Addr
  d_Writer_letters : FuncData
  F_Writer_letters : Fun K "letters" "Writer.letters" s_Writer_letters f_Writer_letters d_Writer_letters
  b_Writer_letters : Binds K d_Writer_letters ["self"] []
  f_Writer_len : Addr
  d_Writer_len : FuncData
  F_Writer_len : Fun K "__len__" "Writer.__len__" s_Writer_len f_Writer_len d_Writer_len
  b_Writer_len : Binds K d_Writer_len ["self"] []
  f_Writer_eq : Addr
  d_Writer_eq : FuncData
  F_Writer_eq : Fun K "__eq__" "Writer.__eq__" s_Writer_eq f_Writer_eq d_Writer_eq
  b_Writer_eq : Binds K d_Writer_eq ["self", "other"] []
  f_law_mix : Addr
  d_law_mix : FuncData
  F_law_mix : Fun K "_law_mix" "_law_mix" s_law_mix f_law_mix d_law_mix
  b_law_mix : Binds K d_law_mix ["_law_script", "_law_seed"] []
  m_law_mix : mg "_law_mix" = some (.ref f_law_mix)
  f_law_next : Addr
  d_law_next : FuncData
  F_law_next : Fun K "_law_next" "_law_next" s_law_next f_law_next d_law_next
  b_law_next : Binds K d_law_next ["_law_h", "_law_cap"] []
  m_law_next : mg "_law_next" = some (.ref f_law_next)
  f_law_alike : Addr
  d_law_alike : FuncData
  F_law_alike : Fun K "_law_alike" "_law_alike" s_law_alike f_law_alike d_law_alike
  b_law_alike : Binds K d_law_alike ["_law_found", "_law_due"] []
  m_law_alike : mg "_law_alike" = some (.ref f_law_alike)
  f_law_pick : Addr
  d_law_pick : FuncData
  F_law_pick : Fun K "_law_pick" "_law_pick" s_law_pick f_law_pick d_law_pick
  b_law_pick : Binds K d_law_pick ["_law_h", "_law_things"] []
  m_law_pick : mg "_law_pick" = some (.ref f_law_pick)
  f_law_table : Addr
  d_law_table : FuncData
  F_law_table : Fun K "_law_table" "_law_table" s_law_table f_law_table d_law_table
  b_law_table : Binds K d_law_table ["_law_h"] []
  m_law_table : mg "_law_table" = some (.ref f_law_table)
  f_law_step : Addr
  d_law_step : FuncData
  F_law_step : Fun K "_law_step" "_law_step" s_law_step f_law_step d_law_step
  b_law_step : Binds K d_law_step ["_law_thing", "_law_many"] []
  m_law_step : mg "_law_step" = some (.ref f_law_step)
  f_law_fault : Addr
  d_law_fault : FuncData
  F_law_fault : Fun K "_law_fault" "_law_fault" s_law_fault f_law_fault d_law_fault
  b_law_fault : Binds K d_law_fault ["_law_table_here"] []
  m_law_fault : mg "_law_fault" = some (.ref f_law_fault)
  f_law_tried : Addr
  d_law_tried : FuncData
  F_law_tried : Fun K "_law_tried" "_law_tried" s_law_tried f_law_tried d_law_tried
  b_law_tried : Binds K d_law_tried ["_law_table_here"] []
  m_law_tried : mg "_law_tried" = some (.ref f_law_tried)
  f_law : Addr
  d_law : FuncData
  F_law : Fun K "law" "law" s_law f_law d_law
  b_law : Binds K d_law ["_law_script"] []
  m_law : mg "law" = some (.ref f_law)
  c_WriterError : Addr
  m_WriterError : mg "WriterError" = some (.ref c_WriterError)
  c_BadTable : Addr
  m_BadTable : mg "BadTable" = some (.ref c_BadTable)
  ox_BadTable : OexC K c_BadTable
  ini_BadTable : PySem.W.findIn K (.ref c_BadTable) "__init__" = some (some (.ref f_BadTable_init))
  tyi_BadTable : PySem.W.typeIn K (.ref f_BadTable_init) = some (.type "function")
  xf_BadTable : XfC K c_BadTable
  ex_BadTable : ExcC K c_BadTable
  em_BadTable : PySem.W.exmOne K (.ref c_BadTable) (.ref c_BadTable) = some true
  ki_BadTable_WriterError : PySem.W.kitOne K (.ref c_BadTable) (.ref c_WriterError) = some true
  no_BadTable_index : PySem.W.findIn K (.ref c_BadTable) "index" = some none
  c_Writer : Addr
  m_Writer : mg "Writer" = some (.ref c_Writer)
  cl_Writer : Cls K c_Writer
  mk_Writer : Mk K c_Writer f_Writer_init
  at_Writer_eq : PySem.W.findIn K (.ref c_Writer) "__eq__" = some (some (.ref f_Writer_eq))
  fn_Writer_eq : PySem.W.isFn K (.ref f_Writer_eq) = true
  at_Writer_len : PySem.W.findIn K (.ref c_Writer) "__len__" = some (some (.ref f_Writer_len))
  fn_Writer_len : PySem.W.isFn K (.ref f_Writer_len) = true
  is_Writer : OwnIs K c_Writer
  no_Writer_table : NoAttr K c_Writer "_table"
  p_Writer_table : Addr
  pr_Writer_table : PropOf K c_Writer "table" p_Writer_table f_Writer_table
  p_Writer_letters : Addr
  pr_Writer_letters : PropOf K c_Writer "letters" p_Writer_letters f_Writer_letters
  t_GREATEST_WRITTEN : Tok
  m_GREATEST_WRITTEN : mg "GREATEST_WRITTEN" = some (.int 3 t_GREATEST_WRITTEN)
  t_LEAST_LETTERS : Tok
  m_LEAST_LETTERS : mg "LEAST_LETTERS" = some (.int 2 t_LEAST_LETTERS)
  t_MOST_LETTERS : Tok
  m_MOST_LETTERS : mg "MOST_LETTERS" = some (.int 3 t_MOST_LETTERS)
  t_MOST_STANDS : Tok
  m_MOST_STANDS : mg "MOST_STANDS" = some (.int 6 t_MOST_STANDS)
  z_bool : mg "bool" = none
  z_int : mg "int" = none
  z_isinstance : mg "isinstance" = none
  z_len : mg "len" = none
  z_tuple : mg "tuple" = none
  z_all : mg "all" = none
  z_enumerate : mg "enumerate" = none
  z_list : mg "list" = none
  z_max : mg "max" = none
  z_range : mg "range" = none
  z_str : mg "str" = none
/-- where the classes stand -/
def cls {K : PySem.W.Frag} {mg : Str → Option Value} (T : Env K mg) : Nat → Addr
  | 2 => T.c_Writer
  | _ => 0
end Wb
namespace Wb
open PySem L2
section
variable {P : Program} {w : World} {K : PySem.W.Frag} {mg : Str → Option Value} {base : Heap}
theorem ok_BadTable_init (T : Env K mg) : FnOk P w K mg base CX0 1 T.f_BadTable_init T.d_BadTable_init ["self", "index"] (spBad T.c_BadTable) := by
  refine T.F_BadTable_init.ok sc_BadTable_init (fun vs H Q E h => ?_) (fun cdv A outer s H vs Q E hr h => ?_)
  · (obtain ⟨a, v, rfl, _⟩ := h; rfl)
  obtain ⟨a, v, rfl, ha, q⟩ := h
  refine ⟨_, (pss_one (ps_ost (pv 0) (pv 1))), ?_⟩
  exact ⟨_, rfl, _, rfl, a, T.c_BadTable, rfl, T.ox_BadTable, T.no_BadTable_index, .inl ⟨ha, fun dx nd ne => q dx nd ne⟩⟩
end
end Wb
namespace Wb
open PySem L2
section
variable {P : Program} {w : World} {K : PySem.W.Frag} {mg : Str → Option Value} {base : Heap}
def spBetween (K : PySem.W.Frag) : Sp := fun vs H Q _ => ∃ (v : V) (d : PyData) (lo hi : Int), vs = [v, .int lo, .int hi] ∧ Dp K H v d ∧ Q (.bl (btw d lo hi)) H
theorem ok_is_between (T : Env K mg) : FnOk P w K mg base CX0 1 T.f_is_between T.d_is_between ["value", "least", "most"] (spBetween K) := by
  refine T.F_is_between.ok sc_is_between (fun vs H Q E h => ?_) (fun cdv A outer s H vs Q E hr h => ?_)
  · (obtain ⟨v, d, lo, hi, rfl, _⟩ := h; rfl)
  obtain ⟨v, d, lo, hi, rfl, hd, q⟩ := h
  refine ⟨_, (pss_one (ps_ret (pe_and (pe_callB (r := rIsi K) call_isi (by rfl) T.z_isinstance (by decide +kernel) (pa_cons (pv 0) (pa_cons (pe_bltn (v := .ty "int") (u := .type "int") (by rfl) T.z_int (by decide +kernel) rfl) pa_nil))) (pe_and (pe_not (pe_callB (r := rIsi K) call_isi (by rfl) T.z_isinstance (by decide +kernel) (pa_cons (pv 0) (pa_cons (pe_bltn (v := .ty "bool") (u := .type "bool") (by rfl) T.z_bool (by decide +kernel) rfl) pa_nil)))) (pe_one (pe_chain op_le op_le (pv 1) (pv 0) (pv 2))))))), ?_⟩
  refine ⟨_, rfl, _, _, _, _, _, rfl, .ty _, dp_ty hd, isA_eq (by simp), _, rfl, ?_⟩
  rw [isA_int]
  cases d with
  | int i =>
    refine iteT ⟨_, rfl, _, _, _, _, _, rfl, .ty _, dp_ty hd, isA_eq (by simp), _, rfl, _, rfl, ?_⟩
    rw [isA_bool]
    refine iteT ⟨_, rfl, v, rfl, lo, i, rfl, dp_int hd, _, rfl, ?_⟩
    have q' : Q (.bl (decide (lo ≤ i) && decide (i ≤ hi))) H := q
    refine ite2 (fun c => ?_) (fun c => ?_)
    · refine ⟨_, rfl, i, hi, dp_int hd, rfl, ?_⟩
      rw [c, Bool.true_and] at q'
      exact q'
    · rw [Bool.eq_false_iff.mpr c, Bool.false_and] at q'
      exact q'
  | bool b =>
    refine iteT ⟨_, rfl, _, _, _, _, _, rfl, .ty _, dp_ty hd, isA_eq (by simp), _, rfl, _, rfl, ?_⟩
    rw [isA_bool]
    exact iteF q
  | none => exact iteF q
  | str x => exact iteF q
  | list ds => exact iteF q
  | tuple ds => exact iteF q
  | dict ds => exact iteF q
end
end Wb
namespace Wb
open PySem L2
section
variable {P : Program} {w : World} {K : PySem.W.Frag} {mg : Str → Option Value} {base : Heap}
def spTuple (K : PySem.W.Frag) : Sp := fun vs H Q _ => ∃ (v : V) (d : PyData) (lo hi : Int), vs = [v, .int lo, .int hi] ∧ Dp K H v d ∧ Q (.bl (tupN d lo hi)) H
theorem ok_is_tuple_of (T : Env K mg) : FnOk P w K mg base CX0 1 T.f_is_tuple_of T.d_is_tuple_of ["value", "least", "most"] (spTuple K) := by
  refine T.F_is_tuple_of.ok sc_is_tuple_of (fun vs H Q E h => ?_) (fun cdv A outer s H vs Q E hr h => ?_)
  · (obtain ⟨v, d, lo, hi, rfl, _⟩ := h; rfl)
  obtain ⟨v, d, lo, hi, rfl, hd, q⟩ := h
  refine ⟨_, (pss_one (ps_ret (pe_and (pe_callB (r := rIsi K) call_isi (by rfl) T.z_isinstance (by decide +kernel) (pa_cons (pv 0) (pa_cons (pe_bltn (v := .ty "tuple") (u := .type "tuple") (by rfl) T.z_tuple (by decide +kernel) rfl) pa_nil))) (pe_one (pe_chain op_le op_le (pv 1) (pe_callB (r := rLenS K) call_lenS (by rfl) T.z_len (by decide +kernel) (pa_cons (pv 0) pa_nil)) (pv 2)))))), ?_⟩
  refine ⟨_, rfl, _, _, _, _, _, rfl, .ty _, dp_ty hd, isA_eq (by simp), _, rfl, ?_⟩
  rw [isA_tuple]
  cases d with
  | tuple ds =>
    obtain ⟨a, xs, rfl, hx, hA⟩ := dp_tup hd
    refine iteT ⟨_, rfl, _, rfl, a, xs, rfl, .inr hx, lo, _, rfl, rfl, _, rfl, ?_⟩
    have q' : Q (.bl (decide (lo ≤ (ds.length : Int)) && decide ((ds.length : Int) ≤ hi))) H := q
    rw [← dps_len hA] at q'
    refine ite2 (fun c => ?_) (fun c => ?_)
    · refine ⟨_, rfl, _, _, rfl, rfl, ?_⟩
      rw [c, Bool.true_and] at q'
      exact q'
    · rw [Bool.eq_false_iff.mpr c, Bool.false_and] at q'
      exact q'
  | int i => exact iteF q
  | bool b => exact iteF q
  | none => exact iteF q
  | str x => exact iteF q
  | list ds => exact iteF q
  | dict ds => exact iteF q
end
end Wb
namespace Wb
open PySem L2
section
variable {P : Program} {w : World} {K : PySem.W.Frag} {mg : Str → Option Value} {base : Heap}
theorem stepOk_no {d : PyData} {n : Int} (h : tupN d 2 2 = false) : stepOk d n = false := by
  unfold stepOk
  split
  · simp [tupN] at h
  · rfl
theorem tupN_two {d : PyData} (h : tupN d 2 2 = true) : ∃ a b, d = .tuple [a, b] := by
  cases d with
  | tuple ds =>
    match ds with
    | [a, b] => exact ⟨a, b, rfl⟩
    | [] => simp [tupN] at h
    | [a] => simp [tupN] at h
    | a :: b :: c :: r => simp [tupN] at h; omega
  | _ => simp [tupN] at h
def spStep (K : PySem.W.Frag) : Sp := fun vs H Q _ => ∃ (v : V) (d : PyData) (n : Int), vs = [v, .int n] ∧ Dp K H v d ∧ Q (.bl (stepOk d n)) H
theorem ok_is_step (T : Env K mg) : FnOk P w K mg base CX0 2 T.f_is_step T.d_is_step ["value", "stands"] (spStep K) := by
  refine T.F_is_step.ok sc_is_step (fun vs H Q E h => ?_) (fun cdv A outer s H vs Q E hr h => ?_)
  · (obtain ⟨v, d, n, rfl, _⟩ := h; rfl)
  obtain ⟨v, d, n, rfl, hd, q⟩ := h
  refine ⟨_, (pss_cons (ps_if (pt_not (pt_val (pe_call (ok_is_tuple_of T) (hr.mono (by decide)) rfl T.m_is_tuple_of T.F_is_tuple_of.kp T.b_is_tuple_of .nil pass0 (pa_cons (pv 0) (pa_cons pe_int (pa_cons pe_int pa_nil))))))
      (pss_one (ps_ret pe_bl))
      pss_nil)
    (pss_one (ps_ret (pe_and (pe_call (ok_is_between T) (hr.mono (by decide)) rfl T.m_is_between T.F_is_between.kp T.b_is_between .nil pass0 (pa_cons (pe_ix (r := rIxT K) ix_tup (pv 0) pe_int (fun _ _ => rfl)) (pa_cons pe_int (pa_cons (pe_op op_sub (pv 1) pe_int) pa_nil)))) (pe_one (pe_call (ok_is_between T) (hr.mono (by decide)) rfl T.m_is_between T.F_is_between.kp T.b_is_between .nil pass0 (pa_cons (pe_ix (r := rIxT K) ix_tup (pv 0) pe_int (fun _ _ => rfl)) (pa_cons pe_int (pa_cons (pe_glob (v := .int 3) rfl T.m_GREATEST_WRITTEN ⟨_, rfl⟩) pa_nil))))))))), ?_⟩
  refine ⟨_, rfl, v, d, 2, 2, rfl, hd, _, rfl, ?_⟩
  cases ht : tupN d 2 2 with
  | false =>
    rw [stepOk_no ht] at q
    exact iteT q
  | true =>
    obtain ⟨x, y, rfl⟩ := tupN_two ht
    obtain ⟨a, xs, rfl, hx, hA⟩ := dp_tup hd
    obtain ⟨u, h0, d0⟩ := dps_get hA (i := 0) rfl
    obtain ⟨u1, h1, d1⟩ := dps_get hA (i := 1) rfl
    refine iteF ⟨_, rfl, a, xs, _, u, rfl, rfl, hx, at_of (j := 0) rfl h0, _, rfl, _, _, rfl, rfl, u, x, 0, n - 1, rfl, d0, _, rfl, ?_⟩
    have q' : Q (.bl (btw x 0 (n - 1) && btw y 0 3)) H := q
    cases hb : btw x 0 (n - 1) with
    | true =>
      rw [hb, Bool.true_and] at q'
      exact iteT ⟨_, rfl, a, xs, _, u1, rfl, rfl, hx, at_of (j := 1) rfl h1, u1, y, 0, 3, rfl, d1, q'⟩
    | false =>
      rw [hb, Bool.false_and] at q'
      exact iteF q'
end
end Wb
namespace Wb
open PySem L2
section
variable {P : Program} {w : World} {K : PySem.W.Frag} {mg : Str → Option Value} {base : Heap}
theorem rowOk_no {d : PyData} {n : Int} (h : tupN d 2 3 = false) : rowOk d n = false := by
  cases d <;> simp [rowOk, h]
theorem tupN_tup {d : PyData} {lo hi : Int} (h : tupN d lo hi = true) : ∃ ds, d = .tuple ds ∧ lo ≤ (ds.length : Int) ∧ (ds.length : Int) ≤ hi := by
  cases d with
  | tuple ds => simp [tupN] at h; exact ⟨ds, rfl, h.1, h.2⟩
  | _ => simp [tupN] at h
def spRowOk (K : PySem.W.Frag) : Sp := fun vs H Q _ => ∃ (v : V) (d : PyData) (n : Int), vs = [v, .int n] ∧ Dp K H v d ∧ ∀ H', Same H H' → Q (.bl (rowOk d n)) H'
theorem ok_is_table_row (T : Env K mg) : FnOk P w K mg base CX0 3 T.f_is_table_row T.d_is_table_row ["value", "stands"] (spRowOk K) := by
  refine T.F_is_table_row.ok sc_is_table_row (fun vs H Q E h => ?_) (fun cdv A outer s H vs Q E hr h => ?_)
  · (obtain ⟨v, d, n, rfl, _⟩ := h; rfl)
  obtain ⟨v, d, n, rfl, hd, q⟩ := h
  refine ⟨_, (pss_cons (ps_if (pt_not (pt_val (pe_call (ok_is_tuple_of T) (hr.mono (by decide)) rfl T.m_is_tuple_of T.F_is_tuple_of.kp T.b_is_tuple_of .nil pass0 (pa_cons (pv 0) (pa_cons (pe_glob (v := .int 2) rfl T.m_LEAST_LETTERS ⟨_, rfl⟩) (pa_cons (pe_glob (v := .int 3) rfl T.m_MOST_LETTERS ⟨_, rfl⟩) pa_nil))))))
      (pss_one (ps_ret pe_bl))
      pss_nil)
    (pss_one (ps_ret (pe_callB (r := rAll K) (cr_all rfl) (by rfl) T.z_all (by decide +kernel) (pa_cons (pe_lc (own := [("step", 2)]) (g := gName 2) rfl sc_is_table_row.nd (pi_tup (pv 0)) (blkOk_by (own := [("step", 2)]) (N := n_is_table_row) (sc := defScope s_is_table_row) (by decide +kernel)) (fun _ _ _ _ _ => (pg_name (i := 2) sc_is_table_row.nd rfl (Or.inl rfl))) (fun _ _ _ _ _ => pts_nil) (fun _ _ _ _ _ => (pe_call (ok_is_step T) (hr.mono (by decide)) rfl T.m_is_step T.F_is_step.kp T.b_is_step .nil pass0 (pa_cons (pv 2) (pa_cons (pv 1) pa_nil))))) pa_nil))))), ?_⟩
  refine ⟨_, rfl, v, d, 2, 3, rfl, hd, _, rfl, ?_⟩
  cases ht : tupN d 2 3 with
  | false =>
    have q' := q H (Same.refl H)
    rw [rowOk_no ht] at q'
    exact iteT q'
  | true =>
    obtain ⟨ds, rfl, l1, l2⟩ := tupN_tup ht
    obtain ⟨a, xs, rfl, hx, hA⟩ := dp_tup hd
    have hl := dps_len hA
    refine iteF ⟨_, rfl, a, rfl, ⟨xs, hx⟩, fun D hD => lc_tup (K := K) (a := a) (xs := xs)
      (fun i H' => Same H H' ∧ H' D = some (.lst (((ds.take i).map fun e => stepOk e n).map V.bl))) ⟨same_new hD _, upd_same⟩ (fun i H' _ p => same_tup p.1 hx) (fun i x H' hi p => ?_) (fun H' p => ?_)⟩
    · obtain ⟨s, hDl⟩ := p
      obtain ⟨e, he, de⟩ := dps_getV hA hi
      have hlt := (List.getElem?_eq_some_iff.mp hi).1
      refine ⟨rfl, _, rfl, _, rfl, x, e, n, rfl, dp_same de s, _, hDl, ?_, ?_, ?_⟩
      · rw [List.length_map, List.length_map, List.length_take]
        exact small1000 (by omega)
      · exact fun b o hb => by
          rw [upd_ne (fun z => by subst z; rw [hD] at hb; cases hb)]
          exact s b o hb
      · rw [upd_same, take_snoc he, List.map_append, List.map_append]
        rfl
    · obtain ⟨s, hDl⟩ := p
      rw [hl, List.take_length] at hDl
      refine ⟨D, _, rfl, SqL.of hDl, ?_⟩
      have q' := q H' s
      have er : rowOk (.tuple ds) n = ds.all fun e => stepOk e n := by
        show (tupN (.tuple ds) 2 3 && ds.all fun e => stepOk e n) = _
        rw [ht, Bool.true_and]
      rw [er] at q'
      rw [List.all_map]
      exact q'
end
end Wb
namespace Wb
open PySem L2
section
variable {P : Program} {w : World} {K : PySem.W.Frag} {mg : Str → Option Value} {base : Heap}
def faultV : Option Nat → V
  | none => .non
  | some k => .int (k : Int)
def spCheck (K : PySem.W.Frag) (C : Addr) : Sp := fun vs H Q E => ∃ (v : V) (d : PyData), vs = [v] ∧ Dp K H v d ∧ (fault d = none → ∀ H', Same H H' → Q .non H') ∧
  ∀ o, fault d = some o → ∀ (dd : Addr) H', Same H H' → H' dd = some (.xd [("index", faultV o)]) → E (.ref C) (some dd) H'
theorem ok_check_table (T : Env K mg) : FnOk P w K mg base (L2.CX P w) 4 T.f_check_table T.d_check_table ["table"] (spCheck K T.c_BadTable) := by
  refine T.F_check_table.okX sc_check_table (fun vs H Q E h => ?_) (fun cdv A outer s H vs Q E hr h => ?_)
  · (obtain ⟨v, d, rfl, _⟩ := h; rfl)
  obtain ⟨v, d, rfl, hd, q, qe⟩ := h
  refine ⟨_, (pss_cons (ps_if (pt_not (pt_val (pe_call (ok_is_tuple_of T) (hr.mono (by decide)) rfl T.m_is_tuple_of T.F_is_tuple_of.kp T.b_is_tuple_of .nil pass0 (pa_cons (pv 0) (pa_cons pe_int (pa_cons (pe_glob (v := .int 6) rfl T.m_MOST_STANDS ⟨_, rfl⟩) pa_nil))))))
      (pss_one (ps_raise rfl (takes_of rfl rfl rfl rfl) (pmk_oex T.ox_BadTable T.ini_BadTable T.tyi_BadTable (ok_BadTable_init T) (hr.mono (by decide)) T.b_BadTable_init .nil pass0 rfl T.m_BadTable (pa_cons pe_non pa_nil))))
      pss_nil)
    (pss_one (ps_for (passes_of rfl) rfl (pi_enumT (by rfl) T.z_enumerate (pa_cons (pv 0) pa_nil)) (pg_tup rfl (pgs_cons (pg_name (i := 1) sc_check_table.nd rfl (Or.inl rfl)) (pgs_cons (pg_name (i := 2) sc_check_table.nd rfl (Or.inl rfl)) pgs_nil)))
      (pss_one (ps_if (PW.pt (pw_or (pt_not (pt_val (pe_call (ok_is_table_row T) (hr.mono (by decide)) rfl T.m_is_table_row T.F_is_table_row.kp T.b_is_table_row .nil pass0 (pa_cons (pv 2) (pa_cons (pe_callB (r := rLenS K) call_lenS (by rfl) T.z_len (by decide +kernel) (pa_cons (pv 0) pa_nil)) pa_nil))))) (pw_or1 (pt_cmpR op_ne (pe_callB (r := rLenS K) call_lenS (by rfl) T.z_len (by decide +kernel) (pa_cons (pv 2) pa_nil)) (pe_callB (r := rLenS K) call_lenS (by rfl) T.z_len (by decide +kernel) (pa_cons (pe_ix (r := rIxT K) ix_tup (pv 0) pe_int (fun _ _ => rfl)) pa_nil)) (nomark _)))))
        (pss_one (ps_raise rfl (takes_of rfl rfl rfl rfl) (pmk_oex T.ox_BadTable T.ini_BadTable T.tyi_BadTable (ok_BadTable_init T) (hr.mono (by decide)) T.b_BadTable_init .nil pass0 rfl T.m_BadTable (pa_cons (pv 1) pa_nil))))
        pss_nil))))), ?_⟩
  refine ⟨_, rfl, v, d, 1, 6, rfl, hd, _, rfl, ?_⟩
  cases ht : tupN d 1 6 with
  | false =>
    have ef : fault d = some none := by unfold fault; rw [ht, if_neg Bool.false_ne_true]
    exact iteT ⟨(by show 1 ≤ 1000; decide), fun a na => bad_made na fun dd H' s x => qe none ef dd H' s x⟩
  | true =>
    obtain ⟨ds, rfl, l1, l2⟩ := tupN_of ht
    obtain ⟨a, xs, rfl, hx, hA⟩ := dp_tup hd
    have hl : xs.length = ds.length := dps_len hA
    have ef : fault (.tuple ds) = (scan (ds.length : Int) (items (ds.getD 0 .none)).length ds 0).map some := by
      unfold fault
      rw [if_pos ht]
      rfl
    obtain ⟨e0, he0⟩ : ∃ e0, ds[0]? = some e0 := ⟨ds[0]'(by omega), List.getElem?_eq_getElem _⟩
    have g0 : ds.getD 0 .none = e0 := by rw [List.getD, he0]; rfl
    rw [g0] at ef
    refine iteF ⟨_, rfl, a, xs, rfl, hx, for_it (walk_enumT (xs := xs)) (fun i σ H' => (∃ x y, σ = [some (.ref a), x, y]) ∧ Same H H' ∧ scan (ds.length : Int) (items e0).length ds 0 = scan (ds.length : Int) (items e0).length (ds.drop i) i ∧ (0 < i → rowOk e0 (ds.length : Int) = true))
      ⟨⟨_, _, rfl⟩, Same.refl H, rfl, fun z => absurd z (Nat.lt_irrefl 0)⟩ (fun i σ H' hi p => same_tup p.2.1 hx) (fun i x σ H1 H2 hi p y => ?_) (fun σ H' p => ?_)⟩
    · obtain ⟨⟨x0, y0, rfl⟩, s, es, hr0⟩ := p
      obtain ⟨b, k, u, rfl, hb, rfl, hk, hu⟩ := y
      have ek : k = V.int (i : Nat) := (Option.some.inj hk).symm
      subst ek
      have s2 := s.trans (same_new hb (.tup [.int (i : Nat), u]))
      obtain ⟨e, he, de⟩ := dps_getV hA hu
      obtain ⟨u0, hu0, du0⟩ := dps_get hA he0
      rw [drop_cons he] at es
      refine ⟨b, _, rfl, SqT.of upd_same, rfl, _, _, rfl, _, _, rfl, rfl, ?_⟩
      refine ⟨_, rfl, _, rfl, a, xs, rfl, .inr (same_tup s2 hx), u, e, (ds.length : Int), (by rw [hl]; rfl), dp_same de s2, fun H3 s3 => ⟨_, rfl, ?_⟩⟩
      have s23 := s2.trans s3
      cases hr : rowOk e (ds.length : Int) with
      | false =>
        have ef2 : fault (.tuple ds) = some (some i) := by
          rw [ef, es, scan, if_neg (by rw [hr]; intro z; exact Bool.false_ne_true z.1)]
          rfl
        exact iteT ⟨_, rfl, (by show 1 ≤ 1000; decide), fun a' na => bad_made na fun dd H' s4 x => qe (some i) ef2 dd H' (s23.trans s4) x⟩
      | true =>
        obtain ⟨rs, rfl⟩ : ∃ rs, e = .tuple rs := by
          obtain ⟨r, er, _⟩ := rowOk_nat (n := ds.length) hr
          exact ⟨_, er⟩
        obtain ⟨r0, rfl⟩ : ∃ r0, e0 = .tuple r0 := by
          rcases Nat.eq_zero_or_pos i with z | z
          · subst z
            rw [he] at he0
            exact ⟨rs, (Option.some.inj he0).symm⟩
          · obtain ⟨r, er, _⟩ := rowOk_nat (n := ds.length) (hr0 z)
            exact ⟨_, er⟩
        obtain ⟨pr, xr, rfl, hxr, hAr⟩ := dp_tup (dp_same de s23)
        obtain ⟨pf, xf, rfl, hxf, hAf⟩ := dp_tup (dp_same du0 s23)
        refine iteF ⟨_, rfl, pr, xr, rfl, .inr hxr, _, rfl, a, xs, _, _, rfl, rfl, same_tup s23 hx, at_of (j := 0) rfl hu0, pf, xf, rfl, .inr hxf, rfl, _, rfl, ?_⟩
        rw [dps_len hAr, dps_len hAf]
        by_cases hlen : rs.length = r0.length
        · refine iteNS (by rw [hlen]) ⟨⟨_, _, rfl⟩, s23, ?_, fun _ => ?_⟩
          · rw [es, scan, if_pos ⟨hr, hlen⟩]
          · rcases Nat.eq_zero_or_pos i with z | z
            · subst z
              rw [he] at he0
              rw [← Option.some.inj he0]
              exact hr
            · exact hr0 z
        · have ef2 : fault (.tuple ds) = some (some i) := by
            rw [ef, es, scan, if_neg (fun z => hlen z.2)]
            rfl
          refine iteNT (fun z => hlen (by injection z with z; omega)) ?_
          exact ⟨_, rfl, (by show 1 ≤ 1000; decide), fun a' na => bad_made na fun dd H' s4 x => qe (some i) ef2 dd H' (s23.trans s4) x⟩
    · obtain ⟨⟨x0, y0, rfl⟩, s, es, hr0⟩ := p
      rw [hl, List.drop_length] at es
      exact q (by rw [ef, es]; rfl) H' s
end
end Wb
namespace Wb
open PySem L2
section
variable {P : Program} {w : World} {K : PySem.W.Frag} {mg : Str → Option Value} {base : Heap}
def spInitX (K : PySem.W.Frag) (C B : Addr) : Sp := fun vs H Q E => ∃ (p dx : Addr) (v : V) (d : PyData), vs = [.ref p, v] ∧ H p = some (.ins C dx []) ∧ Dp K H v d ∧
  (fault d = none → ∀ H', WrAt C H' p v → (∀ b o, H b = some o → b ≠ p → H' b = some o) → Q .non H') ∧
  ∀ o, fault d = some o → ∀ (dd : Addr) H', Same H H' → H' dd = some (.xd [("index", faultV o)]) → E (.ref B) (some dd) H'
theorem ok_Writer_init (T : Env K mg) : FnOk P w K mg base (L2.CX P w) 5 T.f_Writer_init T.d_Writer_init ["self", "table"] (spInitX K T.c_Writer T.c_BadTable) := by
  refine T.F_Writer_init.okX sc_Writer_init (fun vs H Q E h => ?_) (fun cdv A outer s H vs Q E hr h => ?_)
  · (obtain ⟨p, dx, v, d, rfl, _⟩ := h; rfl)
  obtain ⟨p, dx, v, d, rfl, hp, hd, q, qe⟩ := h
  refine ⟨_, (pss_cons (ps_expr (pe_call (ok_check_table T) (hr.mono (by decide)) rfl T.m_check_table T.F_check_table.kp T.b_check_table .nil (passes_call (takes_of rfl rfl rfl rfl) (fun _ _ _ _ z => z)) (pa_cons (pv 1) pa_nil)))
    (pss_one (ps_fld (pv 0) (pv 1) rfl))), ?_⟩
  refine ⟨_, rfl, v, d, rfl, hd, fun ef H' s => ?_, fun o ef dd H' s x => qe o ef dd H' s x⟩
  refine ⟨_, rfl, _, rfl, p, T.c_Writer, dx, [], rfl, s _ _ hp, T.cl_Writer, T.no_Writer_table, (by show 0 < 1000; decide), ?_⟩
  refine q ef _ ⟨dx, upd_same⟩ fun b o hb n => ?_
  rw [upd_ne n]
  exact s b o hb
end
end Wb
namespace Wb
open PySem L2
section
variable {P : Program} {w : World} {K : PySem.W.Frag} {mg : Str → Option Value} {base : Heap}
def spWTable (C : Addr) : Sp := fun vs H Q _ => ∃ (a : Addr) (v : V), vs = [.ref a] ∧ WrAt C H a v ∧ Q v H
theorem ok_Writer_table (T : Env K mg) : FnOk P w K mg base CX0 1 T.f_Writer_table T.d_Writer_table ["self"] (spWTable T.c_Writer) := by
  refine T.F_Writer_table.ok sc_Writer_table (fun vs H Q E h => ?_) (fun cdv A outer s H vs Q E hr h => ?_)
  · (obtain ⟨a, v, rfl, _⟩ := h; rfl)
  obtain ⟨a, v, rfl, ⟨dx, ha⟩, q⟩ := h
  refine ⟨_, (pss_one (ps_ret (pe_fld (pv 0) rfl))), ?_⟩
  exact ⟨_, rfl, a, T.c_Writer, dx, _, v, rfl, ha, T.cl_Writer, T.no_Writer_table, rfl, q⟩
end
end Wb
namespace Wb
open PySem L2
section
variable {P : Program} {w : World} {K : PySem.W.Frag} {mg : Str → Option Value} {base : Heap}
def spWLetters (K : PySem.W.Frag) (C : Addr) : Sp := fun vs H Q _ => ∃ (a : Addr) (v : V) (t : Tab) (n : Nat), vs = [.ref a] ∧ WrAt C H a v ∧ Dp K H v (tabD t) ∧ Good t n ∧ Q (.int (n : Int)) H
theorem ok_Writer_letters (T : Env K mg) : FnOk P w K mg base CX0 1 T.f_Writer_letters T.d_Writer_letters ["self"] (spWLetters K T.c_Writer) := by
  refine T.F_Writer_letters.ok sc_Writer_letters (fun vs H Q E h => ?_) (fun cdv A outer s H vs Q E hr h => ?_)
  · (obtain ⟨a, v, t, n, rfl, _⟩ := h; rfl)
  obtain ⟨a, v, t, n, rfl, ⟨dx, ha⟩, hd, g, q⟩ := h
  refine ⟨_, (pss_one (ps_ret (pe_callB (r := rLenS K) call_lenS (by rfl) T.z_len (by decide +kernel) (pa_cons (pe_ix (r := rIxT K) ix_tup (pe_fld (pv 0) rfl) pe_int (fun _ _ => rfl)) pa_nil)))), ?_⟩
  obtain ⟨p, xs, u, rfl, hx, hu, du, _⟩ := tab_row hd (s := 0) (by have := g.len1; omega)
  obtain ⟨pr, xr, rfl, hxr, hAr⟩ := dp_tup du
  obtain ⟨hm0, hn0⟩ := g.row (s := 0) (by have := g.len1; omega)
  have lr : xr.length = n := by rw [dps_len hAr, List.length_map]; exact hn0
  refine ⟨_, rfl, a, T.c_Writer, dx, _, .ref p, rfl, ha, T.cl_Writer, T.no_Writer_table, rfl, p, xs, _, _, rfl, rfl, hx, at_of (j := 0) rfl hu, pr, xr, rfl, .inr hxr, ?_⟩
  rw [lr]
  exact q
end
end Wb
namespace Wb
open PySem L2
section
variable {P : Program} {w : World} {K : PySem.W.Frag} {mg : Str → Option Value} {base : Heap}
def spWLen (K : PySem.W.Frag) (C : Addr) : Sp := fun vs H Q _ => ∃ (a : Addr) (v : V) (t : Tab) (n : Nat), vs = [.ref a] ∧ WrAt C H a v ∧ Dp K H v (tabD t) ∧ Good t n ∧ Q (.int (t.length : Int)) H
theorem ok_Writer_len (T : Env K mg) : FnOk P w K mg base CX0 1 T.f_Writer_len T.d_Writer_len ["self"] (spWLen K T.c_Writer) := by
  refine T.F_Writer_len.ok sc_Writer_len (fun vs H Q E h => ?_) (fun cdv A outer s H vs Q E hr h => ?_)
  · (obtain ⟨a, v, t, n, rfl, _⟩ := h; rfl)
  obtain ⟨a, v, t, n, rfl, ⟨dx, ha⟩, hd, g, q⟩ := h
  refine ⟨_, (pss_one (ps_ret (pe_callB (r := rLenS K) call_lenS (by rfl) T.z_len (by decide +kernel) (pa_cons (pe_fld (pv 0) rfl) pa_nil)))), ?_⟩
  obtain ⟨p, xs, rfl, hx, hA⟩ := dp_tup hd
  have l : xs.length = t.length := by rw [dps_len hA, List.length_map]
  refine ⟨_, rfl, a, T.c_Writer, dx, _, .ref p, rfl, ha, T.cl_Writer, T.no_Writer_table, rfl, p, xs, rfl, .inr hx, ?_⟩
  rw [l]
  exact q
end
end Wb
namespace Wb
open PySem L2
section
variable {P : Program} {w : World} {K : PySem.W.Frag} {mg : Str → Option Value} {base : Heap}
/-- == of a writer and another one, or plain data -/
def spWEq (K : PySem.W.Frag) (C : Addr) : Sp := fun vs H Q _ => ∃ (a : Addr) (v y : V) (t : Tab), vs = [.ref a, y] ∧ WrAt C H a v ∧ Dp K H v (tabD t) ∧
  ((∃ d, Dp K H y d ∧ Q (.bl false) H) ∨ ∃ (b : Addr) (u : V) (t' : Tab), y = .ref b ∧ WrAt C H b u ∧ Dp K H u (tabD t') ∧ Q (.bl (PyData.eqv (tabD t) (tabD t'))) H)
theorem shaped_step (s : Nat × Nat) : (stepD s).canLay0 = true ∧ (stepD s).depth = 1 := by simp [stepD, PyData.canLay0, PyData.canLayAll0, PyData.depth, PyData.depthAll]
theorem shaped_row : ∀ r : List (Nat × Nat), PyData.canLayAll0 (r.map stepD) = true ∧ PyData.depthAll (r.map stepD) ≤ 1
  | [] => by simp [PyData.canLayAll0, PyData.depthAll]
  | s :: r => by
    have h := shaped_row r
    have h1 := shaped_step s
    simp only [List.map_cons, PyData.canLayAll0, PyData.depthAll, h1.1, h.1, h1.2, Bool.and_self, true_and]
    omega
theorem shaped_tab : ∀ t : Tab, PyData.canLayAll0 (t.map rowD) = true ∧ PyData.depthAll (t.map rowD) ≤ 2
  | [] => by simp [PyData.canLayAll0, PyData.depthAll]
  | r :: t => by
    have h := shaped_tab t
    have h1 := shaped_row r
    have e1 : (rowD r).canLay0 = true := by simpa [rowD, PyData.canLay0] using h1.1
    have e2 : (rowD r).depth ≤ 2 := by simp only [rowD, PyData.depth]; omega
    simp only [List.map_cons, PyData.canLayAll0, PyData.depthAll, e1, h.1, Bool.and_self, true_and]
    omega
theorem tab_shaped (t : Tab) : SeqAt.shaped (tabD t) = true := by
  have h := shaped_tab t
  unfold SeqAt.shaped
  rw [Bool.and_eq_true, decide_eq_true_eq]
  exact ⟨by simpa [tabD, PyData.canLay0] using h.1, by simp only [tabD, PyData.depth]; omega⟩
theorem ok_Writer_eq (T : Env K mg) : FnOk P w K mg base CX0 1 T.f_Writer_eq T.d_Writer_eq ["self", "other"] (spWEq K T.c_Writer) := by
  refine T.F_Writer_eq.ok sc_Writer_eq (fun vs H Q E h => ?_) (fun cdv A outer s H vs Q E hr h => ?_)
  · (obtain ⟨a, v, y, t, rfl, _⟩ := h; rfl)
  obtain ⟨a, v, y, t, rfl, ⟨dx, ha⟩, hd, q⟩ := h
  refine ⟨_, (pss_one (ps_ret (pe_and (pe_callB (r := rIsi K) call_isi (by rfl) T.z_isinstance (by decide +kernel) (pa_cons (pv 1) (pa_cons (pe_glob (v := .ref T.c_Writer) rfl T.m_Writer rfl) pa_nil))) (pe_one (pe_cmpR (r := rEqD K) (op_eqD hr.units) (pe_fld (pv 0) rfl) (pe_fld (pv 1) rfl) (nomark _)))))), ?_⟩
  rcases q with ⟨d, dy, q⟩ | ⟨b, u, t', rfl, ⟨dy, hb⟩, hu, q⟩
  · exact ⟨_, rfl, _, _, _, _, _, rfl, .own _, dp_ty dy, T.is_Writer.plain d, _, rfl, q⟩
  · exact ⟨_, rfl, _, _, _, _, _, rfl, .own _, T.is_Writer.tyx hb, kit_self, _, rfl, _, rfl, a, T.c_Writer, dx, _, v, rfl, ha, T.cl_Writer, T.no_Writer_table, rfl, _, rfl, b, T.c_Writer, dy, _, u, rfl, hb, T.cl_Writer, T.no_Writer_table, rfl,
      tabD t, tabD t', hd, hu, tab_shaped t, tab_shaped t', q⟩
end
end Wb
namespace Wb
open PySem L2
section
variable {P : Program} {w : World} {K : PySem.W.Frag} {mg : Str → Option Value} {base : Heap}
def spMix (K : PySem.W.Frag) : Sp := fun vs H Q _ => ∃ (a : Addr) (ns : List Int) (sd : Int), vs = [.ref a, .int sd] ∧ SqL K H a (ns.map V.int) ∧ ns.length ≤ 63 ∧
  ∀ h l H', Same H H' → H h = none → H l = none → Src h l H' → Q (.ref h) H'
theorem ok_law_mix (T : Env K mg) : FnOk P w K mg base CX0 1 T.f_law_mix T.d_law_mix ["_law_script", "_law_seed"] (spMix K) := by
  refine T.F_law_mix.ok sc_law_mix (fun vs H Q E h => ?_) (fun cdv A outer s H vs Q E hr h => ?_)
  · (obtain ⟨a, ns, sd, rfl, _⟩ := h; rfl)
  obtain ⟨a, ns, sd, rfl, hS, hl, q⟩ := h
  refine ⟨_, (pss_cons (ps_set (i := 2) sc_law_mix.nd rfl (Or.inl rfl) (pv 1))
    (pss_cons (ps_for PassesOwn.never rfl (pi_list (pv 0)) (pg_name (i := 3) sc_law_mix.nd rfl (Or.inl rfl))
      (pss_one (ps_set (i := 2) sc_law_mix.nd rfl (Or.inl rfl) (pe_op op_mod (pe_callTy call_int1 (by rfl) T.z_int (by decide +kernel) (pa_cons (pe_op op_add (pe_op op_add (pe_op op_mul (pv 2) pe_int) (pe_op op_mod (pe_callTy call_int1 (by rfl) T.z_int (by decide +kernel) (pa_cons (pv 3) pa_nil)) pe_int)) pe_int) pa_nil)) pe_int))))
    (pss_one (ps_ret (pe_lst (pa_cons (pv 2) (pa_cons (pe_callTy (r := rListOf K) call_listS (by rfl) T.z_list (by decide +kernel) (pa_cons (pv 0) pa_nil)) (pa_cons pe_int pa_nil)))))))), ?_⟩
  refine ⟨_, rfl, ?_⟩
  refine ⟨_, rfl, a, rfl, ⟨_, hS⟩, for_list (K := K) (a := a) (xs := ns.map V.int) (fun i σ H' => (∃ (st : Int) (y : Option V), σ = [some (.ref a), some (.int sd), some (.int st), y]) ∧ H' = H)
    ⟨⟨_, _, rfl⟩, rfl⟩ (fun i σ H' _ z => z.2 ▸ hS) (fun i x σ H' hi z => ?_) (fun σ H' z => ?_)⟩
  · obtain ⟨⟨st, y, rfl⟩, rfl⟩ := z
    obtain ⟨n, hn, rfl⟩ : ∃ n, ns[i]? = some n ∧ x = .int n := by
      rw [List.getElem?_map] at hi
      cases e : ns[i]? with
      | none => rw [e] at hi; cases hi
      | some n => rw [e] at hi; exact ⟨n, rfl, (Option.some.inj hi).symm⟩
    exact ⟨_, rfl, _, _, rfl, rfl, .inr ⟨by decide, by decide⟩, _, rfl, .inl ⟨_, rfl, _, _, rfl, rfl, (by show (0 : Int) < _; decide), _, _, rfl, rfl, _, _, rfl, rfl, .inl ⟨_, rfl, _, _, rfl, rfl, (by show (0 : Int) < _; decide), ⟨_, _, rfl⟩, rfl⟩⟩⟩
  · obtain ⟨⟨st, y, rfl⟩, rfl⟩ := z
    refine ⟨_, rfl, _, rfl, a, _, rfl, .inl hS, fun l hl2 => ⟨(by show 3 ≤ sizeLine; decide), fun h hh => ?_⟩⟩
    have ne : h ≠ l := fun e => by subst e; rw [upd_same] at hh; cases hh
    have hh0 : H' h = none := by rw [upd_ne ne] at hh; exact hh
    refine q h l _ ((same_new hl2 _).trans (same_new hh _)) hh0 hl2 ⟨ne, st, 0, ns, upd_same, ?_, hl⟩
    rw [upd_ne ne.symm]
    exact upd_same
end
end Wb
namespace Wb
open PySem L2
section
variable {P : Program} {w : World} {K : PySem.W.Frag} {mg : Str → Option Value} {base : Heap}
theorem mod_nat {i j : Int} (h : 0 < j) : ∃ k : Nat, i % j = (k : Int) ∧ (k : Int) < j :=
  ⟨(i % j).toNat, (Int.toNat_of_nonneg (Int.emod_nonneg i (by omega))).symm, by
    have a := Int.emod_lt_of_pos i h
    have b := Int.emod_nonneg i (show j ≠ 0 by omega)
    omega⟩
def spNext : Sp := fun vs H Q _ => ∃ (h l : Addr) (cap : Int), vs = [.ref h, .int cap] ∧ Src h l H ∧ 0 < cap ∧ cap < 1073741824 ∧
  ∀ (r : Nat) H', (r : Int) < cap → Src h l H' → Old h l H H' → Q (.int (r : Int)) H'
theorem cells_get (cs : List Int) {k : Nat} (h : k < cs.length + 1) : ∃ c : Int, (cs.map V.int ++ [V.int 0])[k]? = some (.int c) ∧ (cs.length ≤ k → c = 0) := by
  by_cases hk : k < cs.length
  · exact ⟨cs[k], by rw [List.getElem?_append_left (by simpa using hk), List.getElem?_map, List.getElem?_eq_getElem hk]; rfl, fun z => absurd hk (by omega)⟩
  · have e : k = (cs.map V.int).length := by rw [List.length_map]; omega
    exact ⟨0, by rw [e]; exact List.getElem?_concat_length .., fun _ => rfl⟩
theorem ok_law_next (T : Env K mg) : FnOk P w K mg base CX0 1 T.f_law_next T.d_law_next ["_law_h", "_law_cap"] (spNext) := by
  refine T.F_law_next.ok sc_law_next (fun vs H Q E h => ?_) (fun cdv A outer s H vs Q E hr h => ?_)
  · (obtain ⟨h, l, cap, rfl, _⟩ := h; rfl)
  obtain ⟨h, l, cap, rfl, ⟨ne, st, ix, cs, hh, hl, h63⟩, cp, cm, q⟩ := h
  refine ⟨_, (pss_cons (ps_set (i := 2) sc_law_next.nd rfl (Or.inl rfl) (pe_ix (r := rIxL K) ix_list (pe_op op_cat (pe_ix (r := rIxL K) ix_list (pv 0) pe_int (fun _ _ => rfl)) (pe_lst (pa_cons pe_int pa_nil))) (pe_op op_mod (pe_callTy call_int1 (by rfl) T.z_int (by decide +kernel) (pa_cons (pe_ix (r := rIxL K) ix_list (pv 0) pe_int (fun _ _ => rfl)) pa_nil)) (pe_callB (call_max2 rfl) (by rfl) T.z_max (by decide +kernel) (pa_cons pe_int (pa_cons (pe_callB (r := rLenS K) call_lenS (by rfl) T.z_len (by decide +kernel) (pa_cons (pe_ix (r := rIxL K) ix_list (pv 0) pe_int (fun _ _ => rfl)) pa_nil)) pa_nil)))) (fun _ _ => rfl)))
    (pss_cons (ps_if (pt_cmpR op_ge (pv 2) (pe_op op_pow pe_int pe_int) (nomark _))
      (pss_cons (ps_asg (pe_op op_fdiv (pv 2) (pv 1)) (pg_sub (pe_ix (r := rIxL K) ix_list (pv 0) pe_int (fun _ _ => rfl)) (pe_op op_mod (pe_callTy call_int1 (by rfl) T.z_int (by decide +kernel) (pa_cons (pe_ix (r := rIxL K) ix_list (pv 0) pe_int (fun _ _ => rfl)) pa_nil)) (pe_callB (r := rLenS K) call_lenS (by rfl) T.z_len (by decide +kernel) (pa_cons (pe_ix (r := rIxL K) ix_list (pv 0) pe_int (fun _ _ => rfl)) pa_nil))) set_list))
      (pss_one (ps_ret (pe_op op_mod (pe_callTy call_int1 (by rfl) T.z_int (by decide +kernel) (pa_cons (pv 2) pa_nil)) (pv 1)))))
      pss_nil)
    (pss_cons (ps_asg (pe_op op_mod (pe_callTy call_int1 (by rfl) T.z_int (by decide +kernel) (pa_cons (pe_op op_add (pe_op op_add (pe_op op_mul (pe_ix (r := rIxL K) ix_list (pv 0) pe_int (fun _ _ => rfl)) pe_int) (pe_op op_mul (pv 2) pe_int)) pe_int) pa_nil)) pe_int) (pg_sub (pv 0) pe_int set_list))
    (pss_cons (ps_asg (pe_op op_add (pe_ix (r := rIxL K) ix_list (pv 0) pe_int (fun _ _ => rfl)) pe_int) (pg_sub (pv 0) pe_int set_list))
    (pss_one (ps_ret (pe_op op_mod (pe_callTy call_int1 (by rfl) T.z_int (by decide +kernel) (pa_cons (pe_op op_fdiv (pe_ix (r := rIxL K) ix_list (pv 0) pe_int (fun _ _ => rfl)) pe_int) pa_nil)) (pv 1)))))))), ?_⟩
  -- what is drawn from: the two new lists
  refine ⟨_, rfl, h, _, _, _, rfl, rfl, SqL.of hh, at_of (j := 1) rfl rfl, (by show 1 ≤ sizeLine; decide), fun p1 n1 => ?_⟩
  have ne1 : l ≠ p1 := ne_of_none hl n1
  have nh1 : h ≠ p1 := ne_of_none hh n1
  have s1 := same_new n1 (.lst [V.int 0])
  refine ⟨l, p1, _, _, rfl, rfl, s1 _ _ hl, upd_same, (by rw [List.length_map]; exact Nat.le_of_lt (small1000 (by show cs.length + 1 ≤ 1000; omega))), fun p2 n2 => ?_⟩
  have s2 := s1.trans (same_new n2 (.lst (cs.map V.int ++ [V.int 0])))
  have hh2 := s2 _ _ hh
  have hl2 := s2 _ _ hl
  have nh2 : p2 ≠ h := (ne_of_none (s1 _ _ hh) n2).symm
  have nl2 : p2 ≠ l := (ne_of_none (s1 _ _ hl) n2).symm
  have cl : (cs.map V.int).length = cs.length := List.length_map _
  obtain ⟨m, em, m1, m2⟩ : ∃ m : Int, (if ((cs.map V.int).length : Int) > 1 then ((cs.map V.int).length : Int) else 1) = m ∧ 0 < m ∧ m ≤ (cs.length : Int) + 1 ∧ (0 < cs.length → m = (cs.length : Int)) := by
    rw [cl]
    by_cases h1 : (cs.length : Int) > 1
    · exact ⟨_, by rw [if_pos h1], by omega, by omega, by omega⟩
    · exact ⟨_, by rw [if_neg h1], by omega, by omega, by omega⟩
  obtain ⟨m2, m3⟩ := m2
  obtain ⟨k, ek, hk⟩ := mod_nat (i := ix) m1
  obtain ⟨c, hc, hc0⟩ := cells_get cs (k := k) (by omega)
  refine ⟨_, rfl, h, _, _, _, rfl, rfl, SqL.of hh2, at_of (j := 2) rfl rfl, .inl ⟨_, rfl, _, rfl, h, _, _, _, rfl, rfl, SqL.of hh2, at_of (j := 1) rfl rfl, l, _, rfl, .inl (SqL.of hl2), _, _, rfl, _, _, rfl, rfl, (by rw [em]; exact m1),
    p2, _, _, _, rfl, rfl, SqL.of upd_same, at_of (j := k) (by rw [em]; exact ek) hc, ?_⟩⟩
  -- is the cell great?
  refine ⟨_, rfl, _, _, rfl, rfl, ⟨by decide, by decide, by decide⟩, _, _, rfl, rfl, _, rfl, ?_⟩
  refine ite2 (fun big => ?_) (fun small => ?_)
  · have big' : (10 : Int) ^ (18 : Int).toNat ≤ c := of_decide_eq_true big
    have pos : 0 < cs.length := by
      rcases Nat.eq_zero_or_pos cs.length with z | z
      · have := hc0 (by omega)
        rw [this] at big'
        exact absurd big' (by decide)
      · exact z
    have km : k < cs.length := by have := m3 pos; omega
    refine ⟨_, rfl, _, rfl, _, _, rfl, rfl, ⟨cp, cm⟩, _, rfl, h, _, _, _, rfl, rfl, SqL.of hh2, at_of (j := 1) rfl rfl, _, rfl, h, _, _, _, rfl, rfl, SqL.of hh2, at_of (j := 2) rfl rfl, .inl ⟨_, rfl, _, rfl, h, _, _, _, rfl, rfl, SqL.of hh2, at_of (j := 1) rfl rfl,
      l, _, rfl, .inl (SqL.of hl2), _, _, rfl, rfl, (by rw [cl]; omega), l, _, _, k, rfl, rfl, hl2, ?_, ?_⟩⟩
    · rw [cl, ← m3 pos, ek]
      unfold ixN
      rw [if_pos (by omega), if_pos (by have := m3 pos; omega), Int.toNat_natCast]
    · obtain ⟨r, er, hr⟩ := mod_nat (i := c) cp
      refine ⟨_, rfl, .inl ⟨_, rfl, _, rfl, _, _, rfl, rfl, cp, ?_⟩⟩
      show Q (V.int (c % cap)) _
      rw [er]
      refine q r _ hr ⟨ne, st, ix, cs.set k (c / cap), ?_, ?_, by rw [List.length_set]; exact h63⟩ fun b o hb bh bl => ?_
      · rw [upd_ne ne]
        exact hh2
      · rw [upd_same, List.map_set]
      · rw [upd_ne bl]
        exact s2 _ _ hb
  · refine ⟨_, rfl, h, _, _, _, rfl, rfl, SqL.of hh2, at_of (j := 0) rfl rfl, _, _, rfl, rfl, .inr ⟨by decide, by decide⟩, _, rfl, _, _, rfl, rfl, .inr ⟨by decide, by decide⟩, _, _, rfl, rfl, _, _, rfl, rfl, .inl ⟨_, rfl, _, _, rfl, rfl, (by show (0 : Int) < _; decide), _, rfl,
      h, _, _, 0, rfl, rfl, hh2, rfl, ?_⟩⟩
    have hh3 : ∀ o, (upd (upd (upd H p1 (.lst [V.int 0])) p2 (.lst (cs.map V.int ++ [V.int 0]))) h o) h = some o := fun o => upd_same
    refine ⟨_, rfl, h, _, _, _, rfl, rfl, SqL.of upd_same, at_of (j := 2) rfl rfl, _, _, rfl, rfl, _, rfl, h, _, _, 2, rfl, rfl, upd_same, rfl, ?_⟩
    obtain ⟨r, er, hr⟩ := mod_nat (i := ((st * 48271 + c * 69621 + 11) % 2147483647) / 7) cp
    refine ⟨_, rfl, h, _, _, _, rfl, rfl, SqL.of upd_same, at_of (j := 0) rfl rfl, _, _, rfl, rfl, ⟨by decide, by decide⟩, .inl ⟨_, rfl, _, rfl, _, _, rfl, rfl, cp, ?_⟩⟩
    show Q (V.int (((st * 48271 + c * 69621 + 11) % 2147483647) / 7 % cap)) _
    rw [er]
    refine q r _ hr ⟨ne, _, _, cs, upd_same, ?_, h63⟩ fun b o hb bh bl => ?_
    · rw [upd_ne ne.symm, upd_ne ne.symm]
      exact hl2
    · rw [upd_ne bh, upd_ne bh]
      exact s2 _ _ hb
end
end Wb
namespace Wb
open PySem L2
section
variable {P : Program} {w : World} {K : PySem.W.Frag} {mg : Str → Option Value} {base : Heap}
def spAlike (K : PySem.W.Frag) (n : Nat) : Sp := fun vs H Q _ => ∃ (v u : V) (d : PyData), vs = [v, u] ∧ Dp K H v d ∧ Dp K H u d ∧ fine n d ∧ ∀ H', Same H H' → Q (.bl true) H'
theorem alike_step (T : Env K mg) {n : Nat} (G : FnOk P w K mg base CX0 n T.f_law_alike T.d_law_alike ["_law_found", "_law_due"] (spAlike K n)) : FnOk P w K mg base CX0 (n + 1) T.f_law_alike T.d_law_alike ["_law_found", "_law_due"] (spAlike K (n + 1)) := by
  refine T.F_law_alike.ok sc_law_alike (fun vs H Q E h => ?_) (fun cdv A outer s H vs Q E hr h => ?_)
  · obtain ⟨v, u, d, rfl, _⟩ := h
    rfl
  obtain ⟨v, u, d, rfl, hv, hu, hf, q⟩ := h
  refine ⟨_, (pss_cons (ps_if (pt_val (pe_callB (r := rIsiT K) call_isiT (by rfl) T.z_isinstance (by decide +kernel) (pa_cons (pv 1) (pa_cons (pe_tup (pa_cons (pe_bltn (v := .ty "tuple") (u := .type "tuple") (by rfl) T.z_tuple (by decide +kernel) rfl) (pa_cons (pe_bltn (v := .ty "list") (u := .type "list") (by rfl) T.z_list (by decide +kernel) rfl) pa_nil))) pa_nil))))
      (pss_cons (ps_if (PW.pt (pw_or (pt_not (pt_val (pe_callB (r := rIsiT K) call_isiT (by rfl) T.z_isinstance (by decide +kernel) (pa_cons (pv 0) (pa_cons (pe_tup (pa_cons (pe_bltn (v := .ty "tuple") (u := .type "tuple") (by rfl) T.z_tuple (by decide +kernel) rfl) (pa_cons (pe_bltn (v := .ty "list") (u := .type "list") (by rfl) T.z_list (by decide +kernel) rfl) pa_nil))) pa_nil))))) (pw_or1 (pt_cmpR op_ne (pe_callB (r := rIsi K) call_isi (by rfl) T.z_isinstance (by decide +kernel) (pa_cons (pv 0) (pa_cons (pe_bltn (v := .ty "list") (u := .type "list") (by rfl) T.z_list (by decide +kernel) rfl) pa_nil))) (pe_callB (r := rIsi K) call_isi (by rfl) T.z_isinstance (by decide +kernel) (pa_cons (pv 1) (pa_cons (pe_bltn (v := .ty "list") (u := .type "list") (by rfl) T.z_list (by decide +kernel) rfl) pa_nil))) (nomark _)))))
        (pss_one (ps_ret pe_bl))
        pss_nil)
      (pss_cons (ps_if (pt_cmpR op_ne (pe_callB (r := rLenS K) call_lenS (by rfl) T.z_len (by decide +kernel) (pa_cons (pv 0) pa_nil)) (pe_callB (r := rLenS K) call_lenS (by rfl) T.z_len (by decide +kernel) (pa_cons (pv 1) pa_nil)) (nomark _))
        (pss_one (ps_ret pe_bl))
        pss_nil)
      (pss_one (ps_ret (pe_cmpR (r := rEqD K) (op_eqD hr.units) (pe_lc (own := [("_law_k", 2)]) (g := gName 2) rfl sc_law_alike.nd (pi_range1 rfl T.z_range (pa_cons (pe_callB (r := rLenS K) call_lenS (by rfl) T.z_len (by decide +kernel) (pa_cons (pv 1) pa_nil)) pa_nil)) (blkOk_by (own := [("_law_k", 2)]) (N := n_law_alike) (sc := defScope s_law_alike) (by decide +kernel)) (fun _ _ _ _ _ => (pg_name (i := 2) sc_law_alike.nd rfl (Or.inl rfl))) (fun _ _ _ _ _ => pts_one (pt_not (pt_val (pe_call (G) hr rfl T.m_law_alike T.F_law_alike.kp T.b_law_alike .nil pass0 (pa_cons (pe_ix (r := rIx K) ix_seq (pv 0) (pv 2) (fun _ _ => rfl)) (pa_cons (pe_ix (r := rIx K) ix_seq (pv 1) (pv 2) (fun _ _ => rfl)) pa_nil)))))) (fun _ _ _ _ _ => (pv 2))) (pe_lst pa_nil) (nomark _))))))
      pss_nil)
    (pss_cons (ps_if (PW.pt (pw_or (pt_cmpR op_isN (pv 1) pe_non (nomark _)) (pw_or1 (pt_val (pe_callB (r := rIsi K) call_isi (by rfl) T.z_isinstance (by decide +kernel) (pa_cons (pv 1) (pa_cons (pe_bltn (v := .ty "str") (u := .type "str") (by rfl) T.z_str (by decide +kernel) rfl) pa_nil)))))))
      (pss_one (ps_ret (pe_and (pe_cmpR (r := rEqD K) (op_eqD hr.units) (pv 0) (pv 1) (nomark _)) (pe_one (pe_cmpR op_eq (pe_callB (r := rIsi K) call_isi (by rfl) T.z_isinstance (by decide +kernel) (pa_cons (pv 0) (pa_cons (pe_bltn (v := .ty "str") (u := .type "str") (by rfl) T.z_str (by decide +kernel) rfl) pa_nil))) (pe_callB (r := rIsi K) call_isi (by rfl) T.z_isinstance (by decide +kernel) (pa_cons (pv 1) (pa_cons (pe_bltn (v := .ty "str") (u := .type "str") (by rfl) T.z_str (by decide +kernel) rfl) pa_nil))) (nomark _))))))
      pss_nil)
    (pss_one (ps_ret (pe_and (pe_callB (r := rIsi K) call_isi (by rfl) T.z_isinstance (by decide +kernel) (pa_cons (pv 0) (pa_cons (pe_bltn (v := .ty "int") (u := .type "int") (by rfl) T.z_int (by decide +kernel) rfl) pa_nil))) (pe_and (pe_cmpR op_eq (pe_callB (r := rIsi K) call_isi (by rfl) T.z_isinstance (by decide +kernel) (pa_cons (pv 0) (pa_cons (pe_bltn (v := .ty "bool") (u := .type "bool") (by rfl) T.z_bool (by decide +kernel) rfl) pa_nil))) (pe_callB (r := rIsi K) call_isi (by rfl) T.z_isinstance (by decide +kernel) (pa_cons (pv 1) (pa_cons (pe_bltn (v := .ty "bool") (u := .type "bool") (by rfl) T.z_bool (by decide +kernel) rfl) pa_nil))) (nomark _)) (pe_one (pe_cmpR (r := rEqD K) (op_eqD hr.units) (pv 0) (pv 1) (nomark _))))))))), ?_⟩
  refine ⟨_, rfl, (by show 2 ≤ sizeLine; decide), fun t1 n1 => ?_⟩
  have s1 := same_new n1 (.tup [V.ty "tuple", V.ty "list"])
  refine ⟨u, t1, _, _, _, _, rfl, upd_same, .cons (.ty _) (.cons (.ty _) .nil), dp_ty (dp_same hu s1), isSeq_eq, _, rfl, ?_⟩
  cases hsq : isSeq d with
  | true =>
    refine iteT ⟨_, rfl, (by show 2 ≤ sizeLine; decide), fun t2 n2 => ?_⟩
    have s2 := s1.trans (same_new n2 (.tup [V.ty "tuple", V.ty "list"]))
    refine ⟨v, t2, _, _, _, _, rfl, upd_same, .cons (.ty _) (.cons (.ty _) .nil), dp_ty (dp_same hv s2), isSeq_eq, _, rfl, ?_⟩
    rw [hsq]
    have hv2 := dp_same hv s2
    have hu2 := dp_same hu s2
    obtain ⟨a, xs, rfl, ha, hA⟩ := dp_seq hv2 hsq
    obtain ⟨b, ys, rfl, hb, hB⟩ := dp_seq hu2 hsq
    have la := dps_len hA
    have lb := dps_len hB
    refine iteF ⟨_, rfl, _, _, _, _, _, rfl, .ty _, dp_ty hv2, isA_eq (by simp), _, rfl, _, _, _, _, _, rfl, .ty _, dp_ty hu2, isA_eq (by simp), rfl, _, rfl, ?_⟩
    refine iteNS rfl ?_
    refine ⟨_, rfl, a, xs, rfl, ha, _, rfl, b, ys, rfl, hb, rfl, _, rfl, iteNS (by rw [la, lb]) ?_⟩
    -- the places where they are not alike: none
    have sz : ys.length ≤ 1000 := by have := fine_len hf; omega
    refine ⟨_, rfl, b, ys, rfl, hb, _, rfl, ?_, ?_, fun D hD => lc_range (lo := 0) (n := ((ys.length : Nat) : Int).toNat) (fun i H' => Same H H' ∧ Same (upd (upd H t1 (.tup [V.ty "tuple", V.ty "list"])) t2 (.tup [V.ty "tuple", V.ty "list"])) H' ∧ H' D = some (.lst []))
      ⟨s2.trans (same_new hD _), same_new hD _, upd_same⟩ (fun i H' hi z => ?_) (fun H' z => ?_)⟩
    · exact Int.le_trans (by decide) (Int.natCast_nonneg _)
    · exact Int.lt_of_le_of_lt (Int.ofNat_le.mpr sz) (by decide)
    · obtain ⟨z1, z2, z3⟩ := z
      have hi' : i < ys.length := by omega
      obtain ⟨e, he⟩ : ∃ e, (items d)[i]? = some e := ⟨(items d)[i]'(by omega), List.getElem?_eq_getElem _⟩
      obtain ⟨x, hx, dx⟩ := dps_get hA he
      obtain ⟨y, hy, dy⟩ := dps_get hB he
      have hz : ((0 : Int) + (i : Nat)) = ((i : Nat) : Int) := by omega
      exact ⟨rfl, _, rfl, _, rfl, rd_ixseq (seq_same ha z2) (at_of (j := i) hz hx) ⟨_, rfl, _, rfl, rd_ixseq (seq_same hb z2) (at_of (j := i) hz hy) ⟨x, y, e, rfl, dp_same dx z2, dp_same dy z2, fine_item hf he, fun H3 s3 => ⟨_, rfl, z1.trans s3, z2.trans s3, s3 _ _ z3⟩⟩⟩⟩
    · obtain ⟨z1, z2, z3⟩ := z
      refine ⟨(by show 0 ≤ sizeLine; decide), fun p hp => ⟨.list [], .list [], .lst (SqL.of ((same_new hp _) _ _ z3)) .nil, .lst (SqL.of upd_same) .nil, rfl, rfl, ?_⟩⟩
      exact q _ (z1.trans (same_new hp _))
  | false =>
    have hv1 := dp_same hv s1
    have hu1 := dp_same hu s1
    have q1 := q _ s1
    cases d with
    | none =>
      cases hv1
      cases hu1
      refine iteF ⟨_, rfl, rfl, _, rfl, ⟨_, rfl, _, rfl, .none, .none, .non, .non, rfl, rfl, _, rfl, ?_⟩⟩
      exact ⟨_, rfl, _, _, _, _, _, rfl, .ty _, dp_ty .non, isA_eq (d := .none) (by simp), _, rfl, _, _, _, _, _, rfl, .ty _, dp_ty .non, isA_eq (d := .none) (by simp), rfl, by rw [decide_eq_true rfl]; exact q1⟩
    | str x =>
      have hx : PyData.strOk x = true := hf
      have sh : SeqAt.shaped (.str x) = true := by simp [SeqAt.shaped, PyData.canLay0, hx, PyData.depth]
      have er : PyData.eqv (.str x) (.str x) = true := SeqAt.eqv_refl _ (by simpa [PyData.canLay0] using hx)
      cases hv1
      cases hu1
      refine iteF ⟨_, rfl, rfl, _, rfl, ?_⟩
      refine iteF ⟨_, rfl, _, _, _, _, _, rfl, .ty _, dp_ty (.str x), isA_eq (by simp), _, rfl, ?_⟩
      rw [isA_str]
      refine iteT ⟨_, rfl, _, rfl, .str x, .str x, .str x, .str x, sh, sh, _, rfl, ?_⟩
      rw [er]
      exact iteT ⟨_, rfl, _, _, _, _, _, rfl, .ty _, dp_ty (.str x), isA_eq (by simp), _, rfl, _, _, _, _, _, rfl, .ty _, dp_ty (.str x), isA_eq (by simp), rfl, by rw [decide_eq_true rfl]; exact q1⟩
    | int i =>
      cases hv1
      cases hu1
      refine iteF ⟨_, rfl, rfl, _, rfl, ?_⟩
      refine iteF ⟨_, rfl, _, _, _, _, _, rfl, .ty _, dp_ty (.int i), isA_eq (by simp), _, rfl, ?_⟩
      rw [isA_str]
      refine iteF ⟨_, rfl, _, _, _, _, _, rfl, .ty _, dp_ty (.int i), isA_eq (by simp), _, rfl, ?_⟩
      rw [isA_int]
      refine iteT ⟨_, rfl, _, _, _, _, _, rfl, .ty _, dp_ty (.int i), isA_eq (by simp), _, rfl, _, _, _, _, _, rfl, .ty _, dp_ty (.int i), isA_eq (by simp), rfl, _, rfl, ?_⟩
      rw [decide_eq_true rfl]
      refine iteT ⟨_, rfl, _, rfl, .int i, .int i, .int i, .int i, rfl, rfl, ?_⟩
      rw [SeqAt.eqv_refl (.int i) rfl]
      exact q1
    | bool i =>
      cases hv1
      cases hu1
      refine iteF ⟨_, rfl, rfl, _, rfl, ?_⟩
      refine iteF ⟨_, rfl, _, _, _, _, _, rfl, .ty _, dp_ty (.bl i), isA_eq (by simp), _, rfl, ?_⟩
      rw [isA_str]
      refine iteF ⟨_, rfl, _, _, _, _, _, rfl, .ty _, dp_ty (.bl i), isA_eq (by simp), _, rfl, ?_⟩
      rw [isA_int]
      refine iteT ⟨_, rfl, _, _, _, _, _, rfl, .ty _, dp_ty (.bl i), isA_eq (by simp), _, rfl, _, _, _, _, _, rfl, .ty _, dp_ty (.bl i), isA_eq (by simp), rfl, _, rfl, ?_⟩
      rw [decide_eq_true rfl]
      refine iteT ⟨_, rfl, _, rfl, .bool i, .bool i, .bl i, .bl i, rfl, rfl, ?_⟩
      rw [SeqAt.eqv_refl (.bool i) rfl]
      exact q1
    | list ds => cases hsq
    | tuple ds => cases hsq
    | dict ds => exact hf.elim
theorem alike_none (T : Env K mg) : FnOk P w K mg base CX0 0 T.f_law_alike T.d_law_alike ["_law_found", "_law_due"] (spAlike K 0) := by
  have no : ∀ vs H Q E, ¬ spAlike K 0 vs H Q E := fun vs H Q E h => by
    obtain ⟨v, u, d, _, _, _, hd, _⟩ := h
    exact hd
  exact ⟨fun vs H Q E h => absurd h (no vs H Q E), fun A outer s H args us vs Q E _ _ _ _ h => absurd h (no vs H Q E)⟩
theorem alike_all (T : Env K mg) : ∀ n : Nat, FnOk P w K mg base CX0 n T.f_law_alike T.d_law_alike ["_law_found", "_law_due"] (spAlike K n)
  | 0 => alike_none T
  | n + 1 => alike_step T (alike_all T n)
theorem ok_law_alike (T : Env K mg) : FnOk P w K mg base CX0 9 T.f_law_alike T.d_law_alike ["_law_found", "_law_due"] (spAlike K 9) := alike_all T 9
end
end Wb
namespace Wb
open PySem L2
section
variable {P : Program} {w : World} {K : PySem.W.Frag} {mg : Str → Option Value} {base : Heap}
def spPick (K : PySem.W.Frag) : Sp := fun vs H Q _ => ∃ (h l a : Addr) (xs : List V), vs = [.ref h, .ref a] ∧ Src h l H ∧ SqL K (cut h l H) a xs ∧ xs ≠ [] ∧ xs.length ≤ 1000 ∧
  ∀ (i : Nat) v H', xs[i]? = some v → Src h l H' → Old h l H H' → Q v H'
theorem ok_law_pick (T : Env K mg) : FnOk P w K mg base CX0 2 T.f_law_pick T.d_law_pick ["_law_h", "_law_things"] (spPick K) := by
  refine T.F_law_pick.ok sc_law_pick (fun vs H Q E h => ?_) (fun cdv A outer s H vs Q E hr h => ?_)
  · (obtain ⟨h, l, a, xs, rfl, _⟩ := h; rfl)
  obtain ⟨h, l, a, xs, rfl, S, ha, ne, le, q⟩ := h
  refine ⟨_, (pss_one (ps_ret (pe_ix (r := rIxL K) ix_list (pv 1) (pe_call (ok_law_next T) (hr.mono (by decide)) rfl T.m_law_next T.F_law_next.kp T.b_law_next .nil pass0 (pa_cons (pv 0) (pa_cons (pe_callB (r := rLenS K) call_lenS (by rfl) T.z_len (by decide +kernel) (pa_cons (pv 1) pa_nil)) pa_nil))) (fun _ _ => rfl)))), ?_⟩
  have pos : 0 < xs.length := List.length_pos_iff.mpr ne
  refine ⟨_, rfl, _, rfl, _, rfl, a, xs, rfl, (.inl ((cut_same h l H).seq ha)), h, l, (xs.length : Int), rfl, S, by omega, by omega, fun r H' hr S' o => ?_⟩
  have hr' : r < xs.length := by omega
  exact ⟨a, xs, _, _, rfl, rfl, (cut_same h l H').seq (o.cut.seq ha), at_of (j := r) rfl (List.getElem?_eq_getElem hr'), q r _ H' (List.getElem?_eq_getElem hr') S' o⟩
end
end Wb
namespace Wb
open PySem L2
section
variable {P : Program} {w : World} {K : PySem.W.Frag} {mg : Str → Option Value} {base : Heap}
def spDraw (K : PySem.W.Frag) : Sp := fun vs H Q _ => ∃ (h l : Addr), vs = [.ref h] ∧ Src h l H ∧
  ∀ v (t : Tab) (n : Nat) H', Good t n → Src h l H' → Old h l H H' → Dp K (tups H') v (tabD t) → Q v H'
def twoRow (s : Nat) : List (Nat × Nat) := [(2 * s % 4, s / 2), ((2 * s + 1) % 4, s / 2)]
def twoTab : Tab := [twoRow 0, twoRow 1, twoRow 2, twoRow 3]
theorem two_good : Good twoTab 2 := by
  refine ⟨by decide, by decide, by decide, by decide, ?_, ?_⟩ <;> decide
theorem two_get {i : Nat} (h : i < 4) : twoTab[i]? = some (twoRow i) := by
  have : ∀ j : Fin 4, twoTab[j.val]? = some (twoRow j.val) := by decide
  exact this ⟨i, h⟩
theorem two_val {s j : Nat} (hs : s < 4) (hj : j < 2) : (twoRow s)[j]? = some ((2 * s + j) % 4, s / 2) := by
  have : ∀ (a : Fin 4) (b : Fin 2), (twoRow a.val)[b.val]? = some ((2 * a.val + b.val) % 4, a.val / 2) := by decide
  exact this ⟨s, hs⟩ ⟨j, hj⟩
/-- rows as they are drawn -/
def RowsOk (t : Tab) (m n : Nat) : Prop := ∀ r ∈ t, r.length = n ∧ ∀ s ∈ r, s.1 < m ∧ s.2 ≤ 3
theorem range_lo (m : Nat) : -(2 ^ 62) ≤ ((m : Nat) : Int) := Int.le_trans (by decide) (Int.natCast_nonneg _)
theorem range_hi {m : Nat} (h : m ≤ 1000) : ((m : Nat) : Int) < 2 ^ 62 := Int.lt_of_le_of_lt (Int.ofNat_le.mpr h) (by decide)
theorem step_dp {K : PySem.W.Frag} {H : Hp} {p : Addr} {a b : Int} {x y : Nat} (h : H p = some (.tup [.int a, .int b])) (ea : a = (x : Int)) (eb : b = (y : Int)) : Dp K (tups H) (.ref p) (stepD (x, y)) := by
  subst ea eb
  exact .tup (SqT.of (tups_of h)) (.cons (.int _) (.cons (.int _) .nil))
theorem ok_law_table (T : Env K mg) : FnOk P w K mg base CX0 2 T.f_law_table T.d_law_table ["_law_h"] (spDraw K) := by
  refine T.F_law_table.ok sc_law_table (fun vs H Q E h => ?_) (fun cdv A outer s H vs Q E hr h => ?_)
  · (obtain ⟨h, l, rfl, _⟩ := h; rfl)
  obtain ⟨h, l, rfl, S, q⟩ := h
  refine ⟨_, (pss_cons (ps_par (i := 1) (j := 2) (by rfl) sc_law_table.nd rfl rfl (by decide) rfl rfl (pa_cons (pe_call (ok_law_next T) (hr.mono (by decide)) rfl T.m_law_next T.F_law_next.kp T.b_law_next .nil pass0 (pa_cons (pv 0) (pa_cons pe_int pa_nil))) (pa_cons (pe_op op_add pe_int (pe_call (ok_law_next T) (hr.mono (by decide)) rfl T.m_law_next T.F_law_next.kp T.b_law_next .nil pass0 (pa_cons (pv 0) (pa_cons pe_int pa_nil)))) pa_nil)) (by rfl))
    (pss_cons (ps_if (pt_cmpR op_eq (pv 1) pe_int (nomark _))
      (pss_cons (ps_set (i := 3) sc_law_table.nd rfl (Or.inl rfl) (pe_lst pa_nil))
      (pss_cons (ps_for PassesOwn.never rfl (pi_range1 rfl T.z_range (pa_cons pe_int pa_nil)) (pg_name (i := 4) sc_law_table.nd rfl (Or.inr rfl))
        (pss_one (ps_expr (pe_bm PySem.F.plainAttrs_list PySem.F.slot_list_append PySem.F.type_list_append mt_append (pv 3) (pa_cons (pe_callTy (r := rTupOf K) call_tupS (by rfl) T.z_tuple (by decide +kernel) (pa_cons (pe_lc (own := [("_law_letter", 5)]) (g := gName 5) rfl sc_law_table.nd (pi_range1 rfl T.z_range (pa_cons pe_int pa_nil)) (blkOk_by (own := [("_law_letter", 5)]) (N := n_law_table) (sc := defScope s_law_table) (by decide +kernel)) (fun _ _ _ _ _ => (pg_name (i := 5) sc_law_table.nd rfl (Or.inl rfl))) (fun _ _ _ _ _ => pts_nil) (fun _ _ _ _ _ => (pe_tup (pa_cons (pe_op op_mod (pe_callTy call_int1 (by rfl) T.z_int (by decide +kernel) (pa_cons (pe_op op_add (pe_op op_mul pe_int (pv 4)) (pv 5)) pa_nil)) pe_int) (pa_cons (pe_op op_fdiv (pv 4) pe_int) pa_nil))))) pa_nil)) pa_nil)))))
      (pss_one (ps_ret (pe_callTy (r := rTupOf K) call_tupS (by rfl) T.z_tuple (by decide +kernel) (pa_cons (pv 3) pa_nil))))))
      pss_nil)
    (pss_cons (ps_par3 (i := 6) (j := 7) (l := 8) (by rfl) sc_law_table.nd rfl rfl rfl (by decide) (by decide) (by decide) rfl rfl rfl (pa_cons (pe_op op_add pe_int (pe_call (ok_law_next T) (hr.mono (by decide)) rfl T.m_law_next T.F_law_next.kp T.b_law_next .nil pass0 (pa_cons (pv 0) (pa_cons pe_int pa_nil)))) (pa_cons (pe_op op_add pe_int (pe_call (ok_law_next T) (hr.mono (by decide)) rfl T.m_law_next T.F_law_next.kp T.b_law_next .nil pass0 (pa_cons (pv 0) (pa_cons pe_int pa_nil)))) (pa_cons (pe_lst pa_nil) pa_nil))) (by rfl))
    (pss_cons (ps_for PassesOwn.never rfl (pi_range1 rfl T.z_range (pa_cons (pv 6) pa_nil)) (pg_name (i := 4) sc_law_table.nd rfl (Or.inr rfl))
      (pss_cons (ps_par (i := 9) (j := 10) (by rfl) sc_law_table.nd rfl rfl (by decide) rfl rfl (pa_cons (pe_call (ok_law_next T) (hr.mono (by decide)) rfl T.m_law_next T.F_law_next.kp T.b_law_next .nil pass0 (pa_cons (pv 0) (pa_cons pe_int pa_nil))) (pa_cons (pe_cmpR op_eq (pe_call (ok_law_next T) (hr.mono (by decide)) rfl T.m_law_next T.F_law_next.kp T.b_law_next .nil pass0 (pa_cons (pv 0) (pa_cons pe_int pa_nil))) pe_int (nomark _)) pa_nil)) (by rfl))
      (pss_cons (ps_set (i := 11) sc_law_table.nd rfl (Or.inl rfl) (pe_lst pa_nil))
      (pss_cons (ps_for PassesOwn.never rfl (pi_range1 rfl T.z_range (pa_cons (pv 2) pa_nil)) (pg_name (i := 5) sc_law_table.nd rfl (Or.inl rfl))
        (C8.pss_cut (ps_set (i := 12) sc_law_table.nd rfl (Or.inl rfl) (pe_ifExp (pt_cmpR op_lt (pv 1) pe_int (nomark _)) (pe_call (ok_law_next T) (hr.mono (by decide)) rfl T.m_law_next T.F_law_next.kp T.b_law_next .nil pass0 (pa_cons (pv 0) (pa_cons (pv 7) pa_nil))) (pe_op op_mod (pe_callTy call_int1 (by rfl) T.z_int (by decide +kernel) (pa_cons (pe_op op_add (pv 9) (pe_ifExp (pt_val (pv 10)) pe_int (pv 5))) pa_nil)) pe_int)))
        (pss_one (ps_expr (pe_bm PySem.F.plainAttrs_list PySem.F.slot_list_append PySem.F.type_list_append mt_append (pv 11) (pa_cons (pe_tup (pa_cons (pe_call (ok_law_next T) (hr.mono (by decide)) rfl T.m_law_next T.F_law_next.kp T.b_law_next .nil pass0 (pa_cons (pv 0) (pa_cons (pv 6) pa_nil))) (pa_cons (pv 12) pa_nil))) pa_nil))))))
      (pss_one (ps_expr (pe_bm PySem.F.plainAttrs_list PySem.F.slot_list_append PySem.F.type_list_append mt_append (pv 8) (pa_cons (pe_callTy (r := rTupOf K) call_tupS (by rfl) T.z_tuple (by decide +kernel) (pa_cons (pv 11) pa_nil)) pa_nil))))))))
    (pss_one (ps_ret (pe_callTy (r := rTupOf K) call_tupS (by rfl) T.z_tuple (by decide +kernel) (pa_cons (pv 8) pa_nil)))))))), ?_⟩
  refine ⟨_, rfl, h, l, 6, rfl, S, by decide, by decide, fun k1 H1 hk1 S1 o1 => ⟨_, rfl, h, l, 2, rfl, S1, by decide, by decide, fun k2 H2 hk2 S2 o2 => ⟨_, _, rfl, rfl, _, _, rfl, ?_⟩⟩⟩
  obtain ⟨n, en, hn2, hn3⟩ : ∃ n : Nat, (2 : Int) + (k2 : Int) = (n : Int) ∧ 2 ≤ n ∧ n ≤ 3 := ⟨2 + k2, by omega, by omega, by omega⟩
  have o12 := o1.trans o2
  refine ⟨_, rfl, rfl, _, rfl, ite2 (fun _ => ?_) (fun _ => ?_)⟩
  · -- what was read two letters ago
    refine ⟨(by show 0 ≤ sizeLine; decide), fun ps nps => ?_⟩
    have nh : ps ≠ h := S2.neh nps
    have nl : ps ≠ l := S2.nel nps
    have hps0 : H ps = none := o12.free nps nh nl
    refine ⟨4, rfl, by decide, by decide, for_range (lo := 0) (n := 4) (fun i σ H' => (∃ y, σ = [some (.ref h), some (.int (k1 : Int)), some (.int (2 + (k2 : Int))), some (.ref ps), y, none, none, none, none, none, none, none, none]) ∧ Src h l H' ∧ Old h l H H' ∧
        ∃ rows, H' ps = some (.lst rows) ∧ rows.length = i ∧ DpAll K (tups H') rows ((twoTab.take i).map rowD))
      ⟨⟨_, rfl⟩, S2.new nps _, o12.new nps _, [], upd_same, rfl, .nil⟩ (fun i σ H' hi z => ?_) (fun σ H' z => ?_)⟩
    · obtain ⟨⟨y, rfl⟩, S3, o3, rows, hr, lr, dr⟩ := z
      refine ⟨_, rfl, .inl ⟨rfl, _, SqL.of hr⟩, 2, rfl, by decide, by decide, fun D hD => lc_range (lo := 0) (n := 2)
        (fun j H'' => Same H' H'' ∧ ∃ st, H'' D = some (.lst st) ∧ st.length = j ∧ DpAll K (tups H'') st (((twoRow i).take j).map stepD))
        ⟨same_new hD _, [], upd_same, rfl, .nil⟩ (fun j H'' hj z => ?_) (fun H'' z => ?_)⟩
      · obtain ⟨s4, st, hst, lst, dst⟩ := z
        refine ⟨rfl, _, rfl, _, _, rfl, rfl, .inl ⟨by decide, by decide⟩, _, rfl, _, _, rfl, rfl, .inl ⟨_, rfl, _, _, rfl, rfl, (by show (0 : Int) < _; decide), _, rfl, _, _, rfl, rfl, ⟨by decide, by decide⟩, (by show 2 ≤ sizeLine; decide), fun p np => ?_⟩⟩
        have nDp : D ≠ p := ne_of_none hst np
        refine ⟨st, (upd_ne nDp).trans hst, small1000 (by omega), Same.put (s4.trans (same_new np _)) hD _, st ++ [.ref p], upd_same, by rw [List.length_append, lst]; rfl, ?_⟩
        · rw [take_snoc (two_val hi hj), List.map_append]
          refine dps_snoc (dps_ts dst (((TS.refl H'').new np _).lst ((upd_ne nDp).trans hst) _)) (step_dp ((upd_ne nDp.symm).trans upd_same) ?_ ?_)
          · show (2 * (0 + ((i : Nat) : Int)) + (0 + ((j : Nat) : Int))) % 4 = (((2 * i + j) % 4 : Nat) : Int)
            omega
          · show (0 + ((i : Nat) : Int)) / 2 = ((i / 2 : Nat) : Int)
            omega
      · obtain ⟨s4, st, hst, lst, dst⟩ := z
        have hr4 := s4 _ _ hr
        refine ⟨D, _, rfl, .inl ⟨SqL.of hst, fun p np => ?_⟩⟩
        have s5 := s4.trans (same_new np (.tup st))
        have hr5 := s5 _ _ hr
        have nps2 : p ≠ ps := (ne_of_none hr4 np).symm
        refine ⟨ps, rows, _, rfl, rfl, hr5, small1000 (by omega), ⟨_, rfl⟩, (S3.same s5).upd nh nl _, (o3.trans (Old.of s5)).put hps0 _, rows ++ [.ref p], upd_same, by rw [List.length_append, lr]; rfl, ?_⟩
        · rw [take_snoc (two_get hi), List.map_append]
          have e2 : (twoRow i).take 2 = twoRow i := rfl
          rw [e2] at dst
          exact dps_snoc (dps_ts dr ((TS.same s5).lst hr5 _)) (.tup (SqT.of (tups_of ((upd_ne nps2).trans upd_same))) (dps_ts dst (((TS.refl H'').new np _).lst hr5 _)))
    · obtain ⟨⟨y, rfl⟩, S3, o3, rows, hr, lr, dr⟩ := z
      refine ⟨_, rfl, ps, _, rfl, .inl ⟨SqL.of hr, fun p np => ?_⟩⟩
      exact q _ twoTab 2 _ two_good (S3.new np _) (o3.new np _) (.tup (SqT.of (tups_of upd_same)) (dps_ts dr ((TS.refl _).new np _)))
  · -- a number of stands, a bound for what is written, no rows
    refine ⟨_, rfl, h, l, 6, rfl, S2, by decide, by decide, fun k3 H3 hk3 S3 o3 => ⟨_, _, rfl, rfl, _, rfl, h, l, 4, rfl, S3, by decide, by decide, fun k4 H4 hk4 S4 o4 => ⟨_, _, rfl, rfl, (by show 0 ≤ sizeLine; decide), fun ps nps => ⟨_, _, _, rfl, ?_⟩⟩⟩⟩
    have o14 := (o12.trans o3).trans o4
    have nh : ps ≠ h := S4.neh nps
    have nl : ps ≠ l := S4.nel nps
    have hps0 : H ps = none := o14.free nps nh nl
    obtain ⟨m, em, hm1, hm6⟩ : ∃ m : Nat, (1 : Int) + (k3 : Int) = (m : Int) ∧ 1 ≤ m ∧ m ≤ 6 := ⟨1 + k3, by omega, by omega, by omega⟩
    obtain ⟨c, ec, hc1, hc4⟩ : ∃ c : Nat, (1 : Int) + (k4 : Int) = (c : Int) ∧ 1 ≤ c ∧ c ≤ 4 := ⟨1 + k4, by omega, by omega, by omega⟩
    refine ⟨_, rfl, _, rfl, em ▸ range_lo m, em ▸ range_hi (by omega), for_range (lo := 0) (n := (1 + (k3 : Int)).toNat)
      (fun i σ H' => (∃ y z a b r w, σ = [some (.ref h), some (.int (k1 : Int)), some (.int (2 + (k2 : Int))), none, y, z, some (.int (1 + (k3 : Int))), some (.int (1 + (k4 : Int))), some (.ref ps), a, b, r, w]) ∧ Src h l H' ∧ Old h l H H' ∧
        ∃ (rows : List V) (t : Tab), H' ps = some (.lst rows) ∧ t.length = i ∧ RowsOk t m n ∧ DpAll K (tups H') rows (t.map rowD))
      ⟨⟨_, _, _, _, _, _, rfl⟩, S4.new nps _, o14.new nps _, [], [], upd_same, rfl, (fun r hr => by cases hr), .nil⟩ (fun i σ H' hi z => ?_) (fun σ H' z => ?_)⟩
    · obtain ⟨⟨y, z, a, b, r, w', rfl⟩, S5, o5, rows, t, hr, lt, ok, dr⟩ := z
      refine ⟨_, rfl, h, l, 4, rfl, S5, by decide, by decide, fun k5 H6 hk5 S6 o6 => ⟨_, rfl, h, l, 4, rfl, S6, by decide, by decide, fun k6 H7 hk6 S7 o7 => ⟨rfl, _, _, rfl, (by show 0 ≤ sizeLine; decide), fun pr npr => ?_⟩⟩⟩
      have o57 := o6.trans o7
      have hr7 : H7 ps = some (.lst rows) := o57 _ _ hr nh nl
      have prh : pr ≠ h := S7.neh npr
      have prl : pr ≠ l := S7.nel npr
      have npp : ps ≠ pr := ne_of_none hr7 npr
      have hpr0 : H pr = none := (o5.trans o57).free npr prh prl
      have d7 : DpAll K (tups (upd H7 pr (.lst []))) rows (t.map rowD) := dps_ts dr ((o57.ts S5).new npr _)
      refine ⟨_, rfl, _, rfl, en ▸ range_lo n, en ▸ range_hi (by omega), for_range (lo := 0) (n := (2 + (k2 : Int)).toNat)
        (fun j σ H' => (∃ y z w b, σ = [some (.ref h), some (.int (k1 : Int)), some (.int (2 + (k2 : Int))), none, y, z, some (.int (1 + (k3 : Int))), some (.int (1 + (k4 : Int))), some (.ref ps), some (.int (k5 : Int)), some (.bl b), some (.ref pr), w]) ∧ Src h l H' ∧ Old h l H H' ∧
          H' ps = some (.lst rows) ∧ DpAll K (tups H') rows (t.map rowD) ∧ ∃ (st : List V) (rr : List (Nat × Nat)), H' pr = some (.lst st) ∧ rr.length = j ∧ (∀ s ∈ rr, s.1 < m ∧ s.2 ≤ 3) ∧ DpAll K (tups H') st (rr.map stepD))
        ⟨⟨_, _, _, _, rfl⟩, S7.new npr _, (o5.trans o57).new npr _, (upd_ne npp).trans hr7, d7, [], [], upd_same, rfl, (fun s hs => by cases hs), .nil⟩ (fun j σ H' hj z => ?_) (fun σ H' z => ?_)⟩
      · obtain ⟨⟨y, z, w2, b2, rfl⟩, S8, o8, hr8, d8, st, rw', hst, lrw, okr, dst⟩ := z
        have fin : ∀ (sg : Nat) (H9 : Hp), sg ≤ 3 → Src h l H9 → Old h l H' H9 → H9 pr = some (.lst st) := fun _ _ _ _ o9 => o9 _ _ hst prh prl
        refine ⟨fun σ' H9 => ∃ sg : Nat, sg ≤ 3 ∧ σ' = [some (.ref h), some (.int (k1 : Int)), some (.int (2 + (k2 : Int))), none, y, some (.int (0 + (j : Nat))), some (.int (1 + (k3 : Int))), some (.int (1 + (k4 : Int))), some (.ref ps), some (.int (k5 : Int)), some (.bl b2), some (.ref pr), some (.int (sg : Int))] ∧ Src h l H9 ∧ Old h l H' H9, ?_, fun σ' H9 mid => ?_⟩
        · refine ⟨_, rfl, _, _, rfl, rfl, _, rfl, ite2 (fun _ => ?_) (fun _ => ?_)⟩
          · refine ⟨_, rfl, _, rfl, h, l, 1 + (k4 : Int), rfl, S8, by omega, by omega, fun k H9 hk S9 o9 => ⟨k, by omega, rfl, S9, o9⟩⟩
          · refine ⟨_, rfl, _, rfl, _, rfl, ite2 (fun _ => ?_) (fun _ => ?_)⟩
            · obtain ⟨k, ek, hk⟩ := mod_nat (i := (k5 : Int) + 0) (j := 4) (by decide)
              refine ⟨_, _, rfl, rfl, .inl ⟨_, rfl, _, _, rfl, rfl, (by show (0 : Int) < _; decide), k, by omega, ?_, S8, Old.refl _⟩⟩
              show List.set _ _ (some (V.int (((k5 : Int) + 0) % 4))) = _
              rw [ek]
              rfl
            · obtain ⟨k, ek, hk⟩ := mod_nat (i := (k5 : Int) + (0 + (j : Nat))) (j := 4) (by decide)
              refine ⟨_, rfl, _, _, rfl, rfl, .inl ⟨_, rfl, _, _, rfl, rfl, (by show (0 : Int) < _; decide), k, by omega, ?_, S8, Old.refl _⟩⟩
              show List.set _ _ (some (V.int (((k5 : Int) + (0 + (j : Nat))) % 4))) = _
              rw [ek]
              rfl
        · obtain ⟨sg, hsg, rfl, S9, o9⟩ := mid
          have hst9 := o9 _ _ hst prh prl
          refine ⟨_, rfl, .inl ⟨rfl, _, SqL.of hst9⟩, _, rfl, _, rfl, h, l, 1 + (k3 : Int), rfl, S9, by omega, by omega, fun k Ha hk Sa oa => ⟨_, rfl, (by show 2 ≤ sizeLine; decide), fun p np => ?_⟩⟩
          have o8a := o9.trans oa
          have hsta := o8a _ _ hst prh prl
          have hra := o8a _ _ hr8 nh nl
          have nprp : pr ≠ p := ne_of_none hsta np
          have npsp : ps ≠ p := ne_of_none hra np
          have hstb : (upd Ha p (.tup [.int (k : Int), .int (sg : Int)])) pr = some (.lst st) := (upd_ne nprp).trans hsta
          have ts : TS H' (upd (upd Ha p (.tup [.int (k : Int), .int (sg : Int)])) pr (.lst (st ++ [.ref p]))) := ((o8a.ts S8).new np _).lst hstb _
          refine ⟨pr, st, _, rfl, rfl, hstb, ?_, ⟨_, _, _, _, rfl⟩, (Sa.new np _).upd prh prl _, ((o8.trans o8a).new np _).put hpr0 _, (upd_ne npp).trans ((upd_ne npsp).trans hra), dps_ts d8 ts, st ++ [.ref p], rw' ++ [(k, sg)], upd_same, by rw [List.length_append, lrw]; rfl, ?_, ?_⟩
          · rw [dps_len dst, List.length_map, lrw]
            exact small1000 (by omega)
          · intro s hs
            rcases List.mem_append.mp hs with z | z
            · exact okr s z
            · rw [List.mem_singleton.mp z]
              exact ⟨by show k < m; omega, hsg⟩
          · rw [List.map_append]
            exact dps_snoc (dps_ts dst ts) (step_dp ((upd_ne nprp.symm).trans upd_same) rfl rfl)
      · obtain ⟨⟨y, z, w2, b2, rfl⟩, S8, o8, hr8, d8, st, rw', hst, lrw, okr, dst⟩ := z
        refine ⟨_, rfl, .inl ⟨rfl, _, SqL.of hr8⟩, _, rfl, pr, st, rfl, .inl ⟨SqL.of hst, fun p np => ?_⟩⟩
        have hr9 := (same_new np (.tup st)) _ _ hr8
        have npsp : ps ≠ p := ne_of_none hr8 np
        have ts : TS H' (upd (upd H' p (.tup st)) ps (.lst (rows ++ [.ref p]))) := ((TS.refl H').new np _).lst hr9 _
        refine ⟨ps, rows, _, rfl, rfl, hr9, ?_, ⟨_, _, _, _, _, _, rfl⟩, (S8.new np _).upd nh nl _, (o8.new np _).put hps0 _, rows ++ [.ref p], t ++ [rw'], upd_same, by rw [List.length_append, lt]; rfl, ?_, ?_⟩
        · rw [dps_len d8, List.length_map, lt]
          exact small1000 (by omega)
        · intro r' hr'
          rcases List.mem_append.mp hr' with z | z
          · exact ok r' z
          · rw [List.mem_singleton.mp z]
            exact ⟨by omega, okr⟩
        · rw [List.map_append]
          exact dps_snoc (dps_ts d8 ts) (.tup (SqT.of (tups_of ((upd_ne npsp.symm).trans upd_same))) (dps_ts dst ts))
    · obtain ⟨⟨y, z, a, b, r, w', rfl⟩, S5, o5, rows, t, hr, lt, ok, dr⟩ := z
      refine ⟨_, rfl, ps, _, rfl, .inl ⟨SqL.of hr, fun p np => ?_⟩⟩
      have lt' : t.length = m := by omega
      exact q _ t n _ ⟨by omega, by omega, hn2, hn3, fun r hr => (ok r hr).1, fun r hr s hs => by rw [lt']; exact (ok r hr).2 s hs⟩ (S5.new np _) (o5.new np _) (.tup (SqT.of (tups_of upd_same)) (dps_ts dr ((TS.refl _).new np _)))
end
end Wb
namespace Wb
open PySem L2
section
variable {P : Program} {w : World} {K : PySem.W.Frag} {mg : Str → Option Value} {base : Heap}
def isI (d : PyData) : Prop := ∃ i, d = .int i
def spLStep (K : PySem.W.Frag) : Sp := fun vs H Q _ => ∃ (v : V) (d : PyData) (n : Int), vs = [v, .int n] ∧ Dp K H v d ∧ Q (.bl (stepOk d n)) H
theorem step_ints (a b n : Int) : stepOk (.tuple [.int a, .int b]) n = ((decide (0 ≤ a) && decide (a < n)) && (decide (0 ≤ b) && decide (b ≤ 3))) := by
  have e : decide (a ≤ n - 1) = decide (a < n) := by
    by_cases h : a < n
    · rw [decide_eq_true h, decide_eq_true (by omega)]
    · rw [decide_eq_false h, decide_eq_false (by omega)]
  show (decide (0 ≤ a) && decide (a ≤ n - 1) && (decide (0 ≤ b) && decide (b ≤ 3))) = _
  rw [e]
theorem step_not {x y : PyData} {n : Int} (h : ¬ isI x ∨ ¬ isI y) : stepOk (.tuple [x, y]) n = false := by
  show (btw x 0 (n - 1) && btw y 0 3) = false
  rcases h with h | h
  · have : btw x 0 (n - 1) = false := by
      cases x with
      | int i => exact absurd ⟨i, rfl⟩ h
      | _ => rfl
    rw [this, Bool.false_and]
  · have : btw y 0 3 = false := by
      cases y with
      | int i => exact absurd ⟨i, rfl⟩ h
      | _ => rfl
    rw [this, Bool.and_false]
theorem ok_law_step (T : Env K mg) : FnOk P w K mg base CX0 1 T.f_law_step T.d_law_step ["_law_thing", "_law_many"] (spLStep K) := by
  refine T.F_law_step.ok sc_law_step (fun vs H Q E h => ?_) (fun cdv A outer s H vs Q E hr h => ?_)
  · (obtain ⟨v, d, n, rfl, _⟩ := h; rfl)
  obtain ⟨v, d, n, rfl, hd, q⟩ := h
  refine ⟨_, (pss_cons (ps_if (PW.pt (pw_or (pt_not (pt_val (pe_callB (r := rIsi K) call_isi (by rfl) T.z_isinstance (by decide +kernel) (pa_cons (pv 0) (pa_cons (pe_bltn (v := .ty "tuple") (u := .type "tuple") (by rfl) T.z_tuple (by decide +kernel) rfl) pa_nil))))) (pw_or1 (pt_cmpR op_ne (pe_callB (r := rLenS K) call_lenS (by rfl) T.z_len (by decide +kernel) (pa_cons (pv 0) pa_nil)) pe_int (nomark _)))))
      (pss_one (ps_ret pe_bl))
      pss_nil)
    (pss_cons (ps_for PassesOwn.never rfl (pi_tup (pv 0)) (pg_name (i := 2) sc_law_step.nd rfl (Or.inl rfl))
      (pss_one (ps_if (PW.pt (pw_or (pt_not (pt_val (pe_callB (r := rIsi K) call_isi (by rfl) T.z_isinstance (by decide +kernel) (pa_cons (pv 2) (pa_cons (pe_bltn (v := .ty "int") (u := .type "int") (by rfl) T.z_int (by decide +kernel) rfl) pa_nil))))) (pw_or1 (pt_val (pe_callB (r := rIsi K) call_isi (by rfl) T.z_isinstance (by decide +kernel) (pa_cons (pv 2) (pa_cons (pe_bltn (v := .ty "bool") (u := .type "bool") (by rfl) T.z_bool (by decide +kernel) rfl) pa_nil)))))))
        (pss_one (ps_ret pe_bl))
        pss_nil)))
    (pss_one (ps_ret (pe_and (pe_chain op_le op_lt pe_int (pe_ix (r := rIxT K) ix_tup (pv 0) pe_int (fun _ _ => rfl)) (pv 1)) (pe_one (pe_chain op_le op_le pe_int (pe_ix (r := rIxT K) ix_tup (pv 0) pe_int (fun _ _ => rfl)) pe_int))))))), ?_⟩
  refine ⟨_, rfl, _, _, _, _, _, rfl, .ty _, dp_ty hd, isA_eq (by simp), _, rfl, ?_⟩
  rw [isA_tuple]
  cases d with
  | tuple ds =>
    obtain ⟨a, xs, rfl, hx, hA⟩ := dp_tup hd
    have hl := dps_len hA
    refine iteF ⟨_, rfl, a, xs, rfl, .inr hx, rfl, _, rfl, ?_⟩
    rw [hl]
    by_cases h2 : ds.length = 2
    · refine iteNS (by rw [h2]; rfl) ?_
      obtain ⟨x, y, rfl⟩ : ∃ x y, ds = [x, y] := by
        match ds, h2 with
        | [x, y], _ => exact ⟨x, y, rfl⟩
      obtain ⟨u0, hu0, du0⟩ := dps_get hA (i := 0) rfl
      obtain ⟨u1, hu1, du1⟩ := dps_get hA (i := 1) rfl
      refine ⟨_, rfl, a, rfl, ⟨xs, hx⟩, for_tup (xs := xs) (fun i σ H' => (∃ z, σ = [some (.ref a), some (.int n), z]) ∧ H' = H ∧ (0 < i → isI x) ∧ (1 < i → isI y))
        ⟨⟨_, rfl⟩, rfl, fun z => absurd z (Nat.lt_irrefl _), fun z => absurd z (by decide)⟩ (fun i σ H' _ z => z.2.1 ▸ hx) (fun i u σ H' hi z => ?_) (fun σ H' z => ?_)⟩
      · obtain ⟨⟨z0, rfl⟩, rfl, i1, i2⟩ := z
        obtain ⟨e, he, de⟩ := dps_getV hA hi
        refine ⟨_, rfl, _, _, _, _, _, rfl, .ty _, dp_ty de, isA_eq (by simp), _, rfl, ?_⟩
        have no : ¬ isI e → Q (.bl false) H' := fun ne => by
          have ef : stepOk (.tuple [x, y]) n = false := by
            match i, he with
            | 0, he =>
              have : x = e := Option.some.inj he
              exact step_not (.inl (this ▸ ne))
            | 1, he =>
              have : y = e := Option.some.inj he
              exact step_not (.inr (this ▸ ne))
            | i + 2, he => cases he
          rw [ef] at q
          exact q
        rw [isA_int]
        cases e with
        | int k =>
          refine iteF ⟨_, rfl, _, _, _, _, _, rfl, .ty _, dp_ty de, isA_eq (by simp), _, rfl, ?_⟩
          rw [isA_bool]
          refine iteF ⟨⟨_, rfl⟩, rfl, fun _ => ?_, fun h1 => ?_⟩
          · rcases Nat.eq_zero_or_pos i with z | z
            · subst z
              have : x = .int k := Option.some.inj he
              exact ⟨k, this⟩
            · exact i1 z
          · rcases Nat.lt_or_ge 1 i with z | z
            · exact i2 z
            · have ei : i = 1 := by omega
              subst ei
              have : y = .int k := Option.some.inj he
              exact ⟨k, this⟩
        | bool k =>
          refine iteF ⟨_, rfl, _, _, _, _, _, rfl, .ty _, dp_ty de, isA_eq (by simp), _, rfl, ?_⟩
          rw [isA_bool]
          exact iteT (no fun z => by obtain ⟨k, z⟩ := z; cases z)
        | none => exact no fun z => by obtain ⟨k, z⟩ := z; cases z
        | str s => exact no fun z => by obtain ⟨k, z⟩ := z; cases z
        | list s => exact no fun z => by obtain ⟨k, z⟩ := z; cases z
        | tuple s => exact no fun z => by obtain ⟨k, z⟩ := z; cases z
        | dict s => exact no fun z => by obtain ⟨k, z⟩ := z; cases z
      · obtain ⟨⟨z0, rfl⟩, rfl, i1, i2⟩ := z
        rw [hl] at i1 i2
        obtain ⟨k0, rfl⟩ := i1 (by show 0 < 2; decide)
        obtain ⟨k1, rfl⟩ := i2 (by show 1 < 2; decide)
        rw [step_ints] at q
        refine ⟨_, rfl, a, xs, _, _, rfl, rfl, hx, at_of (j := 0) rfl hu0, 0, k0, rfl, dp_int du0, _, rfl, ?_⟩
        refine ite2 (fun c => ⟨_, rfl, k0, n, dp_int du0, rfl, _, rfl, ?_⟩) (fun c => ?_)
        · rw [c, Bool.true_and] at q
          refine ite2 (fun c2 => ?_) (fun c2 => ?_)
          · rw [c2, Bool.true_and] at q
            refine ⟨_, rfl, a, xs, _, _, rfl, rfl, hx, at_of (j := 1) rfl hu1, 0, k1, rfl, dp_int du1, _, rfl, ?_⟩
            refine ite2 (fun c3 => ⟨k1, 3, dp_int du1, rfl, ?_⟩) (fun c3 => ?_)
            · rw [c3, Bool.true_and] at q
              exact q
            · rw [Bool.eq_false_iff.mpr c3, Bool.false_and] at q
              exact q
          · rw [Bool.eq_false_iff.mpr c2, Bool.false_and] at q
            exact q
        · rw [Bool.eq_false_iff.mpr c, Bool.false_and, Bool.false_and] at q
          exact ⟨_, rfl, iteF q⟩
    · have ef : stepOk (.tuple ds) n = false := by
        unfold stepOk
        split
        · rename_i x y e
          cases e
          exact absurd rfl h2
        · rfl
      rw [ef] at q
      exact iteNT (fun z => h2 (by injection z with z; omega)) q
  | int i => exact q
  | bool b => exact q
  | none => exact q
  | str x => exact q
  | list ds => exact q
  | dict ds => exact q
end
end Wb
namespace Wb
open PySem L2
section
variable {P : Program} {w : World} {K : PySem.W.Frag} {mg : Str → Option Value} {base : Heap}
/-- what the law says of a fault -/
def FaultIs (K : PySem.W.Frag) (H : Hp) (u : V) (f : Option (Option Nat)) : Prop := match f with
  | none => u = .non
  | some o => Dp K H u (.list [faultD o])
def spFault (K : PySem.W.Frag) : Sp := fun vs H Q _ => ∃ (v : V) (d : PyData), vs = [v] ∧ Dp K H v d ∧ fine 30 d ∧ ∀ u H', Same H H' → FaultIs K H' u (fault d) → Q u H'
theorem rowOk_tup (rs : List PyData) (n : Int) : rowOk (.tuple rs) n = ((decide (rs.length = 2 ∨ rs.length = 3)) && rs.all fun e => stepOk e n) := by
  have e : tupN (.tuple rs) 2 3 = decide (rs.length = 2 ∨ rs.length = 3) := by
    show (decide (2 ≤ (rs.length : Int)) && decide ((rs.length : Int) ≤ 3)) = _
    by_cases h : rs.length = 2 ∨ rs.length = 3
    · rw [decide_eq_true h, decide_eq_true (show (2 : Int) ≤ (rs.length : Int) by omega), decide_eq_true (show (rs.length : Int) ≤ 3 by omega)]
      rfl
    · rw [decide_eq_false h]
      by_cases h2 : (2 : Int) ≤ (rs.length : Int)
      · rw [decide_eq_false (show ¬ (rs.length : Int) ≤ 3 by omega), Bool.and_false]
      · rw [decide_eq_false h2, Bool.false_and]
  show (tupN (.tuple rs) 2 3 && rs.all fun e => stepOk e n) = _
  rw [e]
theorem filter_snoc {α : Type} {l : List α} {i : Nat} {x : α} (p : α → Bool) (h : l[i]? = some x) : (l.take (i + 1)).filter p = (l.take i).filter p ++ if p x = true then [x] else [] := by
  rw [take_snoc h, List.filter_append]
  by_cases hp : p x = true
  · rw [if_pos hp, List.filter_cons_of_pos hp]
    rfl
  · rw [if_neg hp, List.filter_cons_of_neg hp]
    rfl
theorem ok_law_fault (T : Env K mg) : FnOk P w K mg base CX0 2 T.f_law_fault T.d_law_fault ["_law_table_here"] (spFault K) := by
  refine T.F_law_fault.ok sc_law_fault (fun vs H Q E h => ?_) (fun cdv A outer s H vs Q E hr h => ?_)
  · (obtain ⟨v, d, rfl, _⟩ := h; rfl)
  obtain ⟨v, d, rfl, hd, hf, q⟩ := h
  refine ⟨_, (pss_cons (ps_if (PW.pt (pw_or (pt_not (pt_val (pe_callB (r := rIsi K) call_isi (by rfl) T.z_isinstance (by decide +kernel) (pa_cons (pv 0) (pa_cons (pe_bltn (v := .ty "tuple") (u := .type "tuple") (by rfl) T.z_tuple (by decide +kernel) rfl) pa_nil))))) (pw_or1 (pt_not (pt_chain op_le op_le pe_int (pe_callB (r := rLenS K) call_lenS (by rfl) T.z_len (by decide +kernel) (pa_cons (pv 0) pa_nil)) pe_int)))))
      (pss_one (ps_ret (pe_lst (pa_cons pe_non pa_nil))))
      pss_nil)
    (pss_cons (ps_for PassesOwn.never rfl (pi_range1 rfl T.z_range (pa_cons (pe_callB (r := rLenS K) call_lenS (by rfl) T.z_len (by decide +kernel) (pa_cons (pv 0) pa_nil)) pa_nil)) (pg_name (i := 1) sc_law_fault.nd rfl (Or.inl rfl))
      (pss_cons (ps_set (i := 2) sc_law_fault.nd rfl (Or.inl rfl) (pe_ix (r := rIxT K) ix_tup (pv 0) (pv 1) (fun _ _ => rfl)))
      (pss_cons (ps_if (PW.pt (pw_or (pt_not (pt_val (pe_callB (r := rIsi K) call_isi (by rfl) T.z_isinstance (by decide +kernel) (pa_cons (pv 2) (pa_cons (pe_bltn (v := .ty "tuple") (u := .type "tuple") (by rfl) T.z_tuple (by decide +kernel) rfl) pa_nil))))) (pw_or (pt_cmpR (r := rIn K true) op_notIn_seq (pe_callB (r := rLenS K) call_lenS (by rfl) T.z_len (by decide +kernel) (pa_cons (pv 2) pa_nil)) (pe_lst (pa_cons pe_int (pa_cons pe_int pa_nil))) (by rfl)) (pw_or1 (pt_cmpR op_ne (pe_callB (r := rLenS K) call_lenS (by rfl) T.z_len (by decide +kernel) (pa_cons (pv 2) pa_nil)) (pe_callB (r := rLenS K) call_lenS (by rfl) T.z_len (by decide +kernel) (pa_cons (pe_ix (r := rIxT K) ix_tup (pv 0) pe_int (fun _ _ => rfl)) pa_nil)) (nomark _))))))
        (pss_one (ps_ret (pe_lst (pa_cons (pv 1) pa_nil))))
        pss_nil)
      (pss_one (ps_if (pt_cmpR (r := rNeD K) (op_neD hr.units) (pe_lc (own := [("_law_step_here", 3)]) (g := gName 3) rfl sc_law_fault.nd (pi_tup (pv 2)) (blkOk_by (own := [("_law_step_here", 3)]) (N := n_law_fault) (sc := defScope s_law_fault) (by decide +kernel)) (fun _ _ _ _ _ => (pg_name (i := 3) sc_law_fault.nd rfl (Or.inl rfl))) (fun _ _ _ _ _ => pts_one (pt_not (pt_val (pe_call (ok_law_step T) (hr.mono (by decide)) rfl T.m_law_step T.F_law_step.kp T.b_law_step .nil pass0 (pa_cons (pv 3) (pa_cons (pe_callB (r := rLenS K) call_lenS (by rfl) T.z_len (by decide +kernel) (pa_cons (pv 0) pa_nil)) pa_nil)))))) (fun _ _ _ _ _ => (pv 3))) (pe_lst pa_nil) (nomark _))
        (pss_one (ps_ret (pe_lst (pa_cons (pv 1) pa_nil))))
        pss_nil)))))
    (pss_one (ps_ret pe_non)))), ?_⟩
  have bad : ∀ (f : fault d = some none) (H' : Hp), Same H H' → (1 : Nat) ≤ sizeLine ∧ ∀ p, H' p = none → Q (.ref p) (upd H' p (.lst [.non])) := fun f H' s =>
    ⟨by decide, fun p np => q _ _ (s.trans (same_new np _)) (by rw [f]; exact .lst (SqL.of upd_same) (.cons .non .nil))⟩
  refine ⟨_, rfl, _, _, _, _, _, rfl, .ty _, dp_ty hd, isA_eq (by simp), _, rfl, ?_⟩
  rw [isA_tuple]
  cases d with
  | tuple ds =>
    obtain ⟨a, xs, rfl, hx, hA⟩ := dp_tup hd
    have hl := dps_len hA
    have chain : ∀ {R : Bool → Hp → Prop}, R (tupN (.tuple ds) 1 6) H → ∃ p ys, [V.ref a] = [V.ref p] ∧ (SqL K H p ys ∨ SqT K H p ys) ∧ ∃ i j, V.int 1 = V.int i ∧ V.int (ys.length : Int) = V.int j ∧ ∃ k, V.bl (decide (i ≤ j)) = V.bl k ∧
        if k = true then ∃ i' j', V.int (ys.length : Int) = V.int i' ∧ V.int 6 = V.int j' ∧ ∃ k', V.bl (decide (i' ≤ j')) = V.bl k' ∧ R k' H else ∃ k', V.bl false = V.bl k' ∧ R k' H := fun {R} r => by
      have r' : R (decide (1 ≤ (ds.length : Int)) && decide ((ds.length : Int) ≤ 6)) H := r
      refine ⟨a, xs, rfl, .inr hx, 1, _, rfl, rfl, _, rfl, ?_⟩
      rw [hl]
      refine ite2 (fun c => ⟨_, 6, rfl, rfl, _, rfl, ?_⟩) (fun c => ⟨_, rfl, ?_⟩)
      · rw [c, Bool.true_and] at r'
        exact r'
      · rw [Bool.eq_false_iff.mpr c, Bool.false_and] at r'
        exact r'
    refine iteF ⟨_, rfl, chain ?_⟩
    cases ht : tupN (.tuple ds) 1 6 with
    | false =>
      have f : fault (.tuple ds) = some none := by unfold fault; rw [ht, if_neg Bool.false_ne_true]
      exact iteT (bad f H (Same.refl H))
    | true =>
      obtain ⟨_, e, l1, l2⟩ := tupN_of ht
      cases e
      have ef : fault (.tuple ds) = (scan (ds.length : Int) (items (ds.getD 0 .none)).length ds 0).map some := by
        unfold fault
        rw [if_pos ht]
        rfl
      obtain ⟨e0, he0⟩ : ∃ e0, ds[0]? = some e0 := ⟨ds[0]'(by omega), List.getElem?_eq_getElem _⟩
      have g0 : ds.getD 0 .none = e0 := by rw [List.getD, he0]; rfl
      rw [g0] at ef
      obtain ⟨u0, hu0, du0⟩ := dps_get hA he0
      refine iteF ⟨_, rfl, a, xs, rfl, .inr hx, _, rfl, by rw [hl]; exact Int.le_trans (by decide) (Int.natCast_nonneg _), by rw [hl]; exact Int.lt_of_le_of_lt l2 (by decide), for_range (lo := 0) (n := ((xs.length : Nat) : Int).toNat)
        (fun i σ H' => (∃ x y z, σ = [some (.ref a), x, y, z]) ∧ Same H H' ∧ scan (ds.length : Int) (items e0).length ds 0 = scan (ds.length : Int) (items e0).length (ds.drop i) i ∧ (0 < i → rowOk e0 (ds.length : Int) = true))
        ⟨⟨_, _, _, rfl⟩, Same.refl H, rfl, fun z => absurd z (Nat.lt_irrefl 0)⟩ (fun i σ H1 hi p => ?_) (fun σ H' p => ?_)⟩
      · obtain ⟨⟨x0, y0, z0, rfl⟩, s, es, hr0⟩ := p
        have hi' : i < ds.length := by omega
        obtain ⟨e, he⟩ : ∃ e, ds[i]? = some e := ⟨ds[i], List.getElem?_eq_getElem hi'⟩
        obtain ⟨u, hu, de⟩ := dps_get hA he
        rw [drop_cons he] at es
        have ei : (0 : Int) + (i : Nat) = ((i : Nat) : Int) := by omega
        have de1 := dp_same de s
        have fe : fine 29 e := hf.2 e (List.mem_of_getElem? he)
        -- the row is refused: [k]
        have ref : (¬ (rowOk e (ds.length : Int) = true ∧ (items e).length = (items e0).length)) → ∀ (H' : Hp), Same H1 H' → (1 : Nat) ≤ sizeLine ∧ ∀ p, H' p = none → Q (.ref p) (upd H' p (.lst [.int (0 + (i : Nat))])) := fun nb H' s' => by
          have f : fault (.tuple ds) = some (some i) := by
            rw [ef, es, scan, if_neg nb]
            rfl
          refine ⟨by decide, fun p np => q _ _ ((s.trans s').trans (same_new np _)) ?_⟩
          rw [f, ei]
          exact .lst (SqL.of upd_same) (.cons (.int _) .nil)
        refine ⟨_, rfl, _, rfl, a, xs, _, _, rfl, rfl, same_tup s hx, at_of (j := i) ei hu, ?_⟩
        refine ⟨_, rfl, _, _, _, _, _, rfl, .ty _, dp_ty de1, isA_eq (by simp), _, rfl, ?_⟩
        rw [isA_tuple]
        cases e with
        | tuple rs =>
          obtain ⟨pr, xr, rfl, hxr, hAr⟩ := dp_tup de1
          have lr := dps_len hAr
          refine iteF ⟨_, rfl, pr, xr, rfl, .inr hxr, (by show 2 ≤ sizeLine; decide), fun p np => ?_⟩
          have sp1 := same_new np (.lst [V.int 2, V.int 3])
          refine ⟨p, _, rfl, .inl (SqL.of upd_same), rfl, rfl, _, rfl, ?_⟩
          rw [lr]
          show if (!inV (.int (rs.length : Int)) [.int 2, .int 3]) = true then _ else _
          rw [in23]
          by_cases h23 : rs.length = 2 ∨ rs.length = 3
          · refine iteNS h23 ?_
            obtain ⟨r0, rfl⟩ : ∃ r0, e0 = .tuple r0 := by
              rcases Nat.eq_zero_or_pos i with z | z
              · subst z
                rw [he] at he0
                exact ⟨rs, (Option.some.inj he0).symm⟩
              · obtain ⟨r, er, _⟩ := rowOk_nat (n := ds.length) (hr0 z)
                exact ⟨_, er⟩
            have s1 := s.trans sp1
            obtain ⟨pf, xf, rfl, hxf, hAf⟩ := dp_tup (dp_same du0 s1)
            refine ⟨_, rfl, pr, xr, rfl, .inr (same_tup sp1 hxr), _, rfl, a, xs, _, _, rfl, rfl, same_tup s1 hx, at_of (j := 0) rfl hu0, pf, xf, rfl, .inr hxf, rfl, _, rfl, ?_⟩
            rw [lr, dps_len hAf]
            by_cases hlen : rs.length = r0.length
            · refine iteNS (by rw [hlen]) ?_
              -- the steps that are none
              refine ⟨_, rfl, pr, rfl, ⟨xr, same_tup sp1 hxr⟩, fun D hD => lc_tup (K := K) (a := pr) (xs := xr)
                (fun j H' => Same (upd H1 p (.lst [V.int 2, V.int 3])) H' ∧ ∃ vs, H' D = some (.lst vs) ∧ DpAll K H1 vs ((rs.take j).filter fun e => !stepOk e (ds.length : Int))) ⟨same_new hD _, [], upd_same, .nil⟩ (fun j H' _ z => same_tup z.1 (same_tup sp1 hxr)) (fun j x H' hj z => ?_) (fun H' z => ?_)⟩
              · obtain ⟨s4, vs, hDl, dvs⟩ := z
                obtain ⟨w', hw, dw⟩ := dps_getV hAr hj
                have s14 := sp1.trans s4
                refine ⟨rfl, _, rfl, _, rfl, a, xs, rfl, .inr (same_tup (s.trans s14) hx), x, w', (ds.length : Int), (by rw [hl]; rfl), dp_same dw s14, _, rfl, ?_⟩
                have fs := filter_snoc (fun e => !stepOk e (ds.length : Int)) hw
                have lj : j < xr.length := (List.getElem?_eq_some_iff.mp hj).1
                cases hst : stepOk w' (ds.length : Int) with
                | true =>
                  refine iteF ⟨s4, vs, hDl, ?_⟩
                  rw [fs, if_neg (by rw [hst]; decide), List.append_nil]
                  exact dvs
                | false =>
                  refine iteT ⟨_, rfl, vs, hDl, ?_, Same.put s4 hD _, vs ++ [x], upd_same, ?_⟩
                  · rw [dps_len dvs]
                    refine small1000 (Nat.le_trans (List.length_filter_le _ _) ?_)
                    rw [List.length_take]
                    omega
                  · rw [fs, if_pos (by rw [hst]; rfl)]
                    exact dps_snoc dvs dw
              · obtain ⟨s4, vs, hDl, dvs⟩ := z
                rw [lr, List.take_length] at dvs
                have s14 := sp1.trans s4
                refine ⟨(by show 0 ≤ sizeLine; decide), fun p2 np2 => ?_⟩
                have s5 := same_new np2 (.lst [])
                refine ⟨.list (rs.filter fun e => !stepOk e (ds.length : Int)), .list [], .lst (SqL.of (s5 _ _ hDl)) (dps_same dvs (s14.trans s5)), .lst (SqL.of upd_same) .nil, ?_, rfl, _, rfl, ?_⟩
                · refine fine_shaped (n := 30) ⟨?_, fun e' he' => fine_up (fe.2 e' ((List.mem_filter.mp he').1))⟩ (by decide)
                  exact Nat.le_trans (List.length_filter_le _ _) fe.1
                · have hro := rowOk_tup rs (ds.length : Int)
                  rw [decide_eq_true h23, Bool.true_and] at hro
                  cases hfl : rs.filter (fun e => !stepOk e (ds.length : Int)) with
                  | nil =>
                    have hall : (rs.all fun e => stepOk e (ds.length : Int)) = true := by
                      rw [List.all_eq_true]
                      intro e' he'
                      have := List.filter_eq_nil_iff.mp hfl e' he'
                      simpa using this
                    rw [hall] at hro
                    refine iteF ⟨⟨_, _, _, rfl⟩, s.trans (s14.trans s5), ?_, fun _ => ?_⟩
                    · rw [es, scan, if_pos ⟨hro, hlen⟩]
                    · rcases Nat.eq_zero_or_pos i with z | z
                      · subst z
                        rw [he] at he0
                        rw [← Option.some.inj he0]
                        exact hro
                      · exact hr0 z
                  | cons b bs =>
                    refine iteT ⟨_, rfl, ref (fun z => ?_) _ (s14.trans s5)⟩
                    have hb : b ∈ rs.filter fun e => !stepOk e (ds.length : Int) := by rw [hfl]; simp
                    have h1 := (List.mem_filter.mp hb).2
                    have hall := z.1
                    rw [hro, List.all_eq_true] at hall
                    rw [hall b (List.mem_filter.mp hb).1] at h1
                    cases h1
            · exact iteNT (fun z => hlen (by injection z with z; omega)) ⟨_, rfl, ref (fun z => hlen z.2) _ sp1⟩
          · refine iteNT h23 ⟨_, rfl, ref (fun z => ?_) _ sp1⟩
            have := z.1
            rw [rowOk_tup, decide_eq_false h23, Bool.false_and] at this
            cases this
        | int k => exact iteT ⟨_, rfl, ref (fun z => by cases z.1) H1 (Same.refl _)⟩
        | bool k => exact iteT ⟨_, rfl, ref (fun z => by cases z.1) H1 (Same.refl _)⟩
        | none => exact iteT ⟨_, rfl, ref (fun z => by cases z.1) H1 (Same.refl _)⟩
        | str k => exact iteT ⟨_, rfl, ref (fun z => by cases z.1) H1 (Same.refl _)⟩
        | list k => exact iteT ⟨_, rfl, ref (fun z => by cases z.1) H1 (Same.refl _)⟩
        | dict k => exact iteT ⟨_, rfl, ref (fun z => by cases z.1) H1 (Same.refl _)⟩
      · obtain ⟨⟨x0, y0, z0, rfl⟩, s, es, hr0⟩ := p
        have en : ((xs.length : Nat) : Int).toNat = ds.length := by omega
        rw [en, List.drop_length] at es
        refine q _ H' s ?_
        rw [ef, es]
        rfl
  | int i => exact bad rfl H (Same.refl H)
  | bool b => exact bad rfl H (Same.refl H)
  | none => exact bad rfl H (Same.refl H)
  | str x => exact bad rfl H (Same.refl H)
  | list ds => exact bad rfl H (Same.refl H)
  | dict ds => exact bad rfl H (Same.refl H)
end
end Wb
namespace Wb
open PySem L2
section
variable {P : Program} {w : World} {K : PySem.W.Frag} {mg : Str → Option Value} {base : Heap}
def spTried (K : PySem.W.Frag) (C : Addr) : Sp := fun vs H Q _ => ∃ (v : V) (d : PyData), vs = [v] ∧ Dp K H v d ∧ (fault d = none → ∀ p H', Same H H' → WrAt C H' p v → Q (.ref p) H') ∧
  ∀ o, fault d = some o → ∀ u H', Same H H' → Dp K H' u (.list [faultD o]) → Q u H'
theorem faultV_dp {K : PySem.W.Frag} {H : Hp} (o : Option Nat) : Dp K H (faultV o) (faultD o) := by
  cases o with
  | none => exact .non
  | some k => exact .int _
theorem ok_law_tried (T : Env K mg) : FnOk P w K mg base CX0 7 T.f_law_tried T.d_law_tried ["_law_table_here"] (spTried K T.c_Writer) := by
  refine T.F_law_tried.ok sc_law_tried (fun vs H Q E h => ?_) (fun cdv A outer s H vs Q E hr h => ?_)
  · (obtain ⟨v, d, rfl, _⟩ := h; rfl)
  obtain ⟨v, d, rfl, hd, q, qe⟩ := h
  refine ⟨_, (pss_cons (ps_set (i := 1) sc_law_tried.nd rfl (Or.inl rfl) pe_non)
    (pss_cons (ps_try_as (i := 2) rfl rfl sc_law_tried.nd rfl rfl ⟨rfl, by decide, .inl T.m_BadTable⟩ takes0
      (fun W pn xe tk _ => (pss_one (ps_set (i := 1) sc_law_tried.nd rfl (Or.inl rfl) (pe_makeS T.mk_Writer (ok_Writer_init T) (hr.mono (by decide)) (by rfl) T.m_Writer T.b_Writer_init (fun σ => passAt tk σ) (pa_cons (pv 0) pa_nil)))))
      (fun a oe cls d pn hz hf => (pss_one (ps_set (i := 1) sc_law_tried.nd rfl (Or.inl rfl) (pe_ifExp (pt_val (pe_callB (call_isX T.ex_BadTable hz hf) (by rfl) T.z_isinstance (by decide +kernel) (pa_cons (pv 2) (pa_cons (pe_glob (v := .ref T.c_WriterError) rfl T.m_WriterError rfl) pa_nil)))) (pe_lst (pa_cons (pe_xf T.xf_BadTable T.no_BadTable_index hz hf (pv 2)) pa_nil)) (pe_lst pa_nil))))))
    (pss_one (ps_ret (pv 1))))), ?_⟩
  refine ⟨_, rfl, fun x dx nx ndx ne => ?_⟩
  have s0 := (same_new ndx (.own x)).trans (same_new (by rw [upd_ne ne.symm]; exact nx) (.ins T.c_Writer dx []))
  refine ⟨x, dx, v, d, rfl, upd_same, dp_same hd s0, fun ef H' w' k => ⟨rfl, ⟨_, rfl, q ef x H' (Same.made nx ndx k) w'⟩⟩, fun o ef dd H' s hdd => ⟨true, T.em_BadTable, fun _ a' ha' => ?_, fun z => nomatch z⟩⟩
  refine ⟨_, rfl, .ref T.c_WriterError, .ref T.c_WriterError, true, dd, _, rfl, rfl, rfl, (fun u r => r), T.ki_BadTable_WriterError, hdd, _, rfl, ?_⟩
  refine iteT ⟨_, rfl, rfl, rfl, dd, _, _, rfl, hdd, rfl, (by show 1 ≤ sizeLine; decide), fun p np => ⟨_, rfl, ?_⟩⟩
  exact qe o ef _ _ ((s0.trans s).trans (same_new np _)) (.lst (SqL.of upd_same) (.cons (faultV_dp o) .nil))
end
end Wb
namespace Wb
open PySem L2
section
variable {P : Program} {w : World} {K : PySem.W.Frag} {mg : Str → Option Value} {base : Heap}
/-- the law's script -/
def spLaw (K : PySem.W.Frag) : Sp := fun vs H Q _ => ∃ (a : Addr) (ns : List Int), vs = [.ref a] ∧ SqL K H a (ns.map V.int) ∧ ns.length ≤ 63 ∧ ∀ H', Q (.bl true) H'
/-- a thing that may stand where a row stands -/
def RowFit (c : Nat) (e : PyData) : Prop := fine 3 e ∧ (items e).length ≤ 4 + c
/-- a table, spoiled c times -/
def TabFit (c : Nat) (ds : List PyData) : Prop := 1 ≤ ds.length ∧ ds.length ≤ 6 + c ∧ ∀ e ∈ ds, RowFit c e
theorem RowFit.up {c : Nat} {e : PyData} (h : RowFit c e) : RowFit (c + 1) e := ⟨h.1, by have := h.2; omega⟩
theorem fit_row {t : Tab} {n : Nat} (g : Good t n) {r : List (Nat × Nat)} (hr : r ∈ t) : RowFit 0 (rowD r) := by
  have l := g.rows r hr
  have n3 := g.n3
  have ll : (r.map stepD).length = r.length := List.length_map _
  refine ⟨⟨by rw [ll]; omega, fun e he => ?_⟩, by show (r.map stepD).length ≤ 4; omega⟩
  obtain ⟨s, _, rfl⟩ := List.mem_map.mp he
  refine ⟨(by show 2 ≤ 1000; decide), fun x hx => ?_⟩
  rcases List.mem_cons.mp hx with rfl | hx
  · exact trivial
  · rw [List.mem_singleton.mp hx]
    exact trivial
theorem fit_good {t : Tab} {n : Nat} (g : Good t n) : TabFit 0 (t.map rowD) := by
  have g1 := g.len1
  have g6 := g.len6
  refine ⟨by rw [List.length_map]; omega, by rw [List.length_map]; omega, fun e he => ?_⟩
  obtain ⟨r, hr, rfl⟩ := List.mem_map.mp he
  exact fit_row g hr
theorem cut_mem {ds : List PyData} {lo hi : Option Int} {e : PyData} (h : e ∈ cutD ds lo hi) : e ∈ ds := List.mem_of_mem_drop (List.mem_of_mem_take h)
theorem cut_len (ds : List PyData) (lo hi : Option Int) : (cutD ds lo hi).length ≤ ds.length := by
  unfold cutD
  rw [List.length_take, List.length_drop]
  omega
theorem cut_lo {ds : List PyData} {i : Nat} : (cutD ds none (some (i : Int))).length ≤ i := by
  unfold cutD
  rw [HT.sIx_nat, HT.sIx_none, List.length_take]
  omega
theorem cut_hi {ds : List PyData} {i : Nat} : (cutD ds (some (i : Int)) none).length ≤ ds.length - min i ds.length := by
  unfold cutD
  rw [HT.sIx_nat, HT.sIx_none, List.length_take, List.length_drop]
  omega
theorem fit_change {c : Nat} {ds : List PyData} (h : TabFit c ds) {r : PyData} (hr : RowFit (c + 1) r) {i k : Nat} (hi : i < ds.length) : TabFit (c + 1) (cutD ds none (some (i : Int)) ++ [r] ++ cutD ds (some ((i : Int) + (k : Int))) none) := by
  obtain ⟨h1, h2, h3⟩ := h
  have a := cut_lo (ds := ds) (i := i)
  have b := cut_hi (ds := ds) (i := i + k)
  rw [show ((i + k : Nat) : Int) = (i : Int) + (k : Int) by omega] at b
  refine ⟨?_, ?_, fun e he => ?_⟩
  · rw [List.length_append, List.length_append, List.length_singleton]
    omega
  · rw [List.length_append, List.length_append, List.length_singleton]
    omega
  · rcases List.mem_append.mp he with he | he
    · rcases List.mem_append.mp he with he | he
      · exact (h3 e (cut_mem he)).up
      · rw [List.mem_singleton.mp he]
        exact hr
    · exact (h3 e (cut_mem he)).up
theorem fit_row_change {c : Nat} {rs : List PyData} (h : RowFit c (.tuple rs)) (hc : c ≤ 10) {s : PyData} (hs : fine 2 s) {i : Nat} (hi : i ≤ rs.length) : RowFit (c + 1) (.tuple (cutD rs none (some (i : Int)) ++ [s] ++ cutD rs (some ((i : Int) + 1)) none)) := by
  have a := cut_lo (ds := rs) (i := i)
  have b := cut_hi (ds := rs) (i := i + 1)
  have e : ((i + 1 : Nat) : Int) = (i : Int) + 1 := by omega
  rw [e] at b
  have l : rs.length ≤ 4 + c := h.2
  have ll : (cutD rs none (some (i : Int)) ++ [s] ++ cutD rs (some ((i : Int) + 1)) none).length ≤ 4 + (c + 1) := by
    rw [List.length_append, List.length_append, List.length_singleton]
    omega
  refine ⟨⟨by omega, fun e he => ?_⟩, ll⟩
  rcases List.mem_append.mp he with he | he
  · rcases List.mem_append.mp he with he | he
    · exact h.1.2 e (cut_mem he)
    · rw [List.mem_singleton.mp he]
      exact hs
  · exact h.1.2 e (cut_mem he)
theorem fine_le {n m : Nat} {d : PyData} (h : fine n d) (hm : n ≤ m) : fine m d := by
  induction m with
  | zero =>
    have : n = 0 := by omega
    rw [this] at h
    exact h
  | succ m ih =>
    by_cases e : n = m + 1
    · rw [← e]
      exact h
    · exact fine_up (ih (by omega))
def stp0 : PyData := .tuple [.int 0, .int 0]
/-- the steps that a row may be spoiled by, n the number of rows -/
def stepsL (n : Int) : List PyData :=
  [stp0, .tuple [.int n, .int 0], .tuple [.int 0, .int 4], .tuple [.int (-1), .int 0], .tuple [.bool true, .int 0], .tuple [.int 0, .bool false], .list [.int 0, .int 0], .none, .tuple [.int 0]] ++
    [.tuple [.int 0, .int 0, .int 0], .tuple [.str "0", .int 0], .int 0]
def oddL : List PyData :=
  [.tuple [], .tuple [stp0], .tuple [stp0, stp0], .tuple [stp0, stp0, stp0], .tuple [stp0, stp0, stp0, stp0], .list [stp0, stp0], .none, .int 0, .str "00"]
theorem fine_seq {n : Nat} : ∀ {ds : List PyData}, ds.length ≤ 1000 → (∀ e ∈ ds, fine n e) → fine (n + 1) (.tuple ds) := fun l h => ⟨l, h⟩
theorem fine_p0 : fine 2 stp0 := by simp [stp0, fine]
theorem steps_fine (n : Int) : ∀ e ∈ stepsL n, fine 2 e := by
  have z : PyData.strOk ("0" : Str) = true := by decide +kernel
  simp [stepsL, stp0, fine, z]
theorem odd_fit : ∀ e ∈ oddL, RowFit 0 e := by
  have z : PyData.strOk ("00" : Str) = true := by decide +kernel
  simp [oddL, RowFit, stp0, fine, items, z]
/-- what is asked: the table, a list of its rows, or no table -/
def askL (ds : List PyData) : List PyData :=
  List.replicate 7 (.tuple ds) ++ [.list ds, .none, .tuple [], .tuple (List.replicate 7 (cutD ds none (some 1))).flatten]
theorem ask_fine {c : Nat} {ds : List PyData} (h : TabFit c ds) (hc : c ≤ 10) : ∀ e ∈ askL ds, fine 4 e := by
  obtain ⟨h1, h2, h3⟩ := h
  have f : ∀ e ∈ ds, fine 3 e := fun e he => (h3 e he).1
  intro e he
  rcases List.mem_append.mp he with he | he
  · rw [(List.mem_replicate.mp he).2]
    exact ⟨by omega, f⟩
  · rcases List.mem_cons.mp he with rfl | he
    · exact ⟨by omega, f⟩
    rcases List.mem_cons.mp he with rfl | he
    · exact trivial
    rcases List.mem_cons.mp he with rfl | he
    · exact ⟨by decide, fun e he => nomatch he⟩
    rw [List.mem_singleton.mp he]
    refine ⟨?_, fun e he => ?_⟩
    · have := cut_len ds none (some 1)
      simp [List.length_flatten]
      omega
    · obtain ⟨l, hl, he⟩ := List.mem_flatten.mp he
      rw [(List.mem_replicate.mp hl).2] at he
      exact f e (cut_mem he)
/-- the last step writes something else -/
def otherT (t : Tab) : Tab := t.dropLast ++ [(t.getLastD []).dropLast ++ [(((t.getLastD []).getLastD (0, 0)).1, 3 - ((t.getLastD []).getLastD (0, 0)).2)]]
theorem tups_cut {h l : Addr} {H : Hp} (S : Src h l H) : Same (tups H) (cut h l H) := fun b o q => by
  obtain ⟨_, st, k, cs, a, b', _⟩ := S
  obtain ⟨e, xs, rfl⟩ := tups_some q
  refine cut_of e (fun z => ?_) (fun z => ?_)
  · rw [z, a] at e
    cases e
  · rw [z, b'] at e
    cases e
theorem dps_last {K : PySem.W.Frag} {H : Hp} {d : PyData} : ∀ {ds : List PyData} {xs : List V}, DpAll K H xs (ds ++ [d]) → ∃ ys u, xs = ys ++ [u] ∧ Dp K H u d
  | [], _, h => by
    cases h with
    | cons a b =>
      cases b
      exact ⟨[], _, rfl, a⟩
  | e :: ds, _, h => by
    cases h with
    | cons a b =>
      obtain ⟨ys, u, rfl, du⟩ := dps_last b
      exact ⟨_ :: ys, u, rfl, du⟩
theorem at_last (l : List V) (x : V) : atI (l ++ [x]) (-1) = some x := by
  have e : (l ++ [x]).length = l.length + 1 := List.length_append
  have z : ixN (l.length + 1) (-1) = some l.length := by
    unfold ixN
    rw [if_neg (by decide), if_pos (by omega)]
    exact congrArg some (by omega)
  unfold atI
  rw [e, z]
  show (l ++ [x])[l.length]? = some x
  simp
theorem cut_last (l : List PyData) (x : PyData) : cutD (l ++ [x]) none (some (-1)) = l := by
  have e : (l ++ [x]).length = l.length + 1 := List.length_append
  unfold cutD
  rw [HT.sIx_none, e]
  have z : HT.sIx (l.length + 1) (l.length + 1) (some (-1)) = l.length := by
    show (if (-1 : Int) < 0 then (-1 + ((l.length + 1 : Nat) : Int)).toNat else min (-1 : Int).toNat (l.length + 1)) = l.length
    rw [if_pos (by decide)]
    omega
  rw [z, List.drop_zero, Nat.sub_zero, List.take_left']
  rfl
theorem step_eqv {s s' : Nat × Nat} (h : PyData.eqv (stepD s) (stepD s') = true) : s = s' := by
  obtain ⟨a, b⟩ := s
  obtain ⟨c, d⟩ := s'
  simp [stepD, PyData.eqv, PyData.eqvAll] at h
  have h1 : a = c := by omega
  have h2 : b = d := by omega
  rw [h1, h2]
theorem row_eqv : ∀ {r r' : List (Nat × Nat)}, PyData.eqvAll (r.map stepD) (r'.map stepD) = true → r = r'
  | [], [], _ => rfl
  | [], _ :: _, h => by simp [PyData.eqvAll] at h
  | _ :: _, [], h => by simp [PyData.eqvAll] at h
  | s :: r, s' :: r', h => by
    rw [List.map_cons, List.map_cons, PyData.eqvAll, Bool.and_eq_true] at h
    rw [step_eqv h.1, row_eqv h.2]
theorem rowD_eqv {r r' : List (Nat × Nat)} (h : PyData.eqv (rowD r) (rowD r') = true) : r = r' := by
  unfold rowD at h
  rw [PyData.eqv] at h
  exact row_eqv h
theorem rows_eqv : ∀ {r r' : Tab}, PyData.eqvAll (r.map rowD) (r'.map rowD) = true → r = r'
  | [], [], _ => rfl
  | [], _ :: _, h => by simp [PyData.eqvAll] at h
  | _ :: _, [], h => by simp [PyData.eqvAll] at h
  | s :: r, s' :: r', h => by
    rw [List.map_cons, List.map_cons, PyData.eqvAll, Bool.and_eq_true] at h
    rw [rowD_eqv h.1, rows_eqv h.2]
theorem tab_eqv {t t' : Tab} (h : PyData.eqv (tabD t) (tabD t') = true) : t = t' := by
  unfold tabD at h
  rw [PyData.eqv] at h
  exact rows_eqv h
theorem tab_refl (t : Tab) : PyData.eqv (tabD t) (tabD t) = true := SeqAt.eqv_refl _ (Bool.and_eq_true_iff.mp (tab_shaped t)).1
theorem snoc_of {α : Type} : ∀ {l : List α}, 1 ≤ l.length → ∃ m x, l = m ++ [x]
  | [], h => by simp at h
  | a :: l, _ => ⟨(a :: l).dropLast, (a :: l).getLast (by simp), (List.dropLast_concat_getLast (by simp)).symm⟩
/-- the last step writes something else -/
theorem good_other {t0 : Tab} {r0 : List (Nat × Nat)} {a b n : Nat} (g : Good (t0 ++ [r0 ++ [(a, b)]]) n) : Good (t0 ++ [r0 ++ [(a, 3 - b)]]) n ∧ PyData.eqv (tabD (t0 ++ [r0 ++ [(a, b)]])) (tabD (t0 ++ [r0 ++ [(a, 3 - b)]])) = false ∧ b ≤ 3 := by
  have e : (t0 ++ [r0 ++ [(a, 3 - b)]]).length = (t0 ++ [r0 ++ [(a, b)]]).length := by simp
  have hb := g.steps (r0 ++ [(a, b)]) (by simp) (a, b) (by simp)
  refine ⟨⟨by rw [e]; exact g.len1, by rw [e]; exact g.len6, g.n2, g.n3, fun r hr => ?_, fun r hr s hs => ?_⟩, ?_, hb.2⟩
  · rcases List.mem_append.mp hr with hr | hr
    · exact g.rows r (by simp [hr])
    · rw [List.mem_singleton.mp hr]
      have := g.rows (r0 ++ [(a, b)]) (by simp)
      simpa using this
  · rw [e]
    rcases List.mem_append.mp hr with hr | hr
    · exact g.steps r (by simp [hr]) s hs
    · rw [List.mem_singleton.mp hr] at hs
      rcases List.mem_append.mp hs with hs | hs
      · exact g.steps (r0 ++ [(a, b)]) (by simp) s (by simp [hs])
      · rw [List.mem_singleton.mp hs]
        exact ⟨hb.1, by omega⟩
  · refine Bool.eq_false_iff.mpr fun z => ?_
    have q := tab_eqv z
    have q1 := List.append_cancel_left q
    have q2 : r0 ++ [(a, b)] = r0 ++ [(a, 3 - b)] := (List.cons.inj q1).1
    have q3 := (Prod.mk.inj (List.cons.inj (List.append_cancel_left q2)).1).2
    have := hb.2
    omega
theorem ok_law (T : Env K mg) : FnOk P w K mg base CX0 10 T.f_law T.d_law ["_law_script"] (spLaw K) := by
  refine T.F_law.ok sc_law (fun vs H Q E h => ?_) (fun cdv A outer s H vs Q E hr h => ?_)
  · (obtain ⟨a, ns, rfl, _⟩ := h; rfl)
  obtain ⟨a, ns, rfl, hS, hl, q⟩ := h
  refine ⟨_, (pss_cons (ps_set (i := 1) sc_law.nd rfl (Or.inl rfl) (pe_call (ok_law_mix T) (hr.mono (by decide)) rfl T.m_law_mix T.F_law_mix.kp T.b_law_mix .nil pass0 (pa_cons (pv 0) (pa_cons pe_int pa_nil))))
    (pss_cons (ps_for PassesOwn.never rfl (pi_range1 rfl T.z_range (pa_cons pe_int pa_nil)) (pg_name (i := 2) sc_law.nd rfl (Or.inl rfl))
      (pss_cons (ps_set (i := 3) sc_law.nd rfl (Or.inl rfl) (pe_call (ok_law_table T) (hr.mono (by decide)) rfl T.m_law_table T.F_law_table.kp T.b_law_table .nil pass0 (pa_cons (pv 1) pa_nil)))
      (pss_cons (ps_set (i := 4) sc_law.nd rfl (Or.inl rfl) (pe_lst (pa_cons (pd_tup (pda_cons pd_int (pda_cons pd_int pda_nil))) (pa_cons (pe_tup (pa_cons (pe_callB (r := rLenS K) call_lenS (by rfl) T.z_len (by decide +kernel) (pa_cons (pv 3) pa_nil)) (pa_cons pe_int pa_nil))) (pa_cons (pd_tup (pda_cons pd_int (pda_cons pd_int pda_nil))) (pa_cons (pd_tup (pda_cons pd_neg (pda_cons pd_int pda_nil))) (pa_cons (pd_tup (pda_cons pd_bl (pda_cons pd_int pda_nil))) (pa_cons (pd_tup (pda_cons pd_int (pda_cons pd_bl pda_nil))) (pa_cons (pd_lst (pda_cons pd_int (pda_cons pd_int pda_nil))) (pa_cons pe_non (pa_cons (pd_tup (pda_cons pd_int pda_nil)) pa_nil)))))))))))
      (pss_cons (ps_set (i := 4) sc_law.nd rfl (Or.inl rfl) (pe_op op_cat (pv 4) (pe_lst (pa_cons (pd_tup (pda_cons pd_int (pda_cons pd_int (pda_cons pd_int pda_nil)))) (pa_cons (pd_tup (pda_cons pd_str (pda_cons pd_int pda_nil))) (pa_cons pe_int pa_nil))))))
      (pss_cons (ps_set (i := 5) sc_law.nd rfl (Or.inl rfl) (pd_lst (pda_cons (pd_tup pda_nil) (pda_cons (pd_tup (pda_cons (pd_tup (pda_cons pd_int (pda_cons pd_int pda_nil))) pda_nil)) (pda_cons (pd_rep (pd_tup (pda_cons (pd_tup (pda_cons pd_int (pda_cons pd_int pda_nil))) pda_nil))) (pda_cons (pd_rep (pd_tup (pda_cons (pd_tup (pda_cons pd_int (pda_cons pd_int pda_nil))) pda_nil))) (pda_cons (pd_rep (pd_tup (pda_cons (pd_tup (pda_cons pd_int (pda_cons pd_int pda_nil))) pda_nil))) (pda_cons (pd_repL (pda_cons (pd_tup (pda_cons pd_int (pda_cons pd_int pda_nil))) pda_nil)) (pda_cons pd_non (pda_cons pd_int (pda_cons pd_str pda_nil)))))))))))
      (pss_cons (ps_for PassesOwn.never rfl (pi_range1 rfl T.z_range (pa_cons (pe_call (ok_law_pick T) (hr.mono (by decide)) rfl T.m_law_pick T.F_law_pick.kp T.b_law_pick .nil pass0 (pa_cons (pv 1) (pa_cons (pd_lst (pda_cons pd_int (pda_cons pd_int (pda_cons pd_int (pda_cons pd_int (pda_cons pd_int pda_nil)))))) pa_nil))) pa_nil)) (pg_name (i := 6) sc_law.nd rfl (Or.inl rfl))
        (pss_cons (ps_set (i := 7) sc_law.nd rfl (Or.inl rfl) (pe_call (ok_law_next T) (hr.mono (by decide)) rfl T.m_law_next T.F_law_next.kp T.b_law_next .nil pass0 (pa_cons (pv 1) (pa_cons (pe_callB (r := rLenS K) call_lenS (by rfl) T.z_len (by decide +kernel) (pa_cons (pv 3) pa_nil)) pa_nil))))
        (pss_cons (ps_set (i := 8) sc_law.nd rfl (Or.inl rfl) (pe_call (ok_law_pick T) (hr.mono (by decide)) rfl T.m_law_pick T.F_law_pick.kp T.b_law_pick .nil pass0 (pa_cons (pv 1) (pa_cons (pv 5) pa_nil))))
        (pss_cons (ps_if (PW.pt (pw_and (pt_val (pe_callB (r := rIsi K) call_isi (by rfl) T.z_isinstance (by decide +kernel) (pa_cons (pe_ix (r := rIxT K) ix_tup (pv 3) (pv 7) (fun _ _ => rfl)) (pa_cons (pe_bltn (v := .ty "tuple") (u := .type "tuple") (by rfl) T.z_tuple (by decide +kernel) rfl) pa_nil)))) (pw_and1 (pt_cmpR op_eq (pe_call (ok_law_next T) (hr.mono (by decide)) rfl T.m_law_next T.F_law_next.kp T.b_law_next .nil pass0 (pa_cons (pv 1) (pa_cons pe_int pa_nil))) pe_int (nomark _)))))
          (pss_cons (ps_set (i := 9) sc_law.nd rfl (Or.inl rfl) (pe_call (ok_law_next T) (hr.mono (by decide)) rfl T.m_law_next T.F_law_next.kp T.b_law_next .nil pass0 (pa_cons (pv 1) (pa_cons (pe_op op_add (pe_callB (r := rLenS K) call_lenS (by rfl) T.z_len (by decide +kernel) (pa_cons (pe_ix (r := rIxT K) ix_tup (pv 3) (pv 7) (fun _ _ => rfl)) pa_nil)) pe_int) pa_nil))))
          (pss_one (ps_set (i := 8) sc_law.nd rfl (Or.inl rfl) (pe_op (r := rCatD K) op_catD (pe_op (r := rCatD K) op_catD (pe_slice (r := rSlD K) sl_tupD (pe_ix (r := rIxT K) ix_tup (pv 3) (pv 7) (fun _ _ => rfl)) po_none (po_some (pv 9))) (pe_tup (pa_cons (pe_call (ok_law_pick T) (hr.mono (by decide)) rfl T.m_law_pick T.F_law_pick.kp T.b_law_pick .nil pass0 (pa_cons (pv 1) (pa_cons (pv 4) pa_nil))) pa_nil))) (pe_slice (r := rSlD K) sl_tupD (pe_ix (r := rIxT K) ix_tup (pv 3) (pv 7) (fun _ _ => rfl)) (po_some (pe_op op_add (pv 9) pe_int)) po_none)))))
          pss_nil)
        (pss_one (ps_set (i := 3) sc_law.nd rfl (Or.inl rfl) (pe_op (r := rCatD K) op_catD (pe_op (r := rCatD K) op_catD (pe_slice (r := rSlD K) sl_tupD (pv 3) po_none (po_some (pv 7))) (pe_tup (pa_cons (pv 8) pa_nil))) (pe_slice (r := rSlD K) sl_tupD (pv 3) (po_some (pe_op op_add (pv 7) (pe_call (ok_law_pick T) (hr.mono (by decide)) rfl T.m_law_pick T.F_law_pick.kp T.b_law_pick .nil pass0 (pa_cons (pv 1) (pa_cons (pd_lst (pda_cons pd_int (pda_cons pd_int (pda_cons pd_int pda_nil)))) pa_nil))))) po_none))))))))
      (pss_cons (ps_set (i := 3) sc_law.nd rfl (Or.inl rfl) (pe_call (ok_law_pick T) (hr.mono (by decide)) rfl T.m_law_pick T.F_law_pick.kp T.b_law_pick .nil pass0 (pa_cons (pv 1) (pa_cons (pe_op op_cat (pe_op op_rep (pe_lst (pa_cons (pv 3) pa_nil)) pe_int) (pe_lst (pa_cons (pe_callTy (r := rListOf K) call_listS (by rfl) T.z_list (by decide +kernel) (pa_cons (pv 3) pa_nil)) (pa_cons pe_non (pa_cons (pd_tup pda_nil) (pa_cons (pe_op (r := rRepT K) op_repT (pe_slice (r := rSlD K) sl_tupD (pv 3) po_none (po_some pe_int)) pe_int) pa_nil)))))) pa_nil))))
      (pss_cons (ps_par (i := 10) (j := 11) (by rfl) sc_law.nd rfl rfl (by decide) rfl rfl (pa_cons (pe_call (ok_law_tried T) (hr.mono (by decide)) rfl T.m_law_tried T.F_law_tried.kp T.b_law_tried .nil pass0 (pa_cons (pv 3) pa_nil)) (pa_cons (pe_call (ok_law_fault T) (hr.mono (by decide)) rfl T.m_law_fault T.F_law_fault.kp T.b_law_fault .nil pass0 (pa_cons (pv 3) pa_nil)) pa_nil)) (by rfl))
      (pss_one (ps_if (pt_cmpR op_notN (pv 11) pe_non (nomark _))
        (pss_one (ps_if (pt_not (pt_val (pe_call (ok_law_alike T) (hr.mono (by decide)) rfl T.m_law_alike T.F_law_alike.kp T.b_law_alike .nil pass0 (pa_cons (pv 10) (pa_cons (pv 11) pa_nil)))))
          (pss_one (ps_ret pe_bl))
          pss_nil))
        (pss_one (ps_if (PW.pt (pw_or (pt_not (pt_val (pe_callB (r := rIsi K) call_isi (by rfl) T.z_isinstance (by decide +kernel) (pa_cons (pv 10) (pa_cons (pe_glob (v := .ref T.c_Writer) rfl T.m_Writer rfl) pa_nil))))) (pw_or (pt_not (pt_cmpR (op_ownEq (ok_Writer_eq T) (hr.mono (by decide)) T.at_Writer_eq T.fn_Writer_eq T.b_Writer_eq) (pv 10) (pe_make T.mk_Writer (ok_Writer_init T) (hr.mono (by decide)) (by rfl) T.m_Writer T.b_Writer_init .nil (E := E0) (passes_call takes0 (fun _ _ _ _ z => z)) (pa_cons (pv 3) pa_nil)) (nomark _))) (pw_or1 (pt_cmpR (op_ownEq (ok_Writer_eq T) (hr.mono (by decide)) T.at_Writer_eq T.fn_Writer_eq T.b_Writer_eq) (pv 10) (pv 3) (nomark _))))))
          (pss_one (ps_ret pe_bl))
          (pss_one (ps_if (pt_not (pt_val (pe_call (ok_law_alike T) (hr.mono (by decide)) rfl T.m_law_alike T.F_law_alike.kp T.b_law_alike .nil pass0 (pa_cons (pe_lst (pa_cons (pe_prop (pv 10) T.cl_Writer T.pr_Writer_table (ok_Writer_table T) (hr.mono (by decide)) T.b_Writer_table .nil pass0 rfl) (pa_cons (pe_prop (pv 10) T.cl_Writer T.pr_Writer_letters (ok_Writer_letters T) (hr.mono (by decide)) T.b_Writer_letters .nil pass0 rfl) (pa_cons (pe_callB (call_ownLen (ok_Writer_len T) (hr.mono (by decide)) T.at_Writer_len T.fn_Writer_len T.b_Writer_len) (by rfl) T.z_len (by decide +kernel) (pa_cons (pv 10) pa_nil)) pa_nil)))) (pa_cons (pe_lst (pa_cons (pv 3) (pa_cons (pe_callB (r := rLenS K) call_lenS (by rfl) T.z_len (by decide +kernel) (pa_cons (pe_ix (r := rIxT K) ix_tup (pv 3) pe_int (fun _ _ => rfl)) pa_nil)) (pa_cons (pe_callB (r := rLenS K) call_lenS (by rfl) T.z_len (by decide +kernel) (pa_cons (pv 3) pa_nil)) pa_nil)))) pa_nil)))))
            (pss_one (ps_ret pe_bl))
            (pss_one (ps_if (pt_cmpR (op_ownEq (ok_Writer_eq T) (hr.mono (by decide)) T.at_Writer_eq T.fn_Writer_eq T.b_Writer_eq) (pv 10) (pe_make T.mk_Writer (ok_Writer_init T) (hr.mono (by decide)) (by rfl) T.m_Writer T.b_Writer_init .nil (E := E0) (passes_call takes0 (fun _ _ _ _ z => z)) (pa_cons (pe_op (r := rCatD K) op_catD (pe_slice (r := rSlD K) sl_tupD (pv 3) po_none (po_some (pe_un un_neg pe_int))) (pe_tup (pa_cons (pe_op (r := rCatD K) op_catD (pe_slice (r := rSlD K) sl_tupD (pe_ix (r := rIxT K) ix_tup (pv 3) (pe_un un_neg pe_int) (fun _ _ => rfl)) po_none (po_some (pe_un un_neg pe_int))) (pe_tup (pa_cons (pe_tup (pa_cons (pe_ix (r := rIxT K) ix_tup (pe_ix (r := rIxT K) ix_tup (pe_ix (r := rIxT K) ix_tup (pv 3) (pe_un un_neg pe_int) (fun _ _ => rfl)) (pe_un un_neg pe_int) (fun _ _ => rfl)) pe_int (fun _ _ => rfl)) (pa_cons (pe_op op_sub pe_int (pe_ix (r := rIxT K) ix_tup (pe_ix (r := rIxT K) ix_tup (pe_ix (r := rIxT K) ix_tup (pv 3) (pe_un un_neg pe_int) (fun _ _ => rfl)) (pe_un un_neg pe_int) (fun _ _ => rfl)) pe_int (fun _ _ => rfl))) pa_nil))) pa_nil))) pa_nil))) pa_nil)) (nomark _))
              (pss_one (ps_ret pe_bl))
              pss_nil))))))))))))))))
    (pss_one (ps_ret pe_bl)))), ?_⟩
  refine ⟨_, rfl, a, ns, 1, rfl, hS, hl, fun h l H0 s0 nh0 nl0 S0 => ?_⟩
  refine ⟨6, rfl, by decide, by decide, for_range (lo := 0) (n := 6) (fun i σ H' => (∃ x2 x3 x4 x5 x6 x7 x8 x9 x10 x11, σ = [some (.ref a), some (.ref h), x2, x3, x4, x5, x6, x7, x8, x9, x10, x11]) ∧ Src h l H')
    ⟨⟨_, _, _, _, _, _, _, _, _, _, rfl⟩, S0⟩ (fun i σ H1 hi z => ?_) (fun σ H' z => q _)⟩
  obtain ⟨⟨x2, x3, x4, x5, x6, x7, x8, x9, x10, x11, rfl⟩, S1⟩ := z
  refine ⟨_, rfl, h, l, rfl, S1, fun v t n H2 g S2 o2 d2 => ?_⟩
  have dc : Dp K (cut h l H2) v (.tuple (t.map rowD)) := dp_same d2 (tups_cut S2)
  have F0 := fit_good g
  obtain ⟨ds, eds⟩ : ∃ ds, ds = t.map rowD := ⟨_, rfl⟩
  rw [← eds] at dc F0
  obtain ⟨pt, xt, rfl, hxt, hAt⟩ := dp_tup dc
  have lt := dps_len hAt
  clear d2
  -- the steps that spoil
  refine ⟨h, l, S2.two, fun v1 H3 s3 d3 => ⟨_, rfl, pt, xt, rfl, .inr (same_tup ((cut_same h l H2).trans s3) hxt), (by show 2 ≤ sizeLine; decide), fun p2 np2 => ?_⟩⟩
  have S3 := S2.same s3
  rw [lt]
  have S3' := S3.new np2 (.tup [.int (ds.length : Int), .int 0])
  refine ⟨h, l, S3'.two, fun v3 H4 s4 d4 => ?_⟩
  have S4 := S3'.same s4
  refine ⟨h, l, S4.two, fun v4 H5 s5 d5 => ?_⟩
  have S5 := S4.same s5
  refine ⟨h, l, S5.two, fun v5 H6 s6 d6 => ?_⟩
  have S6 := S5.same s6
  refine ⟨h, l, S6.two, fun v6 H7 s7 d7 => ?_⟩
  have S7 := S6.same s7
  refine ⟨h, l, S7.two, fun v7 H8 s8 d8 => ?_⟩
  have S8 := S7.same s8
  refine ⟨h, l, S8.two, fun v9 H9 s9 d9 => ⟨(by show 9 ≤ sizeLine; decide), fun pl npl => ?_⟩⟩
  have S9 := S8.same s9
  have S9' := S9.new npl (.lst [v1, .ref p2, v3, v4, v5, v6, v7, .non, v9])
  refine ⟨_, rfl, h, l, S9'.two, fun w1 H10 s10 e1 => ?_⟩
  have S10 := S9'.same s10
  refine ⟨h, l, S10.two, fun w2 H11 s11 e2 => ⟨(by show 3 ≤ sizeLine; decide), fun p3 np3 => ?_⟩⟩
  have S11 := S10.same s11
  have S11' := S11.new np3 (.lst [w1, w2, .int 0])
  have s9b := (s10.trans s11).trans (same_new np3 (.lst [w1, w2, .int 0]))
  refine ⟨pl, p3, _, _, rfl, rfl, s9b _ _ upd_same, upd_same, (by show 9 + 3 ≤ sizeLine; decide), fun p4 np4 => ?_⟩
  have S12 := S11'.new np4 (.lst ([v1, .ref p2, v3, v4, v5, v6, v7, .non, v9] ++ [w1, w2, .int 0]))
  have s4' := same_new np4 (.lst ([v1, .ref p2, v3, v4, v5, v6, v7, .non, v9] ++ [w1, w2, .int 0]))
  have z11 := (same_new np3 (.lst [w1, w2, .int 0])).trans s4'
  have z10 := s11.trans z11
  have z9 := ((same_new npl (.lst [v1, .ref p2, v3, v4, v5, v6, v7, .non, v9])).trans s10).trans z10
  have z8 := s9.trans z9
  have z7 := s8.trans z8
  have z6 := s7.trans z7
  have z5 := s6.trans z6
  have z4 := s5.trans z5
  have z3 := s4.trans z4
  have z2 := (same_new np2 (.tup [.int (ds.length : Int), .int 0])).trans z3
  have D12 : DpAll K (cut h l (upd (upd H11 p3 (.lst [w1, w2, .int 0])) p4 (.lst ([v1, .ref p2, v3, v4, v5, v6, v7, .non, v9] ++ [w1, w2, .int 0])))) ([v1, .ref p2, v3, v4, v5, v6, v7, .non, v9] ++ [w1, w2, .int 0]) (stepsL (ds.length : Int)) :=
    .cons (dp_same d3 (cut_sm z2)) (.cons (dp_same (.tup (SqT.of (S3.two.new np2 _)) (.cons (.int _) (.cons (.int _) .nil))) (cut_sm z3)) (.cons (dp_same d4 (cut_sm z4)) (.cons (dp_same d5 (cut_sm z5)) (.cons (dp_same d6 (cut_sm z6))
      (.cons (dp_same d7 (cut_sm z7)) (.cons (dp_same d8 (cut_sm z8)) (.cons .non (.cons (dp_same d9 (cut_sm z9)) (.cons (dp_same e1 (cut_sm z10)) (.cons (dp_same e2 (cut_sm z11)) (.cons (.int _) .nil)))))))))))
  have P4 : SqL K (cut h l (upd (upd H11 p3 (.lst [w1, w2, .int 0])) p4 (.lst ([v1, .ref p2, v3, v4, v5, v6, v7, .non, v9] ++ [w1, w2, .int 0])))) p4 ([v1, .ref p2, v3, v4, v5, v6, v7, .non, v9] ++ [w1, w2, .int 0]) := SqL.of (cut_new S11' np4)
  have D2 := dp_same dc (cut_sm (s3.trans z2))
  -- forget how they were made
  obtain ⟨Hk, eH⟩ : ∃ Hk, Hk = upd (upd H11 p3 (.lst [w1, w2, .int 0])) p4 (.lst ([v1, .ref p2, v3, v4, v5, v6, v7, .non, v9] ++ [w1, w2, .int 0])) := ⟨_, rfl⟩
  obtain ⟨sl, esl⟩ : ∃ sl, sl = [v1, .ref p2, v3, v4, v5, v6, v7, .non, v9] ++ [w1, w2, .int 0] := ⟨_, rfl⟩
  rw [← esl] at D12 P4 D2 eH S12
  rw [← esl]
  rw [← eH] at D12 P4 D2 S12
  rw [← eH]
  clear z2 z3 z4 z5 z6 z7 z8 z9 z10 z11 s4' s9b d3 d4 d5 d6 d7 d8 d9 e1 e2
  refine ⟨h, l, S12.two, fun vo H13 s13 dO => ?_⟩
  have S13 := S12.same s13
  refine ⟨_, rfl, h, l, S13.two, fun vp H14 s14 dp => ?_⟩
  have S14 := S13.same s14
  obtain ⟨ap, xp, rfl, hxp, hAp⟩ := dp_lst dp
  have lp := dps_len hAp
  refine ⟨h, l, ap, xp, rfl, S14, hxp, (fun e => by rw [e] at lp; cases lp), (by rw [lp]; decide), fun ip u H15 hu S15 o15 => ?_⟩
  obtain ⟨c, rfl, hc⟩ : ∃ c : Nat, u = .int (c : Int) ∧ c ≤ 2 := by
    obtain ⟨d, hd, du⟩ := dps_getV hAp hu
    have m : d ∈ [PyData.int ((0 : Nat) : Int), .int ((0 : Nat) : Int), .int ((1 : Nat) : Int), .int ((1 : Nat) : Int), .int ((2 : Nat) : Int)] := List.mem_of_getElem? hd
    simp only [List.mem_cons, List.not_mem_nil, or_false] at m
    rcases m with rfl | rfl | rfl | rfl | rfl
    · exact ⟨0, dp_int du, by decide⟩
    · exact ⟨0, dp_int du, by decide⟩
    · exact ⟨1, dp_int du, by decide⟩
    · exact ⟨1, dp_int du, by decide⟩
    · exact ⟨2, dp_int du, by decide⟩
  have c15 := ((cut_sm s13).trans (cut_sm s14)).trans o15.cut
  have dO' : Dp K (cut h l H13) vo (.list oddL) := dO
  refine ⟨_, rfl, (by omega), (by omega), for_range (lo := 0) (n := ((c : Nat) : Int).toNat) (fun j σ H' => (∃ v3 y6 y7 y8 y9 dt, σ = [some (.ref a), some (.ref h), some (.int (0 + (i : Nat))), some v3, some (.ref p4), some vo, y6, y7, y8, y9, x10, x11] ∧
      Dp K (cut h l H') v3 (.tuple dt) ∧ TabFit j dt) ∧ Src h l H' ∧ SqL K (cut h l H') p4 sl ∧ DpAll K (cut h l H') sl (stepsL (ds.length : Int)) ∧ Dp K (cut h l H') vo (.list oddL))
    ⟨⟨_, _, _, _, _, _, rfl, dp_same D2 c15, F0⟩, S15, c15.seq P4, dps_same D12 c15, dp_same dO' ((cut_sm s14).trans o15.cut)⟩ (fun j σ K1 hj z => ?_) (fun σ K1 z => ?_)⟩
  · obtain ⟨⟨v3, y6, y7, y8, y9, dt, rfl, dv, F⟩, R1, Pa, Da, Oa⟩ := z
    obtain ⟨pv3, xv, rfl, hxv, hAv⟩ := dp_tup dv
    have lv := dps_len hAv
    have hj2 : j < 2 := by omega
    have lF := F.2.1
    refine ⟨_, rfl, _, rfl, pv3, xv, rfl, .inr (same_tup (cut_same h l K1) hxv), h, l, (xv.length : Int), rfl, R1, (by have := F.1; omega), (by omega), fun sp K2 hsp R2 o2' => ?_⟩
    have hsp' : sp < dt.length := by omega
    obtain ⟨ao, xo, rfl, hxo, hAo⟩ := dp_lst (dp_same Oa o2'.cut)
    have lo := dps_len hAo
    refine ⟨_, rfl, _, rfl, h, l, ao, xo, rfl, R2, hxo, (fun e => by rw [e] at lo; cases lo), (by rw [lo]; decide), fun io rv K3 hr R3 o3' => ?_⟩
    obtain ⟨rd, hrd, drd⟩ := dps_getV hAo hr
    have fr : RowFit (j + 1) rd := by
      have := odd_fit rd (List.mem_of_getElem? hrd)
      exact ⟨this.1, by have := this.2; omega⟩
    have c13 := o2'.cut.trans o3'.cut
    have hxv3 := same_tup c13 hxv
    have hAv3 := dps_same hAv c13
    obtain ⟨e, he⟩ : ∃ e, dt[sp]? = some e := ⟨dt[sp], List.getElem?_eq_getElem hsp'⟩
    obtain ⟨ue, hue, due⟩ := dps_get hAv3 he
    have fe : RowFit j e := F.2.2 e (List.mem_of_getElem? he)
    refine ⟨_, rfl, _, rfl, pv3, xv, _, _, rfl, rfl, same_tup (cut_same h l K3) hxv3, at_of (j := sp) rfl hue, ?_⟩
    refine ⟨_, _, _, _, _, rfl, .ty _, dp_ty (dp_cut due), isA_eq (by simp), _, rfl, ?_⟩
    rw [isA_tuple]
    have DVt : Dp K (cut h l K3) (.ref pv3) (.tuple dt) := .tup hxv3 hAv3
    cases e with
    | tuple rs =>
      refine iteT ?_
      obtain ⟨pe, xe, rfl, hxe, hAe⟩ := dp_tup due
      have le := dps_len hAe
      refine ⟨_, rfl, h, l, 2, rfl, R3, by decide, by decide, fun tw K4 htw R4 o4' => ?_⟩
      have c34 := o4'.cut
      refine ⟨rfl, _, rfl, ite2 (fun cz => ?_) (fun cz => ?_)⟩
      · -- one step of the row is another
        have hxv4 := same_tup c34 hxv3
        have hxe4 := same_tup c34 hxe
        have lrs : rs.length ≤ 4 + j := fe.2
        refine ⟨_, rfl, _, rfl, _, rfl, pv3, xv, _, _, rfl, rfl, same_tup (cut_same h l K4) hxv4, at_of (j := sp) rfl hue, pe, xe, rfl, .inr (same_tup (cut_same h l K4) hxe4), _, _, rfl, rfl, h, l, (xe.length : Int) + 1, rfl, R4, (by omega), (by omega), fun at' M5 hat R5' o5 => ?_⟩
        have c45 := o5.cut
        have DE5 : Dp K (cut h l M5) (.ref pe) (.tuple rs) := dp_same due (c34.trans c45)
        refine ⟨_, rfl, _, rfl, pv3, xv, _, _, rfl, rfl, same_tup (cut_same h l M5) (same_tup c45 hxv4), at_of (j := sp) rfl hue, _, rfl, _, rfl, h, l, rs, R5'.two, DE5, fun m1 M6 s6' dm1 => ?_⟩
        have R6' := R5'.same s6'
        have c16 := ((c13.trans c34).trans c45).trans (cut_sm s6')
        have Pa6 := c16.seq Pa
        have Da6 := dps_same Da c16
        refine ⟨_, rfl, _, rfl, h, l, p4, sl, rfl, R6', Pa6, (fun e => by rw [e] at Da6; cases Da6), (by rw [dps_len Da6]; show 12 ≤ 1000; decide), fun is us M7 hus R7' o7 => ⟨(by show 1 ≤ sizeLine; decide), fun px npx => ?_⟩⟩
        obtain ⟨sd, hsd, dsd⟩ := dps_getV Da6 hus
        have fsd := steps_fine _ sd (List.mem_of_getElem? hsd)
        have R8' := R7'.new npx (.tup [us])
        have c68 := o7.cut.trans (cut_step npx (.tup [us]))
        refine ⟨h, l, _, _, R8'.two, dp_same dm1 c68, .tup (SqT.of (R7'.two.new npx _)) (.cons (dp_same dsd c68) .nil), (by have := cut_len rs none (some (at' : Int)); rw [List.length_singleton]; omega), fun m2 M8 s8' dm2 => ?_⟩
        have R8b := R8'.same s8'
        have c58 := ((cut_sm (h := h) (l := l) s6').trans c68).trans (cut_sm s8')
        refine ⟨_, rfl, _, rfl, pv3, xv, _, _, rfl, rfl, same_tup (cut_same h l M8) (same_tup (c45.trans c58) hxv4), at_of (j := sp) rfl hue, _, rfl, _, _, rfl, rfl, _, rfl, h, l, rs, R8b.two, dp_same DE5 c58, fun m3 M9 s9' dm3 => ?_⟩
        have R9' := R8b.same s9'
        have fr' := fit_row_change fe (by omega) fsd (i := at') (by omega)
        refine ⟨h, l, _, _, R9'.two, dp_same dm2 (cut_sm s9'), dm3, (by have := fr'.2; have e2 : ∀ l : List PyData, (items (.tuple l)).length = l.length := fun _ => rfl; rw [e2, List.length_append] at this; omega), fun m4 MA sA' dm4 => ?_⟩
        have RA' := R9'.same sA'
        have c1A := (c16.trans c68).trans (((cut_sm (h := h) (l := l) s8').trans (cut_sm s9')).trans (cut_sm sA'))
        have c3A := (((c34.trans c45).trans c58).trans (cut_sm s9')).trans (cut_sm (h := h) (l := l) sA')
        refine ⟨_, rfl, _, rfl, _, rfl, h, l, dt, RA'.two, (dp_same DVt c3A), fun w1 K5 s5 dw1 => ?_⟩
        have R5 := (RA').same s5
        refine ⟨_, rfl, (by show 1 ≤ sizeLine; decide), fun pr npr => ⟨h, l, _, _, (R5.new npr _).two, dp_same dw1 (cut_step npr _), .tup (SqT.of (R5.two.new npr _)) (.cons (dp_same (dm4) ((cut_sm s5).trans (cut_step npr _))) .nil), (by have := cut_len dt none (some (sp : Int)); rw [List.length_singleton]; omega), fun w2 K6 s6 dw2 => ?_⟩⟩
        have R6 := (R5.new npr _).same s6
        have c36 := ((cut_sm (h := h) (l := l) s5).trans (cut_step npr (.tup [m4]))).trans (cut_sm s6)
        refine ⟨_, rfl, _, rfl, _, rfl, h, l, R6.two, fun vk K7 s7 dk => ?_⟩
        have R7 := R6.same s7
        obtain ⟨ak, xk, rfl, hxk, hAk⟩ := dp_lst dk
        have lk := dps_len hAk
        refine ⟨h, l, ak, xk, rfl, R7, hxk, (fun e => by rw [e] at lk; cases lk), (by rw [lk]; decide), fun ik uk K8 huk R8 o8 => ?_⟩
        obtain ⟨kk, rfl, hkk⟩ : ∃ kk : Nat, uk = .int (kk : Int) ∧ kk ≤ 1 := by
          obtain ⟨d, hd, du⟩ := dps_getV hAk huk
          have m : d ∈ [PyData.int ((0 : Nat) : Int), .int ((1 : Nat) : Int), .int ((1 : Nat) : Int)] := List.mem_of_getElem? hd
          simp only [List.mem_cons, List.not_mem_nil, or_false] at m
          rcases m with rfl | rfl | rfl
          · exact ⟨0, dp_int du, by decide⟩
          · exact ⟨1, dp_int du, by decide⟩
          · exact ⟨1, dp_int du, by decide⟩
        have c38 := (c36.trans (cut_sm s7)).trans o8.cut
        refine ⟨_, _, rfl, rfl, _, rfl, h, l, dt, R8.two, dp_same ((dp_same DVt c3A)) c38, fun w3 K9 s9 dw3 => ?_⟩
        have R9 := R8.same s9
        have c69 := ((cut_sm (h := h) (l := l) s7).trans o8.cut).trans (cut_sm s9)
        have F' := fit_change F (fr') (k := kk) hsp'
        refine ⟨h, l, _, _, R9.two, dp_same dw2 c69, dw3, (by have := F'.2.1; rw [List.length_append] at this; omega), fun w4 KA sA dw4 => ?_⟩
        have cA := (c38.trans (cut_sm s9)).trans (cut_sm sA)
        exact ⟨⟨_, _, _, _, _, _, rfl, dw4, F'⟩, R9.same sA, ((c1A).trans cA).seq Pa, dps_same Da ((c1A).trans cA), dp_same Oa ((c1A).trans cA)⟩
      · have c14 := c13.trans c34
        refine ⟨_, rfl, _, rfl, _, rfl, h, l, dt, R4.two, (dp_same DVt c34), fun w1 K5 s5 dw1 => ?_⟩
        have R5 := (R4).same s5
        refine ⟨_, rfl, (by show 1 ≤ sizeLine; decide), fun pr npr => ⟨h, l, _, _, (R5.new npr _).two, dp_same dw1 (cut_step npr _), .tup (SqT.of (R5.two.new npr _)) (.cons (dp_same ((dp_same drd (o3'.cut.trans c34))) ((cut_sm s5).trans (cut_step npr _))) .nil), (by have := cut_len dt none (some (sp : Int)); rw [List.length_singleton]; omega), fun w2 K6 s6 dw2 => ?_⟩⟩
        have R6 := (R5.new npr _).same s6
        have c36 := ((cut_sm (h := h) (l := l) s5).trans (cut_step npr (.tup [rv]))).trans (cut_sm s6)
        refine ⟨_, rfl, _, rfl, _, rfl, h, l, R6.two, fun vk K7 s7 dk => ?_⟩
        have R7 := R6.same s7
        obtain ⟨ak, xk, rfl, hxk, hAk⟩ := dp_lst dk
        have lk := dps_len hAk
        refine ⟨h, l, ak, xk, rfl, R7, hxk, (fun e => by rw [e] at lk; cases lk), (by rw [lk]; decide), fun ik uk K8 huk R8 o8 => ?_⟩
        obtain ⟨kk, rfl, hkk⟩ : ∃ kk : Nat, uk = .int (kk : Int) ∧ kk ≤ 1 := by
          obtain ⟨d, hd, du⟩ := dps_getV hAk huk
          have m : d ∈ [PyData.int ((0 : Nat) : Int), .int ((1 : Nat) : Int), .int ((1 : Nat) : Int)] := List.mem_of_getElem? hd
          simp only [List.mem_cons, List.not_mem_nil, or_false] at m
          rcases m with rfl | rfl | rfl
          · exact ⟨0, dp_int du, by decide⟩
          · exact ⟨1, dp_int du, by decide⟩
          · exact ⟨1, dp_int du, by decide⟩
        have c38 := (c36.trans (cut_sm s7)).trans o8.cut
        refine ⟨_, _, rfl, rfl, _, rfl, h, l, dt, R8.two, dp_same ((dp_same DVt c34)) c38, fun w3 K9 s9 dw3 => ?_⟩
        have R9 := R8.same s9
        have c69 := ((cut_sm (h := h) (l := l) s7).trans o8.cut).trans (cut_sm s9)
        have F' := fit_change F (fr) (k := kk) hsp'
        refine ⟨h, l, _, _, R9.two, dp_same dw2 c69, dw3, (by have := F'.2.1; rw [List.length_append] at this; omega), fun w4 KA sA dw4 => ?_⟩
        have cA := (c38.trans (cut_sm s9)).trans (cut_sm sA)
        exact ⟨⟨_, _, _, _, _, _, rfl, dw4, F'⟩, R9.same sA, ((c14).trans cA).seq Pa, dps_same Da ((c14).trans cA), dp_same Oa ((c14).trans cA)⟩
    | _ =>
      refine iteF ?_
      refine ⟨_, rfl, _, rfl, _, rfl, h, l, dt, R3.two, DVt, fun w1 K5 s5 dw1 => ?_⟩
      have R5 := (R3).same s5
      refine ⟨_, rfl, (by show 1 ≤ sizeLine; decide), fun pr npr => ⟨h, l, _, _, (R5.new npr _).two, dp_same dw1 (cut_step npr _), .tup (SqT.of (R5.two.new npr _)) (.cons (dp_same ((dp_same drd o3'.cut)) ((cut_sm s5).trans (cut_step npr _))) .nil), (by have := cut_len dt none (some (sp : Int)); rw [List.length_singleton]; omega), fun w2 K6 s6 dw2 => ?_⟩⟩
      have R6 := (R5.new npr _).same s6
      have c36 := ((cut_sm (h := h) (l := l) s5).trans (cut_step npr (.tup [rv]))).trans (cut_sm s6)
      refine ⟨_, rfl, _, rfl, _, rfl, h, l, R6.two, fun vk K7 s7 dk => ?_⟩
      have R7 := R6.same s7
      obtain ⟨ak, xk, rfl, hxk, hAk⟩ := dp_lst dk
      have lk := dps_len hAk
      refine ⟨h, l, ak, xk, rfl, R7, hxk, (fun e => by rw [e] at lk; cases lk), (by rw [lk]; decide), fun ik uk K8 huk R8 o8 => ?_⟩
      obtain ⟨kk, rfl, hkk⟩ : ∃ kk : Nat, uk = .int (kk : Int) ∧ kk ≤ 1 := by
        obtain ⟨d, hd, du⟩ := dps_getV hAk huk
        have m : d ∈ [PyData.int ((0 : Nat) : Int), .int ((1 : Nat) : Int), .int ((1 : Nat) : Int)] := List.mem_of_getElem? hd
        simp only [List.mem_cons, List.not_mem_nil, or_false] at m
        rcases m with rfl | rfl | rfl
        · exact ⟨0, dp_int du, by decide⟩
        · exact ⟨1, dp_int du, by decide⟩
        · exact ⟨1, dp_int du, by decide⟩
      have c38 := (c36.trans (cut_sm s7)).trans o8.cut
      refine ⟨_, _, rfl, rfl, _, rfl, h, l, dt, R8.two, dp_same (DVt) c38, fun w3 K9 s9 dw3 => ?_⟩
      have R9 := R8.same s9
      have c69 := ((cut_sm (h := h) (l := l) s7).trans o8.cut).trans (cut_sm s9)
      have F' := fit_change F (fr) (k := kk) hsp'
      refine ⟨h, l, _, _, R9.two, dp_same dw2 c69, dw3, (by have := F'.2.1; rw [List.length_append] at this; omega), fun w4 KA sA dw4 => ?_⟩
      have cA := (c38.trans (cut_sm s9)).trans (cut_sm sA)
      exact ⟨⟨_, _, _, _, _, _, rfl, dw4, F'⟩, R9.same sA, ((c13).trans cA).seq Pa, dps_same Da ((c13).trans cA), dp_same Oa ((c13).trans cA)⟩
  · obtain ⟨⟨v3, y6, y7, y8, y9, dt, rfl, dv, F⟩, R1, _, _, _⟩ := z
    have lF := F.2.1
    have hc' : ((c : Nat) : Int).toNat ≤ 10 := by omega
    obtain ⟨pv3, xv, rfl, hxv, hAv⟩ := dp_tup dv
    have lv := dps_len hAv
    refine ⟨_, rfl, _, rfl, (by show 1 ≤ sizeLine; decide), fun b1 nb1 => ⟨b1, 7, _, rfl, rfl, upd_same, by decide, by decide, (by show 7 ≤ sizeLine; decide), fun b2 nb2 => ?_⟩⟩
    have T1 := R1.new nb1 (.lst [.ref pv3])
    have T2 := T1.new nb2 (.lst [.ref pv3, .ref pv3, .ref pv3, .ref pv3, .ref pv3, .ref pv3, .ref pv3])
    have t2 := (same_new nb1 (.lst [.ref pv3])).trans (same_new nb2 (.lst [.ref pv3, .ref pv3, .ref pv3, .ref pv3, .ref pv3, .ref pv3, .ref pv3]))
    refine ⟨_, rfl, pv3, xv, rfl, .inr (same_tup ((cut_same h l K1).trans t2) hxv), fun b3 nb3 => ⟨h, l, (T2.new nb3 (.lst xv)).two, fun ve M4 n4 de => ?_⟩⟩
    have T3 := T2.new nb3 (.lst xv)
    have T4 := T3.same n4
    have t3 := t2.trans (same_new nb3 (.lst xv))
    have t4 := t3.trans n4
    refine ⟨_, rfl, _, rfl, h, l, dt, T4.two, dp_same dv (cut_sm t4), fun m5 M5 n5 d5 => ?_⟩
    have T5 := T4.same n5
    have F1 := F.1
    have lcut : (cutD dt none (some 1)).length ≤ dt.length := cut_len dt none (some 1)
    have l1 : 1 ≤ (cutD dt none (some 1)).length := by
      unfold cutD
      rw [show (some (1 : Int)) = some ((1 : Nat) : Int) from rfl, HT.sIx_nat, HT.sIx_none, List.length_take, List.length_drop]
      omega
    obtain ⟨p5, x5, rfl, hx5, hA5⟩ := dp_tup d5
    have l5 := dps_len hA5
    refine ⟨p5, 7, x5, rfl, rfl, same_tup (cut_same h l M5) hx5, (fun e => by rw [e] at l5; simp at l5; omega), by decide, by decide, (by omega), fun b5 nb5 => ⟨(by show 4 ≤ sizeLine; decide), fun b6 nb6 => ?_⟩⟩
    have n6 := (same_new nb5 (.tup (List.replicate (7 : Int).toNat x5).flatten)).trans (same_new nb6 (.lst [.ref b3, .non, ve, .ref b5]))
    have T5' := T5.new nb5 (.tup (List.replicate (7 : Int).toNat x5).flatten)
    have T6 := T5'.new nb6 (.lst [.ref b3, .non, ve, .ref b5])
    have t36 := (n4.trans n5).trans n6
    refine ⟨b2, b6, _, _, rfl, rfl, ((same_new nb3 _).trans t36) _ _ upd_same, upd_same, (by show 7 + 4 ≤ sizeLine; decide), fun b7 nb7 => ?_⟩
    have T7 := T6.new nb7 (.lst ((List.replicate (7 : Int).toNat [V.ref pv3]).flatten ++ [.ref b3, .non, ve, .ref b5]))
    have n7 := same_new nb7 (.lst ((List.replicate (7 : Int).toNat [V.ref pv3]).flatten ++ [.ref b3, .non, ve, .ref b5]))
    have c37 := cut_sm (h := h) (l := l) (t36.trans n7)
    have A7 : DpAll K (cut h l (upd (upd (upd M5 b5 (.tup (List.replicate (7 : Int).toNat x5).flatten)) b6 (.lst [.ref b3, .non, ve, .ref b5])) b7 (.lst ((List.replicate (7 : Int).toNat [V.ref pv3]).flatten ++ [.ref b3, .non, ve, .ref b5]))))
        ((List.replicate (7 : Int).toNat [V.ref pv3]).flatten ++ [.ref b3, .non, ve, .ref b5]) (askL dt) :=
      dps_app (ds := (List.replicate (7 : Int).toNat [PyData.tuple dt]).flatten) (dps_rep (.cons (dp_same dv ((cut_sm t3).trans c37)) .nil) _)
        (.cons (.lst (c37.seq (SqL.of (cut_new T2 nb3))) (dps_same hAv ((cut_sm t3).trans c37))) (.cons .non (.cons (dp_same de (cut_sm ((n5.trans n6).trans n7)))
          (.cons (dp_same (.tup (SqT.of (T5.two.new nb5 _)) (dps_rep (dps_same hA5 (cut_step nb5 _)) _)) (cut_sm ((same_new nb6 _).trans n7))) .nil))))
    refine ⟨h, l, b7, _, rfl, T7, SqL.of (cut_new T6 nb7), (by intro e; cases e), (by show 11 ≤ 1000; decide), fun iv va N0 hva U0 o0 => ?_⟩
    obtain ⟨d, hd, dd⟩ := dps_getV (dps_same A7 o0.cut) hva
    have fd := ask_fine F hc' d (List.mem_of_getElem? hd)
    have dc0 := dd
    have dd := dp_cut dd
    clear A7 c37 n7 T7 t36 T6 T5' n6 hA5 l5 hx5
    refine ⟨_, rfl, va, d, rfl, dd, fun ef pw N1 n1 w1 => ?_, fun o ef uf N1 n1 df => ?_⟩
    · -- a table
      refine ⟨_, rfl, va, d, rfl, dp_same dd n1, fine_le fd (by decide), fun u N2 n2 fi => ?_⟩
      rw [ef] at fi
      have eu : u = .non := fi
      subst eu
      obtain ⟨t', n', rfl, g'⟩ := fault_none ef
      have n12 := n1.trans n2
      have U2 := U0.same n12
      have w2 := w1.same n2
      have dd2 := dp_same dd n12
      have dc2 := dp_same dc0 (cut_sm (h := h) (l := l) n12)
      obtain ⟨dxw, hw⟩ := w2
      refine ⟨_, _, rfl, _, rfl, rfl, _, rfl, iteF ⟨_, rfl, _, _, _, _, _, rfl, .own _, T.is_Writer.tyx hw, kit_self, _, rfl, _, rfl, ?_⟩⟩
      refine ⟨_, rfl, fun x dx nx ndx ne => ⟨x, dx, va, tabD t', rfl, upd_same, dp_same dd2 ((same_new ndx _).trans (same_new (by rw [upd_ne ne.symm]; exact nx) _)), fun _ N3 w3 k3 => ⟨rfl, ?_⟩, fun o eo => by rw [ef] at eo; cases eo⟩⟩
      have n3 := Same.made nx ndx k3
      obtain ⟨dx3, hx3⟩ := w3
      have dd3 := dp_same dd2 n3
      refine ⟨pw, dxw, _, rfl, n3 _ _ hw, .ins hx3, pw, va, .ref x, t', rfl, ⟨dxw, n3 _ _ hw⟩, dd3, .inr ⟨x, va, t', rfl, ⟨dx3, hx3⟩, dd3, ⟨_, rfl⟩, _, rfl, ?_⟩⟩
      rw [tab_refl]
      obtain ⟨qa, xa, eva, hxa, hAa⟩ := dp_tup dd3
      subst eva
      refine ⟨_, rfl, _, rfl, pw, dxw, _, rfl, n3 _ _ hw, .tup hxa (sub_plain (.tuple [])), pw, _, _, t', rfl, ⟨dxw, n3 _ _ hw⟩, dd3, .inl ⟨tabD t', dd3, ⟨_, rfl⟩, _, rfl, ?_⟩⟩
      -- the parts
      have g1 := g'.len1
      have g6 := g'.len6
      have n33 := g'.n3
      obtain ⟨pr, xr, evr, hxr, hAr⟩ : ∃ pr xr, xa[0]? = some (.ref pr) ∧ SqT K N3 pr xr ∧ DpAll K N3 xr ((t'.getD 0 []).map stepD) := by
        obtain ⟨p0, x0, u0, e0, hx0, hu0, du0, _⟩ := tab_row dd3 (s := 0) (by omega)
        cases e0
        obtain ⟨pr, xr, rfl, hxr, hAr⟩ := dp_tup du0
        obtain ⟨u1, hu1, du1⟩ := dps_get hAa (i := 0) (d := rowD (t'.getD 0 [])) (by
          rw [List.getElem?_map, List.getElem?_eq_getElem (by omega : 0 < t'.length)]
          simp [List.getD, List.getElem?_eq_getElem (by omega : 0 < t'.length)])
        obtain ⟨p1, x1, rfl, hx1, hA1⟩ := dp_tup du1
        exact ⟨p1, x1, hu1, hx1, hA1⟩
      have lr : xr.length = n' := by rw [dps_len hAr, List.length_map]; exact (g'.row (s := 0) (by omega)).2
      have la : xa.length = t'.length := by rw [dps_len hAa, List.length_map]
      refine iteF ⟨_, rfl, pw, dxw, _, rfl, n3 _ _ hw, pw, .ref qa, rfl, ⟨dxw, n3 _ _ hw⟩, _, rfl, pw, dxw, _, rfl, n3 _ _ hw, pw, .ref qa, t', n', rfl, ⟨dxw, n3 _ _ hw⟩, dd3, g', _, rfl, pw, dxw, _, rfl, n3 _ _ hw, pw, .ref qa, t', n', rfl, ⟨dxw, n3 _ _ hw⟩, dd3, g',
        ⟨t'.length, rfl, by omega⟩, (by show 3 ≤ sizeLine; decide), fun pl npl => ?_⟩
      have n4 := same_new npl (.lst [.ref qa, .int (n' : Int), .int (t'.length : Int)])
      refine ⟨_, rfl, _, rfl, qa, xa, _, _, rfl, rfl, same_tup n4 hxa, at_of (j := 0) rfl evr, pr, xr, rfl, .inr (same_tup n4 hxr), _, rfl, qa, xa, rfl, .inr (same_tup n4 hxa), (by show 3 ≤ sizeLine; decide), fun pm npm => ?_⟩
      rw [lr, la]
      have n5 := same_new npm (.lst [.ref qa, .int (n' : Int), .int (t'.length : Int)])
      refine ⟨.ref pl, .ref pm, .list [tabD t', .int (n' : Int), .int (t'.length : Int)], rfl, .lst (SqL.of (n5 _ _ upd_same)) (.cons (dp_same dd3 (n4.trans n5)) (.cons (.int _) (.cons (.int _) .nil))),
        .lst (SqL.of upd_same) (.cons (dp_same dd3 (n4.trans n5)) (.cons (.int _) (.cons (.int _) .nil))), ?_, fun N6 n6 => ⟨_, rfl, iteF ?_⟩⟩
      · refine ⟨(by show 3 ≤ 1000; decide), fun e he => ?_⟩
        rcases List.mem_cons.mp he with rfl | he
        · exact fine_le fd (by decide)
        rcases List.mem_cons.mp he with rfl | he
        · exact trivial
        rw [List.mem_singleton.mp he]
        exact trivial
      -- another writer
      have n26 := n3.trans ((n4.trans n5).trans n6)
      have U6 := U2.same n26
      have dc6 := dp_same dc2 (cut_sm (h := h) (l := l) n26)
      have hw6 := n26 _ _ hw
      clear dd3 hAa hxa hAr hxr evr n4 n5 la lr
      obtain ⟨t0, r, rfl⟩ := snoc_of g1
      have gr := g'.rows r (by simp)
      have gn2 := g'.n2
      obtain ⟨r0, ⟨sa, sb⟩, rfl⟩ := snoc_of (l := r) (by omega)
      obtain ⟨go, ne', hb3⟩ := good_other g'
      obtain ⟨qb, xb, evb, hxb, hAb⟩ := dp_tup dc6
      cases evb
      rw [List.map_append] at hAb
      obtain ⟨ys, ur, rfl, dur⟩ := dps_last hAb
      obtain ⟨q1, zs, rfl, hzs, hAz⟩ := dp_tup dur
      rw [List.map_append] at hAz
      obtain ⟨ys1, us1, rfl, dus⟩ := dps_last hAz
      obtain ⟨q2, ws, rfl, hws, hAw⟩ := dp_tup dus
      have ews : ws = [.int (sa : Int), .int (sb : Int)] := dps_ofInts (ns := [(sa : Int), (sb : Int)]) hAw
      subst ews
      have dT : Dp K (cut h l N6) (.ref qa) (.tuple (t0.map rowD ++ [rowD (r0 ++ [(sa, sb)])])) := .tup hxb hAb
      have dR : Dp K (cut h l N6) (.ref q1) (.tuple (r0.map stepD ++ [stepD (sa, sb)])) := .tup hzs hAz
      have ls : (t0.map rowD).length ≤ 5 := by
        rw [List.length_map]
        simp at g6
        omega
      have lr0 : (r0.map stepD).length ≤ 2 := by
        rw [List.length_map]
        simp at gr
        omega
      refine ⟨_, rfl, _, rfl, 1, rfl, _, rfl, h, l, _, U6.two, dT, fun k1 M1 e1 dk1 => ?_⟩
      rw [cut_last] at dk1
      have sx1 := same_tup (((cut_same h l N6).trans e1)) hxb
      refine ⟨_, rfl, 1, rfl, qa, _, _, _, rfl, rfl, sx1, at_last _ _, 1, rfl, _, rfl, h, l, _, (U6.same e1).two, dp_same dR (cut_sm e1), fun k2 M2 e2 dk2 => ?_⟩
      rw [cut_last] at dk2
      have e12 := e1.trans e2
      have V2 := U6.same e12
      have sx2 := same_tup (((cut_same h l N6).trans e12)) hxb
      have sz2 := same_tup (((cut_same h l N6).trans e12)) hzs
      have sw2 := same_tup (((cut_same h l N6).trans e12)) hws
      refine ⟨_, rfl, 1, rfl, qa, _, _, _, rfl, rfl, sx2, at_last _ _, 1, rfl, q1, _, _, _, rfl, rfl, sz2, at_last _ _, q2, _, _, _, rfl, rfl, sw2, at_of (j := 0) rfl rfl, ?_⟩
      refine ⟨_, rfl, 1, rfl, qa, _, _, _, rfl, rfl, sx2, at_last _ _, 1, rfl, q1, _, _, _, rfl, rfl, sz2, at_last _ _, q2, _, _, _, rfl, rfl, sw2, at_of (j := 1) rfl rfl, ?_⟩
      have e3b : (3 : Int) - (sb : Int) = ((3 - sb : Nat) : Int) := by omega
      refine ⟨_, _, rfl, rfl, (by show 2 ≤ sizeLine; decide), fun ps nps => ⟨(by show 1 ≤ sizeLine; decide), fun pq npq => ?_⟩⟩
      have V3 := V2.new nps (.tup [.int (sa : Int), .int ((3 : Int) - (sb : Int))])
      have V4 := V3.new npq (.tup [.ref ps])
      have cq := (cut_step (h := h) (l := l) nps (.tup [.int (sa : Int), .int ((3 : Int) - (sb : Int))])).trans (cut_step npq (.tup [.ref ps]))
      have dnew : Dp K (cut h l (upd (upd M2 ps (.tup [.int (sa : Int), .int ((3 : Int) - (sb : Int))])) pq (.tup [.ref ps]))) (.ref pq) (.tuple [stepD (sa, 3 - sb)]) :=
        .tup (SqT.of (V3.two.new npq _)) (.cons (dp_same (.tup (SqT.of (V2.two.new nps _)) (.cons (.int _) (.cons (by rw [← e3b]; exact .int _) .nil))) (cut_step npq _)) .nil)
      refine ⟨h, l, _, _, V4.two, dp_same dk2 cq, dnew, (by rw [List.length_singleton]; omega), fun k3 M3 e3 dk3 => ⟨(by show 1 ≤ sizeLine; decide), fun pz npz => ?_⟩⟩
      have V5 := V4.same e3
      have V6 := V5.new npz (.tup [k3])
      have c1z := (((cut_sm (h := h) (l := l) e2).trans cq).trans (cut_sm e3)).trans (cut_step npz (.tup [k3]))
      refine ⟨h, l, _, [.tuple (r0.map stepD ++ [stepD (sa, 3 - sb)])], V6.two, dp_same dk1 c1z, .tup (SqT.of (V5.two.new npz _)) (.cons (dp_same dk3 (cut_step npz _)) .nil), (by rw [List.length_singleton]; omega), fun k4 M4 e4 dk4 => ?_⟩
      have etab : PyData.tuple (t0.map rowD ++ [.tuple (r0.map stepD ++ [stepD (sa, 3 - sb)])]) = tabD (t0 ++ [r0 ++ [(sa, 3 - sb)]]) := by
        simp [tabD, rowD]
      rw [etab] at dk4
      have m04 := (((((e12.trans (same_new nps _)).trans (same_new npq _)).trans e3).trans (same_new npz _)).trans e4)
      have d6 := dp_same (dp_cut dc6) m04
      have hw4 := m04 _ _ hw6
      have U7 := U6.same m04
      refine fun x4 dx4 nx4 ndx4 nex4 => ⟨x4, dx4, k4, _, rfl, upd_same, dp_same (dp_cut dk4) ((same_new ndx4 _).trans (same_new (by rw [upd_ne nex4.symm]; exact nx4) _)), fun _ M5 w5 k5 => ⟨rfl, ?_⟩, fun o eo => by rw [good_fault go] at eo; cases eo⟩
      have m5 := Same.made nx4 ndx4 k5
      obtain ⟨dx5, hx5'⟩ := w5
      refine ⟨pw, dxw, _, rfl, m5 _ _ hw4, .ins hx5', pw, .ref qa, .ref x4, _, rfl, ⟨dxw, m5 _ _ hw4⟩, dp_same d6 m5, .inr ⟨x4, k4, _, rfl, ⟨dx5, hx5'⟩, dp_same (dp_cut dk4) m5, ⟨_, rfl⟩, _, rfl, ?_⟩⟩
      rw [ne']
      exact iteF ⟨⟨_, _, _, _, _, _, _, _, _, _, rfl⟩, U7.same m5⟩
    · -- a fault
      refine ⟨_, rfl, va, d, rfl, dp_same dd n1, fine_le fd (by decide), fun u N2 n2 fi => ?_⟩
      rw [ef] at fi
      have fi' : Dp K N2 u (.list [faultD o]) := fi
      obtain ⟨pu, xu, rfl, hxu, hAu⟩ := dp_lst fi'
      refine ⟨_, _, rfl, _, rfl, rfl, _, rfl, iteT ⟨_, rfl, _, rfl, uf, .ref pu, .list [faultD o], rfl, dp_same df n2, fi', ?_, fun N3 n3 => ?_⟩⟩
      · refine ⟨(by show 1 ≤ 1000; decide), fun e he => ?_⟩
        rw [List.mem_singleton.mp he]
        cases o <;> exact trivial
      · exact ⟨_, rfl, iteF ⟨⟨_, _, _, _, _, _, _, _, _, _, rfl⟩, U0.same ((n1.trans n2).trans n3)⟩⟩
end
end Wb
namespace Wb
open PySem L2
theorem all_mk {l : PySem.W.OpenLaw} {w : World} {K : PySem.W.Frag} {h : Heap} {mg : Str → Option Value} {fa : Addr} (X : K.In h) (G : h.Ns mainGlobals mg) (hfa : mg "law" = some (.ref fa))
    {f_BadTable_init f_is_between f_is_tuple_of f_is_step f_is_table_row f_check_table f_Writer_init f_Writer_table p_Writer_table f_Writer_letters p_Writer_letters f_Writer_len f_Writer_eq f_law_mix f_law_next f_law_alike f_law_pick f_law_table f_law_step f_law_fault f_law_tried f_law c_WriterError c_BadTable c_Writer : Addr} {od_BadTable_init an_BadTable_init od_is_between an_is_between od_is_tuple_of an_is_tuple_of od_is_step an_is_step od_is_table_row an_is_table_row od_check_table an_check_table od_Writer_init an_Writer_init od_Writer_table an_Writer_table od_Writer_letters an_Writer_letters od_Writer_len an_Writer_len od_Writer_eq an_Writer_eq od_law_mix an_law_mix od_law_next an_law_next od_law_alike an_law_alike od_law_pick an_law_pick od_law_table an_law_table od_law_step an_law_step od_law_fault an_law_fault od_law_tried an_law_tried od_law an_law : Option Addr} {sl_BadTable_init sl_is_between sl_is_tuple_of sl_is_step sl_is_table_row sl_check_table sl_Writer_init sl_Writer_table sl_Writer_letters sl_Writer_len sl_Writer_eq sl_law_mix sl_law_next sl_law_alike sl_law_pick sl_law_table sl_law_step sl_law_fault sl_law_tried sl_law : Array (Option Value)} {oc_BadTable_init kV_BadTable_init dc_BadTable_init pm_BadTable_init cd_BadTable_init ct_BadTable_init oc_is_between kV_is_between dc_is_between pm_is_between cd_is_between ct_is_between oc_is_tuple_of kV_is_tuple_of dc_is_tuple_of pm_is_tuple_of cd_is_tuple_of ct_is_tuple_of oc_is_step kV_is_step dc_is_step pm_is_step cd_is_step ct_is_step oc_is_table_row kV_is_table_row dc_is_table_row pm_is_table_row cd_is_table_row ct_is_table_row oc_check_table kV_check_table dc_check_table pm_check_table cd_check_table ct_check_table oc_Writer_init kV_Writer_init dc_Writer_init pm_Writer_init cd_Writer_init ct_Writer_init oc_Writer_table kV_Writer_table dc_Writer_table pm_Writer_table cd_Writer_table ct_Writer_table oc_Writer_letters kV_Writer_letters dc_Writer_letters pm_Writer_letters cd_Writer_letters ct_Writer_letters oc_Writer_len kV_Writer_len dc_Writer_len pm_Writer_len cd_Writer_len ct_Writer_len oc_Writer_eq kV_Writer_eq dc_Writer_eq pm_Writer_eq cd_Writer_eq ct_Writer_eq oc_law_mix kV_law_mix dc_law_mix pm_law_mix cd_law_mix ct_law_mix oc_law_next kV_law_next dc_law_next pm_law_next cd_law_next ct_law_next oc_law_alike kV_law_alike dc_law_alike pm_law_alike cd_law_alike ct_law_alike oc_law_pick kV_law_pick dc_law_pick pm_law_pick cd_law_pick ct_law_pick oc_law_table kV_law_table dc_law_table pm_law_table cd_law_table ct_law_table oc_law_step kV_law_step dc_law_step pm_law_step cd_law_step ct_law_step oc_law_fault kV_law_fault dc_law_fault pm_law_fault cd_law_fault ct_law_fault oc_law_tried kV_law_tried dc_law_tried pm_law_tried cd_law_tried ct_law_tried oc_law kV_law dc_law pm_law cd_law ct_law : Value} {t_GREATEST_WRITTEN t_LEAST_LETTERS t_MOST_LETTERS t_MOST_STANDS : Tok} {rr_Writer_table rr_Writer_letters : List Value} {nm_BadTable q_BadTable : Str} {N_BadTable : Addr} {bs_BadTable : List Value} {sn_BadTable : List Str} {sub_BadTable : List Value} {ab_BadTable : Bool} {col_BadTable : Option Bool} {dd_BadTable : Option Addr} {m0_BadTable m1_BadTable m2_BadTable m3_BadTable m5_BadTable : Option Value}
    (cg : PySem.W.specialIn K (.builtin "object.__class__") "__get__" = some (some (.builtin "getset_descriptor.__get__")))
    (ct : PySem.W.takesIn K (.builtin "object.__class__") = some true)
    (aC_WriterError : PySem.W.nsIn K mainGlobals "WriterError" = some (some (.ref c_WriterError)))
    (aC_BadTable : PySem.W.nsIn K mainGlobals "BadTable" = some (some (.ref c_BadTable)))
    (aC_Writer : PySem.W.nsIn K mainGlobals "Writer" = some (some (.ref c_Writer)))
    (a_BadTable_init : PySem.W.findIn K (.ref c_BadTable) "__init__" = some (some (.ref f_BadTable_init)))
    (i_BadTable_init : PySem.W.isFn K (.ref f_BadTable_init) = true)
    (l_BadTable_init : K.lookup f_BadTable_init = some ⟨oc_BadTable_init, od_BadTable_init, .func (PySem.W.fnOf "__init__" "BadTable.__init__" (defArgs s_BadTable_init) (defBody s_BadTable_init) (defScope s_BadTable_init) .none kV_BadTable_init dc_BadTable_init pm_BadTable_init an_BadTable_init cd_BadTable_init ct_BadTable_init), sl_BadTable_init⟩)
    (c_BadTable_init : PySem.W.codeIn K cd_BadTable_init "BadTable.__init__" = true)
    (w_BadTable_init : PySem.W.keepIn K (.ref f_BadTable_init) = true)
    (a_is_between : PySem.W.nsIn K mainGlobals "is_between" = some (some (.ref f_is_between)))
    (l_is_between : K.lookup f_is_between = some ⟨oc_is_between, od_is_between, .func (PySem.W.fnOf "is_between" "is_between" (defArgs s_is_between) (defBody s_is_between) (defScope s_is_between) .none kV_is_between dc_is_between pm_is_between an_is_between cd_is_between ct_is_between), sl_is_between⟩)
    (c_is_between : PySem.W.codeIn K cd_is_between "is_between" = true)
    (w_is_between : PySem.W.keepIn K (.ref f_is_between) = true)
    (a_is_tuple_of : PySem.W.nsIn K mainGlobals "is_tuple_of" = some (some (.ref f_is_tuple_of)))
    (l_is_tuple_of : K.lookup f_is_tuple_of = some ⟨oc_is_tuple_of, od_is_tuple_of, .func (PySem.W.fnOf "is_tuple_of" "is_tuple_of" (defArgs s_is_tuple_of) (defBody s_is_tuple_of) (defScope s_is_tuple_of) .none kV_is_tuple_of dc_is_tuple_of pm_is_tuple_of an_is_tuple_of cd_is_tuple_of ct_is_tuple_of), sl_is_tuple_of⟩)
    (c_is_tuple_of : PySem.W.codeIn K cd_is_tuple_of "is_tuple_of" = true)
    (w_is_tuple_of : PySem.W.keepIn K (.ref f_is_tuple_of) = true)
    (a_is_step : PySem.W.nsIn K mainGlobals "_is_step" = some (some (.ref f_is_step)))
    (l_is_step : K.lookup f_is_step = some ⟨oc_is_step, od_is_step, .func (PySem.W.fnOf "_is_step" "_is_step" (defArgs s_is_step) (defBody s_is_step) (defScope s_is_step) .none kV_is_step dc_is_step pm_is_step an_is_step cd_is_step ct_is_step), sl_is_step⟩)
    (c_is_step : PySem.W.codeIn K cd_is_step "_is_step" = true)
    (w_is_step : PySem.W.keepIn K (.ref f_is_step) = true)
    (a_is_table_row : PySem.W.nsIn K mainGlobals "_is_table_row" = some (some (.ref f_is_table_row)))
    (l_is_table_row : K.lookup f_is_table_row = some ⟨oc_is_table_row, od_is_table_row, .func (PySem.W.fnOf "_is_table_row" "_is_table_row" (defArgs s_is_table_row) (defBody s_is_table_row) (defScope s_is_table_row) .none kV_is_table_row dc_is_table_row pm_is_table_row an_is_table_row cd_is_table_row ct_is_table_row), sl_is_table_row⟩)
    (c_is_table_row : PySem.W.codeIn K cd_is_table_row "_is_table_row" = true)
    (w_is_table_row : PySem.W.keepIn K (.ref f_is_table_row) = true)
    (a_check_table : PySem.W.nsIn K mainGlobals "_check_table" = some (some (.ref f_check_table)))
    (l_check_table : K.lookup f_check_table = some ⟨oc_check_table, od_check_table, .func (PySem.W.fnOf "_check_table" "_check_table" (defArgs s_check_table) (defBody s_check_table) (defScope s_check_table) .none kV_check_table dc_check_table pm_check_table an_check_table cd_check_table ct_check_table), sl_check_table⟩)
    (c_check_table : PySem.W.codeIn K cd_check_table "_check_table" = true)
    (w_check_table : PySem.W.keepIn K (.ref f_check_table) = true)
    (a_Writer_init : PySem.W.findIn K (.ref c_Writer) "__init__" = some (some (.ref f_Writer_init)))
    (i_Writer_init : PySem.W.isFn K (.ref f_Writer_init) = true)
    (l_Writer_init : K.lookup f_Writer_init = some ⟨oc_Writer_init, od_Writer_init, .func (PySem.W.fnOf "__init__" "Writer.__init__" (defArgs s_Writer_init) (defBody s_Writer_init) (defScope s_Writer_init) .none kV_Writer_init dc_Writer_init pm_Writer_init an_Writer_init cd_Writer_init ct_Writer_init), sl_Writer_init⟩)
    (c_Writer_init : PySem.W.codeIn K cd_Writer_init "Writer.__init__" = true)
    (w_Writer_init : PySem.W.keepIn K (.ref f_Writer_init) = true)
    (a_Writer_table : PySem.W.findIn K (.ref c_Writer) "table" = some (some (.ref p_Writer_table)))
    (g_Writer_table : PySem.W.specialIn K (.ref p_Writer_table) "__get__" = some (some (.builtin "property.__get__")))
    (k_Writer_table : PySem.W.takesIn K (.ref p_Writer_table) = some true)
    (r_Writer_table : PySem.W.recIn K p_Writer_table "property" = some (.ref f_Writer_table :: rr_Writer_table))
    (l_Writer_table : K.lookup f_Writer_table = some ⟨oc_Writer_table, od_Writer_table, .func (PySem.W.fnOf "table" "Writer.table" (defArgs s_Writer_table) (defBody s_Writer_table) (defScope s_Writer_table) .none kV_Writer_table dc_Writer_table pm_Writer_table an_Writer_table cd_Writer_table ct_Writer_table), sl_Writer_table⟩)
    (c_Writer_table : PySem.W.codeIn K cd_Writer_table "Writer.table" = true)
    (w_Writer_table : PySem.W.keepIn K (.ref f_Writer_table) = true)
    (a_Writer_letters : PySem.W.findIn K (.ref c_Writer) "letters" = some (some (.ref p_Writer_letters)))
    (g_Writer_letters : PySem.W.specialIn K (.ref p_Writer_letters) "__get__" = some (some (.builtin "property.__get__")))
    (k_Writer_letters : PySem.W.takesIn K (.ref p_Writer_letters) = some true)
    (r_Writer_letters : PySem.W.recIn K p_Writer_letters "property" = some (.ref f_Writer_letters :: rr_Writer_letters))
    (l_Writer_letters : K.lookup f_Writer_letters = some ⟨oc_Writer_letters, od_Writer_letters, .func (PySem.W.fnOf "letters" "Writer.letters" (defArgs s_Writer_letters) (defBody s_Writer_letters) (defScope s_Writer_letters) .none kV_Writer_letters dc_Writer_letters pm_Writer_letters an_Writer_letters cd_Writer_letters ct_Writer_letters), sl_Writer_letters⟩)
    (c_Writer_letters : PySem.W.codeIn K cd_Writer_letters "Writer.letters" = true)
    (w_Writer_letters : PySem.W.keepIn K (.ref f_Writer_letters) = true)
    (a_Writer_len : PySem.W.findIn K (.ref c_Writer) "__len__" = some (some (.ref f_Writer_len)))
    (i_Writer_len : PySem.W.isFn K (.ref f_Writer_len) = true)
    (l_Writer_len : K.lookup f_Writer_len = some ⟨oc_Writer_len, od_Writer_len, .func (PySem.W.fnOf "__len__" "Writer.__len__" (defArgs s_Writer_len) (defBody s_Writer_len) (defScope s_Writer_len) .none kV_Writer_len dc_Writer_len pm_Writer_len an_Writer_len cd_Writer_len ct_Writer_len), sl_Writer_len⟩)
    (c_Writer_len : PySem.W.codeIn K cd_Writer_len "Writer.__len__" = true)
    (w_Writer_len : PySem.W.keepIn K (.ref f_Writer_len) = true)
    (a_Writer_eq : PySem.W.findIn K (.ref c_Writer) "__eq__" = some (some (.ref f_Writer_eq)))
    (i_Writer_eq : PySem.W.isFn K (.ref f_Writer_eq) = true)
    (l_Writer_eq : K.lookup f_Writer_eq = some ⟨oc_Writer_eq, od_Writer_eq, .func (PySem.W.fnOf "__eq__" "Writer.__eq__" (defArgs s_Writer_eq) (defBody s_Writer_eq) (defScope s_Writer_eq) .none kV_Writer_eq dc_Writer_eq pm_Writer_eq an_Writer_eq cd_Writer_eq ct_Writer_eq), sl_Writer_eq⟩)
    (c_Writer_eq : PySem.W.codeIn K cd_Writer_eq "Writer.__eq__" = true)
    (w_Writer_eq : PySem.W.keepIn K (.ref f_Writer_eq) = true)
    (a_law_mix : PySem.W.nsIn K mainGlobals "_law_mix" = some (some (.ref f_law_mix)))
    (l_law_mix : K.lookup f_law_mix = some ⟨oc_law_mix, od_law_mix, .func (PySem.W.fnOf "_law_mix" "_law_mix" (defArgs s_law_mix) (defBody s_law_mix) (defScope s_law_mix) .none kV_law_mix dc_law_mix pm_law_mix an_law_mix cd_law_mix ct_law_mix), sl_law_mix⟩)
    (c_law_mix : PySem.W.codeIn K cd_law_mix "_law_mix" = true)
    (w_law_mix : PySem.W.keepIn K (.ref f_law_mix) = true)
    (a_law_next : PySem.W.nsIn K mainGlobals "_law_next" = some (some (.ref f_law_next)))
    (l_law_next : K.lookup f_law_next = some ⟨oc_law_next, od_law_next, .func (PySem.W.fnOf "_law_next" "_law_next" (defArgs s_law_next) (defBody s_law_next) (defScope s_law_next) .none kV_law_next dc_law_next pm_law_next an_law_next cd_law_next ct_law_next), sl_law_next⟩)
    (c_law_next : PySem.W.codeIn K cd_law_next "_law_next" = true)
    (w_law_next : PySem.W.keepIn K (.ref f_law_next) = true)
    (a_law_alike : PySem.W.nsIn K mainGlobals "_law_alike" = some (some (.ref f_law_alike)))
    (l_law_alike : K.lookup f_law_alike = some ⟨oc_law_alike, od_law_alike, .func (PySem.W.fnOf "_law_alike" "_law_alike" (defArgs s_law_alike) (defBody s_law_alike) (defScope s_law_alike) .none kV_law_alike dc_law_alike pm_law_alike an_law_alike cd_law_alike ct_law_alike), sl_law_alike⟩)
    (c_law_alike : PySem.W.codeIn K cd_law_alike "_law_alike" = true)
    (w_law_alike : PySem.W.keepIn K (.ref f_law_alike) = true)
    (a_law_pick : PySem.W.nsIn K mainGlobals "_law_pick" = some (some (.ref f_law_pick)))
    (l_law_pick : K.lookup f_law_pick = some ⟨oc_law_pick, od_law_pick, .func (PySem.W.fnOf "_law_pick" "_law_pick" (defArgs s_law_pick) (defBody s_law_pick) (defScope s_law_pick) .none kV_law_pick dc_law_pick pm_law_pick an_law_pick cd_law_pick ct_law_pick), sl_law_pick⟩)
    (c_law_pick : PySem.W.codeIn K cd_law_pick "_law_pick" = true)
    (w_law_pick : PySem.W.keepIn K (.ref f_law_pick) = true)
    (a_law_table : PySem.W.nsIn K mainGlobals "_law_table" = some (some (.ref f_law_table)))
    (l_law_table : K.lookup f_law_table = some ⟨oc_law_table, od_law_table, .func (PySem.W.fnOf "_law_table" "_law_table" (defArgs s_law_table) (defBody s_law_table) (defScope s_law_table) .none kV_law_table dc_law_table pm_law_table an_law_table cd_law_table ct_law_table), sl_law_table⟩)
    (c_law_table : PySem.W.codeIn K cd_law_table "_law_table" = true)
    (w_law_table : PySem.W.keepIn K (.ref f_law_table) = true)
    (a_law_step : PySem.W.nsIn K mainGlobals "_law_step" = some (some (.ref f_law_step)))
    (l_law_step : K.lookup f_law_step = some ⟨oc_law_step, od_law_step, .func (PySem.W.fnOf "_law_step" "_law_step" (defArgs s_law_step) (defBody s_law_step) (defScope s_law_step) .none kV_law_step dc_law_step pm_law_step an_law_step cd_law_step ct_law_step), sl_law_step⟩)
    (c_law_step : PySem.W.codeIn K cd_law_step "_law_step" = true)
    (w_law_step : PySem.W.keepIn K (.ref f_law_step) = true)
    (a_law_fault : PySem.W.nsIn K mainGlobals "_law_fault" = some (some (.ref f_law_fault)))
    (l_law_fault : K.lookup f_law_fault = some ⟨oc_law_fault, od_law_fault, .func (PySem.W.fnOf "_law_fault" "_law_fault" (defArgs s_law_fault) (defBody s_law_fault) (defScope s_law_fault) .none kV_law_fault dc_law_fault pm_law_fault an_law_fault cd_law_fault ct_law_fault), sl_law_fault⟩)
    (c_law_fault : PySem.W.codeIn K cd_law_fault "_law_fault" = true)
    (w_law_fault : PySem.W.keepIn K (.ref f_law_fault) = true)
    (a_law_tried : PySem.W.nsIn K mainGlobals "_law_tried" = some (some (.ref f_law_tried)))
    (l_law_tried : K.lookup f_law_tried = some ⟨oc_law_tried, od_law_tried, .func (PySem.W.fnOf "_law_tried" "_law_tried" (defArgs s_law_tried) (defBody s_law_tried) (defScope s_law_tried) .none kV_law_tried dc_law_tried pm_law_tried an_law_tried cd_law_tried ct_law_tried), sl_law_tried⟩)
    (c_law_tried : PySem.W.codeIn K cd_law_tried "_law_tried" = true)
    (w_law_tried : PySem.W.keepIn K (.ref f_law_tried) = true)
    (a_law : PySem.W.nsIn K mainGlobals "law" = some (some (.ref f_law)))
    (l_law : K.lookup f_law = some ⟨oc_law, od_law, .func (PySem.W.fnOf "law" "law" (defArgs s_law) (defBody s_law) (defScope s_law) .none kV_law dc_law pm_law an_law cd_law ct_law), sl_law⟩)
    (c_law : PySem.W.codeIn K cd_law "law" = true)
    (w_law : PySem.W.keepIn K (.ref f_law) = true)
    (xL_BadTable : K.lookup c_BadTable = some (excClassObj nm_BadTable q_BadTable c_BadTable N_BadTable bs_BadTable [.ref c_WriterError, .type "ValueError", .type "Exception", .type "BaseException", .type "object"] true sn_BadTable sub_BadTable ab_BadTable col_BadTable dd_BadTable m0_BadTable m1_BadTable m2_BadTable m3_BadTable m5_BadTable "ValueError.__new__"))
    (sa_BadTable : PySem.W.findIn K (.ref c_BadTable) "__setattr__" = some (some (.builtin "object.__setattr__")))
    (ga_BadTable : PySem.W.findIn K (.ref c_BadTable) "__getattribute__" = some (some (.builtin "BaseException.__getattribute__")))
    (gg_BadTable : PySem.W.findIn K (.ref c_BadTable) "__getattr__" = some none)
    (ti_BadTable : PySem.W.typeIn K (.ref f_BadTable_init) = some (.type "function"))
    (kC_BadTable : PySem.W.keepIn K (.ref c_BadTable) = true)
    (eC_BadTable : PySem.W.subIn K (.ref c_BadTable) (.type "BaseException") = some true)
    (tC_BadTable : PySem.W.typeIn K (.ref c_BadTable) = some (.type "type"))
    (hC_BadTable : PySem.W.hasDictIn K c_BadTable = true)
    (iC_BadTable : PySem.W.isClsIn K c_BadTable = true)
    (sC_BadTable : PySem.W.subIn K (.ref c_BadTable) (.ref c_BadTable) = some true)
    (ca_BadTable : PySem.W.findIn K (.ref c_BadTable) "__class__" = some (some (.builtin "object.__class__")))
    (cm_BadTable : PySem.W.mroIn K c_BadTable (.type "object") = some true)
    (sB_BadTable_WriterError : PySem.W.subIn K (.ref c_BadTable) (.ref c_WriterError) = some true)
    (iB_BadTable_WriterError : PySem.W.isClsIn K c_WriterError = true)
    (tB_BadTable_WriterError : PySem.W.typeIn K (.ref c_WriterError) = some (.type "type"))
    (no_BadTable_index : PySem.W.findIn K (.ref c_BadTable) "index" = some none)
    (ca_Writer : PySem.W.findIn K (.ref c_Writer) "__class__" = some (some (.builtin "object.__class__")))
    (cm_Writer : PySem.W.mroIn K c_Writer (.type "object") = some true)
    (tC_Writer : PySem.W.typeIn K (.ref c_Writer) = some (.type "type"))
    (pg_Writer : PySem.W.plainGet K c_Writer Str.empty = true)
    (hd_Writer : PySem.W.hasDictIn K c_Writer = true)
    (po_Writer : PySem.W.plainOver K c_Writer = true)
    (sa_Writer : PySem.W.findIn K (.ref c_Writer) "__setattr__" = some (some (.builtin "object.__setattr__")))
    (mk_Writer : PySem.W.makesIn K c_Writer = true)
    (kc_Writer : PySem.W.keepIn K (.ref c_Writer) = true)
    (no_Writer_table : PySem.W.findIn K (.ref c_Writer) "_table" = some none)
    (m_GREATEST_WRITTEN : PySem.W.nsIn K mainGlobals "GREATEST_WRITTEN" = some (some (.int 3 t_GREATEST_WRITTEN)))
    (m_LEAST_LETTERS : PySem.W.nsIn K mainGlobals "LEAST_LETTERS" = some (some (.int 2 t_LEAST_LETTERS)))
    (m_MOST_LETTERS : PySem.W.nsIn K mainGlobals "MOST_LETTERS" = some (some (.int 3 t_MOST_LETTERS)))
    (m_MOST_STANDS : PySem.W.nsIn K mainGlobals "MOST_STANDS" = some (some (.int 6 t_MOST_STANDS)))
    (z_bool : PySem.W.nsIn K mainGlobals "bool" = some none)
    (z_int : PySem.W.nsIn K mainGlobals "int" = some none)
    (z_isinstance : PySem.W.nsIn K mainGlobals "isinstance" = some none)
    (z_len : PySem.W.nsIn K mainGlobals "len" = some none)
    (z_tuple : PySem.W.nsIn K mainGlobals "tuple" = some none)
    (z_all : PySem.W.nsIn K mainGlobals "all" = some none)
    (z_enumerate : PySem.W.nsIn K mainGlobals "enumerate" = some none)
    (z_list : PySem.W.nsIn K mainGlobals "list" = some none)
    (z_max : PySem.W.nsIn K mainGlobals "max" = some none)
    (z_range : PySem.W.nsIn K mainGlobals "range" = some none)
    (z_str : PySem.W.nsIn K mainGlobals "str" = some none)
    : ∃ fd : FuncData, (∀ (s : Shared) (v : Value), BindsTo s fd ⟨[v], []⟩ [("_law_script", v)]) ∧ ∀ base : Heap, K.In base → base.Ns mainGlobals mg → FnOk l.prog w K mg base CX0 10 fa fd ["_law_script"] (spLaw K) := by
  have ea := hfa.symm.trans (PySem.W.mg_of X G a_law)
  cases ea
  have F_BadTable_init := fun_mk (st := s_BadTable_init) l_BadTable_init c_BadTable_init w_BadTable_init
  have b_BadTable_init := F_BadTable_init.binds (ps := ["self", "index"]) fun _ _ _ _ _ _ us hl => match us, hl with | [_, _], _ => rfl
  have F_is_between := fun_mk (st := s_is_between) l_is_between c_is_between w_is_between
  have b_is_between := F_is_between.binds (ps := ["value", "least", "most"]) fun _ _ _ _ _ _ us hl => match us, hl with | [_, _, _], _ => rfl
  have F_is_tuple_of := fun_mk (st := s_is_tuple_of) l_is_tuple_of c_is_tuple_of w_is_tuple_of
  have b_is_tuple_of := F_is_tuple_of.binds (ps := ["value", "least", "most"]) fun _ _ _ _ _ _ us hl => match us, hl with | [_, _, _], _ => rfl
  have F_is_step := fun_mk (st := s_is_step) l_is_step c_is_step w_is_step
  have b_is_step := F_is_step.binds (ps := ["value", "stands"]) fun _ _ _ _ _ _ us hl => match us, hl with | [_, _], _ => rfl
  have F_is_table_row := fun_mk (st := s_is_table_row) l_is_table_row c_is_table_row w_is_table_row
  have b_is_table_row := F_is_table_row.binds (ps := ["value", "stands"]) fun _ _ _ _ _ _ us hl => match us, hl with | [_, _], _ => rfl
  have F_check_table := fun_mk (st := s_check_table) l_check_table c_check_table w_check_table
  have b_check_table := F_check_table.binds (ps := ["table"]) fun _ _ _ _ _ _ us hl => match us, hl with | [_], _ => rfl
  have F_Writer_init := fun_mk (st := s_Writer_init) l_Writer_init c_Writer_init w_Writer_init
  have b_Writer_init := F_Writer_init.binds (ps := ["self", "table"]) fun _ _ _ _ _ _ us hl => match us, hl with | [_, _], _ => rfl
  have F_Writer_table := fun_mk (st := s_Writer_table) l_Writer_table c_Writer_table w_Writer_table
  have b_Writer_table := F_Writer_table.binds (ps := ["self"]) fun _ _ _ _ _ _ us hl => match us, hl with | [_], _ => rfl
  have F_Writer_letters := fun_mk (st := s_Writer_letters) l_Writer_letters c_Writer_letters w_Writer_letters
  have b_Writer_letters := F_Writer_letters.binds (ps := ["self"]) fun _ _ _ _ _ _ us hl => match us, hl with | [_], _ => rfl
  have F_Writer_len := fun_mk (st := s_Writer_len) l_Writer_len c_Writer_len w_Writer_len
  have b_Writer_len := F_Writer_len.binds (ps := ["self"]) fun _ _ _ _ _ _ us hl => match us, hl with | [_], _ => rfl
  have F_Writer_eq := fun_mk (st := s_Writer_eq) l_Writer_eq c_Writer_eq w_Writer_eq
  have b_Writer_eq := F_Writer_eq.binds (ps := ["self", "other"]) fun _ _ _ _ _ _ us hl => match us, hl with | [_, _], _ => rfl
  have F_law_mix := fun_mk (st := s_law_mix) l_law_mix c_law_mix w_law_mix
  have b_law_mix := F_law_mix.binds (ps := ["_law_script", "_law_seed"]) fun _ _ _ _ _ _ us hl => match us, hl with | [_, _], _ => rfl
  have F_law_next := fun_mk (st := s_law_next) l_law_next c_law_next w_law_next
  have b_law_next := F_law_next.binds (ps := ["_law_h", "_law_cap"]) fun _ _ _ _ _ _ us hl => match us, hl with | [_, _], _ => rfl
  have F_law_alike := fun_mk (st := s_law_alike) l_law_alike c_law_alike w_law_alike
  have b_law_alike := F_law_alike.binds (ps := ["_law_found", "_law_due"]) fun _ _ _ _ _ _ us hl => match us, hl with | [_, _], _ => rfl
  have F_law_pick := fun_mk (st := s_law_pick) l_law_pick c_law_pick w_law_pick
  have b_law_pick := F_law_pick.binds (ps := ["_law_h", "_law_things"]) fun _ _ _ _ _ _ us hl => match us, hl with | [_, _], _ => rfl
  have F_law_table := fun_mk (st := s_law_table) l_law_table c_law_table w_law_table
  have b_law_table := F_law_table.binds (ps := ["_law_h"]) fun _ _ _ _ _ _ us hl => match us, hl with | [_], _ => rfl
  have F_law_step := fun_mk (st := s_law_step) l_law_step c_law_step w_law_step
  have b_law_step := F_law_step.binds (ps := ["_law_thing", "_law_many"]) fun _ _ _ _ _ _ us hl => match us, hl with | [_, _], _ => rfl
  have F_law_fault := fun_mk (st := s_law_fault) l_law_fault c_law_fault w_law_fault
  have b_law_fault := F_law_fault.binds (ps := ["_law_table_here"]) fun _ _ _ _ _ _ us hl => match us, hl with | [_], _ => rfl
  have F_law_tried := fun_mk (st := s_law_tried) l_law_tried c_law_tried w_law_tried
  have b_law_tried := F_law_tried.binds (ps := ["_law_table_here"]) fun _ _ _ _ _ _ us hl => match us, hl with | [_], _ => rfl
  have F_law := fun_mk (st := s_law) l_law c_law w_law
  have b_law := F_law.binds (ps := ["_law_script"]) fun _ _ _ _ _ _ us hl => match us, hl with | [_], _ => rfl
  let T : Env K mg := {
    f_BadTable_init := f_BadTable_init,
    d_BadTable_init := _,
    F_BadTable_init := F_BadTable_init,
    b_BadTable_init := b_BadTable_init,
    f_is_between := f_is_between,
    d_is_between := _,
    F_is_between := F_is_between,
    b_is_between := b_is_between,
    m_is_between := PySem.W.mg_of X G a_is_between,
    f_is_tuple_of := f_is_tuple_of,
    d_is_tuple_of := _,
    F_is_tuple_of := F_is_tuple_of,
    b_is_tuple_of := b_is_tuple_of,
    m_is_tuple_of := PySem.W.mg_of X G a_is_tuple_of,
    f_is_step := f_is_step,
    d_is_step := _,
    F_is_step := F_is_step,
    b_is_step := b_is_step,
    m_is_step := PySem.W.mg_of X G a_is_step,
    f_is_table_row := f_is_table_row,
    d_is_table_row := _,
    F_is_table_row := F_is_table_row,
    b_is_table_row := b_is_table_row,
    m_is_table_row := PySem.W.mg_of X G a_is_table_row,
    f_check_table := f_check_table,
    d_check_table := _,
    F_check_table := F_check_table,
    b_check_table := b_check_table,
    m_check_table := PySem.W.mg_of X G a_check_table,
    f_Writer_init := f_Writer_init,
    d_Writer_init := _,
    F_Writer_init := F_Writer_init,
    b_Writer_init := b_Writer_init,
    f_Writer_table := f_Writer_table,
    d_Writer_table := _,
    F_Writer_table := F_Writer_table,
    b_Writer_table := b_Writer_table,
    f_Writer_letters := f_Writer_letters,
    d_Writer_letters := _,
    F_Writer_letters := F_Writer_letters,
    b_Writer_letters := b_Writer_letters,
    f_Writer_len := f_Writer_len,
    d_Writer_len := _,
    F_Writer_len := F_Writer_len,
    b_Writer_len := b_Writer_len,
    f_Writer_eq := f_Writer_eq,
    d_Writer_eq := _,
    F_Writer_eq := F_Writer_eq,
    b_Writer_eq := b_Writer_eq,
    f_law_mix := f_law_mix,
    d_law_mix := _,
    F_law_mix := F_law_mix,
    b_law_mix := b_law_mix,
    m_law_mix := PySem.W.mg_of X G a_law_mix,
    f_law_next := f_law_next,
    d_law_next := _,
    F_law_next := F_law_next,
    b_law_next := b_law_next,
    m_law_next := PySem.W.mg_of X G a_law_next,
    f_law_alike := f_law_alike,
    d_law_alike := _,
    F_law_alike := F_law_alike,
    b_law_alike := b_law_alike,
    m_law_alike := PySem.W.mg_of X G a_law_alike,
    f_law_pick := f_law_pick,
    d_law_pick := _,
    F_law_pick := F_law_pick,
    b_law_pick := b_law_pick,
    m_law_pick := PySem.W.mg_of X G a_law_pick,
    f_law_table := f_law_table,
    d_law_table := _,
    F_law_table := F_law_table,
    b_law_table := b_law_table,
    m_law_table := PySem.W.mg_of X G a_law_table,
    f_law_step := f_law_step,
    d_law_step := _,
    F_law_step := F_law_step,
    b_law_step := b_law_step,
    m_law_step := PySem.W.mg_of X G a_law_step,
    f_law_fault := f_law_fault,
    d_law_fault := _,
    F_law_fault := F_law_fault,
    b_law_fault := b_law_fault,
    m_law_fault := PySem.W.mg_of X G a_law_fault,
    f_law_tried := f_law_tried,
    d_law_tried := _,
    F_law_tried := F_law_tried,
    b_law_tried := b_law_tried,
    m_law_tried := PySem.W.mg_of X G a_law_tried,
    f_law := fa,
    d_law := _,
    F_law := F_law,
    b_law := b_law,
    m_law := PySem.W.mg_of X G a_law,
    c_WriterError := c_WriterError,
    m_WriterError := PySem.W.mg_of X G aC_WriterError,
    c_BadTable := c_BadTable,
    m_BadTable := PySem.W.mg_of X G aC_BadTable,
    ox_BadTable := ⟨⟨_, _, _, _, _, _, _, _, _, _, _, _, _, _, _, xL_BadTable, rfl⟩, sa_BadTable, eC_BadTable, tC_BadTable, kC_BadTable⟩,
    ini_BadTable := a_BadTable_init,
    tyi_BadTable := ti_BadTable,
    xf_BadTable := ⟨ga_BadTable, gg_BadTable, eC_BadTable, hC_BadTable⟩,
    ex_BadTable := ⟨ga_BadTable, gg_BadTable, eC_BadTable, hC_BadTable, ca_BadTable, cg, ct, cm_BadTable⟩,
    em_BadTable := exm_own eC_BadTable iC_BadTable tC_BadTable sC_BadTable,
    ki_BadTable_WriterError := kit_any iB_BadTable_WriterError tB_BadTable_WriterError sB_BadTable_WriterError,
    no_BadTable_index := no_BadTable_index,
    at_Writer_eq := a_Writer_eq,
    fn_Writer_eq := i_Writer_eq,
    at_Writer_len := a_Writer_len,
    fn_Writer_len := i_Writer_len,
    is_Writer := ⟨⟨pg_Writer, hd_Writer, po_Writer, sa_Writer⟩, ca_Writer, cg, ct, cm_Writer, tC_Writer⟩,
    c_Writer := c_Writer,
    m_Writer := PySem.W.mg_of X G aC_Writer,
    cl_Writer := ⟨pg_Writer, hd_Writer, po_Writer, sa_Writer⟩,
    mk_Writer := ⟨mk_Writer, a_Writer_init, i_Writer_init, kc_Writer⟩,
    no_Writer_table := no_Writer_table,
    p_Writer_table := p_Writer_table,
    pr_Writer_table := ⟨a_Writer_table, g_Writer_table, k_Writer_table, _, r_Writer_table⟩,
    p_Writer_letters := p_Writer_letters,
    pr_Writer_letters := ⟨a_Writer_letters, g_Writer_letters, k_Writer_letters, _, r_Writer_letters⟩,
    t_GREATEST_WRITTEN := t_GREATEST_WRITTEN,
    m_GREATEST_WRITTEN := PySem.W.mg_of X G m_GREATEST_WRITTEN,
    t_LEAST_LETTERS := t_LEAST_LETTERS,
    m_LEAST_LETTERS := PySem.W.mg_of X G m_LEAST_LETTERS,
    t_MOST_LETTERS := t_MOST_LETTERS,
    m_MOST_LETTERS := PySem.W.mg_of X G m_MOST_LETTERS,
    t_MOST_STANDS := t_MOST_STANDS,
    m_MOST_STANDS := PySem.W.mg_of X G m_MOST_STANDS,
    z_bool := PySem.W.mg_none_of X G z_bool,
    z_int := PySem.W.mg_none_of X G z_int,
    z_isinstance := PySem.W.mg_none_of X G z_isinstance,
    z_len := PySem.W.mg_none_of X G z_len,
    z_tuple := PySem.W.mg_none_of X G z_tuple,
    z_all := PySem.W.mg_none_of X G z_all,
    z_enumerate := PySem.W.mg_none_of X G z_enumerate,
    z_list := PySem.W.mg_none_of X G z_list,
    z_max := PySem.W.mg_none_of X G z_max,
    z_range := PySem.W.mg_none_of X G z_range,
    z_str := PySem.W.mg_none_of X G z_str }
  exact ⟨PySem.W.fnOf "law" "law" (defArgs s_law) (defBody s_law) (defScope s_law) .none kV_law dc_law pm_law an_law cd_law ct_law, fun s v => .of_eq rfl, fun base _ _ => ok_law T⟩
theorem walk {l : PySem.W.OpenLaw} {q : Program} {loose : List Str} {XP : (Str → Option Value) → Heap → Prop} {YP : World → Heap → Prop} {d : DefRec} {K : Params → PySem.W.Frag} (hn : l.most = some 63) (hdf : d.params.defaults = [])
    (hY : ∀ (w : World) (h : Heap), YP w h → (K w.params).In h)
    (F : ∀ (w : World) (mg : Str → Option Value) (fa : Addr) (h : Heap), (K w.params).In h → h.Ns mainGlobals mg → mg d.name = some (.ref fa) →
      ∃ fd : FuncData, (∀ (s : Shared) (u : Value), BindsTo s fd ⟨[u], []⟩ [("_law_script", u)]) ∧ ∀ base : Heap, (K w.params).In base → base.Ns mainGlobals mg → FnOk l.prog w (K w.params) mg base CX0 10 fa fd ["_law_script"] (spLaw (K w.params))) :
    PySem.W.WalkO q loose XP YP l.row.toRowW d [] (fun f vs => PySem.call f vs) :=
  L2.walk_of (n := 63) (k := 10) (x := "_law_script") (CX := fun _ => CX0) (sp := fun w => spLaw (K w.params)) hn (by decide) hdf ⟨rfl, by decide, by decide⟩ hY F (fun _ _ a ns hl _ hS => ⟨a, ns, rfl, hS, hl, fun _ => rfl⟩) fun _ _ _ _ _ z => z
end Wb
open PySem PySem.W PyProof.Rows
set_option maxRecDepth 100000 in
set_option maxHeartbeats 0 in
theorem PySem.Challenge.cw_wroteback_k01_tables_refused_holds : PySem.Challenge.rw_wroteback_k01_tables_refused.Holds := by
  w_on; o_law; k_head; (case hw => w_witness2)
  k_fill
  refine Wb.walk (l := PySem.Challenge.rw_wroteback_k01_tables_refused) rfl rfl (fun w h Y => PySem.W.kIn_of Y) ?F
  case F =>
    intro w mg fa h KX G hmg
    refine' Wb.all_mk KX G hmg ?cg ?ct ?aC_WriterError ?aC_BadTable ?aC_Writer ?a_BadTable_init ?i_BadTable_init ?l_BadTable_init ?c_BadTable_init ?w_BadTable_init ?a_is_between ?l_is_between ?c_is_between ?w_is_between ?a_is_tuple_of ?l_is_tuple_of ?c_is_tuple_of ?w_is_tuple_of ?a_is_step ?l_is_step ?c_is_step ?w_is_step ?a_is_table_row ?l_is_table_row ?c_is_table_row ?w_is_table_row ?a_check_table ?l_check_table ?c_check_table ?w_check_table ?a_Writer_init ?i_Writer_init ?l_Writer_init ?c_Writer_init ?w_Writer_init ?a_Writer_table ?g_Writer_table ?k_Writer_table ?r_Writer_table ?l_Writer_table ?c_Writer_table ?w_Writer_table ?a_Writer_letters ?g_Writer_letters ?k_Writer_letters ?r_Writer_letters ?l_Writer_letters ?c_Writer_letters ?w_Writer_letters ?a_Writer_len ?i_Writer_len ?l_Writer_len ?c_Writer_len ?w_Writer_len ?a_Writer_eq ?i_Writer_eq ?l_Writer_eq ?c_Writer_eq ?w_Writer_eq ?a_law_mix ?l_law_mix ?c_law_mix ?w_law_mix ?a_law_next ?l_law_next ?c_law_next ?w_law_next ?a_law_alike ?l_law_alike ?c_law_alike ?w_law_alike ?a_law_pick ?l_law_pick ?c_law_pick ?w_law_pick ?a_law_table ?l_law_table ?c_law_table ?w_law_table ?a_law_step ?l_law_step ?c_law_step ?w_law_step ?a_law_fault ?l_law_fault ?c_law_fault ?w_law_fault ?a_law_tried ?l_law_tried ?c_law_tried ?w_law_tried ?a_law ?l_law ?c_law ?w_law ?xL_BadTable ?sa_BadTable ?ga_BadTable ?gg_BadTable ?ti_BadTable ?kC_BadTable ?eC_BadTable ?tC_BadTable ?hC_BadTable ?iC_BadTable ?sC_BadTable ?ca_BadTable ?cm_BadTable ?sB_BadTable_WriterError ?iB_BadTable_WriterError ?tB_BadTable_WriterError ?no_BadTable_index ?ca_Writer ?cm_Writer ?tC_Writer ?pg_Writer ?hd_Writer ?po_Writer ?sa_Writer ?mk_Writer ?kc_Writer ?no_Writer_table ?m_GREATEST_WRITTEN ?m_LEAST_LETTERS ?m_MOST_LETTERS ?m_MOST_STANDS ?z_bool ?z_int ?z_isinstance ?z_len ?z_tuple ?z_all ?z_enumerate ?z_list ?z_max ?z_range ?z_str
    (case cg => k_is)
    (case ct => k_is)
    (case aC_WriterError => k_is)
    (case aC_BadTable => k_is)
    (case aC_Writer => k_is)
    (case a_BadTable_init => k_is)
    (case i_BadTable_init => k_is)
    (case l_BadTable_init => k_is)
    (case c_BadTable_init => k_is)
    (case w_BadTable_init => k_is)
    (case a_is_between => k_is)
    (case l_is_between => k_is)
    (case c_is_between => k_is)
    (case w_is_between => k_is)
    (case a_is_tuple_of => k_is)
    (case l_is_tuple_of => k_is)
    (case c_is_tuple_of => k_is)
    (case w_is_tuple_of => k_is)
    (case a_is_step => k_is)
    (case l_is_step => k_is)
    (case c_is_step => k_is)
    (case w_is_step => k_is)
    (case a_is_table_row => k_is)
    (case l_is_table_row => k_is)
    (case c_is_table_row => k_is)
    (case w_is_table_row => k_is)
    (case a_check_table => k_is)
    (case l_check_table => k_is)
    (case c_check_table => k_is)
    (case w_check_table => k_is)
    (case a_Writer_init => k_is)
    (case i_Writer_init => k_is)
    (case l_Writer_init => k_is)
    (case c_Writer_init => k_is)
    (case w_Writer_init => k_is)
    (case a_Writer_table => k_is)
    (case g_Writer_table => k_is)
    (case k_Writer_table => k_is)
    (case r_Writer_table => k_is)
    (case l_Writer_table => k_is)
    (case c_Writer_table => k_is)
    (case w_Writer_table => k_is)
    (case a_Writer_letters => k_is)
    (case g_Writer_letters => k_is)
    (case k_Writer_letters => k_is)
    (case r_Writer_letters => k_is)
    (case l_Writer_letters => k_is)
    (case c_Writer_letters => k_is)
    (case w_Writer_letters => k_is)
    (case a_Writer_len => k_is)
    (case i_Writer_len => k_is)
    (case l_Writer_len => k_is)
    (case c_Writer_len => k_is)
    (case w_Writer_len => k_is)
    (case a_Writer_eq => k_is)
    (case i_Writer_eq => k_is)
    (case l_Writer_eq => k_is)
    (case c_Writer_eq => k_is)
    (case w_Writer_eq => k_is)
    (case a_law_mix => k_is)
    (case l_law_mix => k_is)
    (case c_law_mix => k_is)
    (case w_law_mix => k_is)
    (case a_law_next => k_is)
    (case l_law_next => k_is)
    (case c_law_next => k_is)
    (case w_law_next => k_is)
    (case a_law_alike => k_is)
    (case l_law_alike => k_is)
    (case c_law_alike => k_is)
    (case w_law_alike => k_is)
    (case a_law_pick => k_is)
    (case l_law_pick => k_is)
    (case c_law_pick => k_is)
    (case w_law_pick => k_is)
    (case a_law_table => k_is)
    (case l_law_table => k_is)
    (case c_law_table => k_is)
    (case w_law_table => k_is)
    (case a_law_step => k_is)
    (case l_law_step => k_is)
    (case c_law_step => k_is)
    (case w_law_step => k_is)
    (case a_law_fault => k_is)
    (case l_law_fault => k_is)
    (case c_law_fault => k_is)
    (case w_law_fault => k_is)
    (case a_law_tried => k_is)
    (case l_law_tried => k_is)
    (case c_law_tried => k_is)
    (case w_law_tried => k_is)
    (case a_law => k_is)
    (case l_law => k_is)
    (case c_law => k_is)
    (case w_law => k_is)
    (case xL_BadTable => k_is)
    (case sa_BadTable => k_is)
    (case ga_BadTable => k_is)
    (case gg_BadTable => k_is)
    (case ti_BadTable => k_is)
    (case kC_BadTable => k_is)
    (case eC_BadTable => k_is)
    (case tC_BadTable => k_is)
    (case hC_BadTable => k_is)
    (case iC_BadTable => k_is)
    (case sC_BadTable => k_is)
    (case ca_BadTable => k_is)
    (case cm_BadTable => k_is)
    (case sB_BadTable_WriterError => k_is)
    (case iB_BadTable_WriterError => k_is)
    (case tB_BadTable_WriterError => k_is)
    (case no_BadTable_index => k_is)
    (case ca_Writer => k_is)
    (case cm_Writer => k_is)
    (case tC_Writer => k_is)
    (case pg_Writer => k_is)
    (case hd_Writer => k_is)
    (case po_Writer => k_is)
    (case sa_Writer => k_is)
    (case mk_Writer => k_is)
    (case kc_Writer => k_is)
    (case no_Writer_table => k_is)
    (case m_GREATEST_WRITTEN => k_is)
    (case m_LEAST_LETTERS => k_is)
    (case m_MOST_LETTERS => k_is)
    (case m_MOST_STANDS => k_is)
    (case z_bool => k_is)
    (case z_int => k_is)
    (case z_isinstance => k_is)
    (case z_len => k_is)
    (case z_tuple => k_is)
    (case z_all => k_is)
    (case z_enumerate => k_is)
    (case z_list => k_is)
    (case z_max => k_is)
    (case z_range => k_is)
    (case z_str => k_is)
