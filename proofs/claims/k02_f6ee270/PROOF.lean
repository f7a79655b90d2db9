import PyProof.Rows.All
import Wide.All
import OpenK.AllK
import Wide.FinOn
import HandS.ForMost
import HandS.Walk
import HandS.Zip
import KE.GoesEnum
import HandS.IsInst
import HandS.Property
import HandS.TupAny
import HandS.TupMul
import HandS.Style
import HandS.Codes
import PySem.Challenge.RW_wroteback_k02_whole_written
set_option Elab.async false
set_option linter.all false
set_option maxRecDepth 100000
set_option maxHeartbeats 2000000
/-! enumerate over a tuple, zip over a list and a tuple, as walks of the hand layer. -/
namespace Wb
open PySem PySem.Spec PyProof.Rows L2
/-- one argument: what enumerate makes of a thing whose iterator begins as B says -/
theorem meets_enum1 {v : Value} {o : Obj} {G : Heap → Prop} (B : Begins v o G) :
    Meets (Builtin.«enumerate.__new__» ⟨[.type "enumerate", v], []⟩) (fun _ R s => G s.heap ∧
      R (.ok (.ret (.ref (s.heap.push o).objs.size)))
        { s with heap := (s.heap.push o).push { cls := .type "enumerate", data := .fields #[.none, .bool false, .ref s.heap.objs.size, rawInt 0, .none, .none] } }) :=
  .of_wp fun prog w A R s g => by
    obtain ⟨hp, gg, dd, tk, os⟩ := s
    obtain ⟨g1, g⟩ := g
    have hs := sub_enumerate
    have it1 : ∀ {A' : Around} {E Q : Value → Shared → Prop}, Q (.ref hp.objs.size) ⟨hp.push o, gg, dd, tk, os⟩ →
        wpAny (model prog w) A' (pyIter v) Q E ⟨hp, gg, dd, tk, os⟩ := fun z => B.iter prog w _ _ ⟨hp, gg, dd, tk, os⟩ _ g1 z
    wp_walk using it1
    refine wpAny_stack_any fun u => wpAny_pure ?_
    split
    · rename_i c _ _ _ _ _
      cases (c == Value.type "enumerate") <;> (wp_walk using it1) <;> exact ⟨_, rfl, g⟩
    · (wp_walk using it1)
      exact ⟨_, rfl, g⟩
theorem call_enum1 {prog : Program} {w : World} {A : Around} {E Q : Value → Shared → Prop} {s : Shared} {v : Value} {o : Obj} {G : Heap → Prop} (B : Begins v o G) (g : G s.heap)
    (k : ∀ h', IsEnum h' (s.heap.objs.size + 1) s.heap.objs.size 0 .none → h'.get? s.heap.objs.size = some o →
      (∀ b u, s.heap.get? b = some u → h'.get? b = some u) → Q (.ref (s.heap.objs.size + 1)) { s with heap := h' }) :
    wpAny (model prog w) A (call (.type "enumerate") [v]) Q E s := by
  refine callType_new F.called_enumerate (by decide) (F.typeCall_enumerate_1 _) (F.newCall_enumerate_1 _) (fun ob => F.args_object_init_2 ob _) F.entry_enumerate_new (meets_enum1 B) ⟨g, ?_⟩
  have z : (s.heap.push o).objs.size = s.heap.objs.size + 1 := Heap.size_push ..
  have e : IsEnum ((s.heap.push o).push { cls := .type "enumerate", data := .fields #[.none, .bool false, .ref s.heap.objs.size, rawInt 0, .none, .none] }) (s.heap.objs.size + 1) s.heap.objs.size 0 .none := by
    have q := Heap.get?_push_size (s.heap.push o) (o := { cls := .type "enumerate", data := .fields #[.none, .bool false, .ref s.heap.objs.size, rawInt 0, .none, .none] }) rfl
    rw [z] at q
    exact q
  show _ ∧ _
  rw [z]
  exact ⟨⟨_, e, rfl⟩, k _ e (Heap.get?_push_of_some _ (Heap.get?_push_size _ B.free)) fun b u x => Heap.get?_push_of_some _ (Heap.get?_push_of_some _ x)⟩
/-- the tuple at a, each item in a new pair with its number -/
def ItT (K : PySem.W.Frag) (a : Addr) : It :=
  ⟨fun i H => ∃ (xs : List V) (x : V), SqT K H a xs ∧ xs[i]? = some x,
   fun i H v H' => ∃ T x, v = .ref T ∧ H T = none ∧ H' = upd H T (.tup [.int (i : Nat), x]) ∧ ∀ ys, SqT K H a ys → ys[i]? = some x,
   fun i H => ∃ xs : List V, SqT K H a xs ∧ xs.length ≤ i⟩
theorem turn_enumT {P : Program} {w : World} {K : PySem.W.Frag} {elts : List Expr} {kk : Nat} {tp : Pos} (a e it : Addr) (ne : a ≠ it) (nae : a ≠ e) :
    Turn P w K (.Tuple elts kk tp) (ItT K a) [e, it] e (fun i g => (∃ old, IsEnum g e it ((i : Nat) : Int) old) ∧ g.IsTupleIter it a i ∧ e ≠ it) where
  mem := by simp
  obj := by
    intro i g st b hb
    obtain ⟨⟨old, he⟩, ⟨o, ho, _, hd⟩, _⟩ := st
    rcases (by simpa using hb : b = e ∨ b = it) with rfl | rfl
    · exact ⟨_, he, fun v q => nomatch q⟩
    · exact ⟨o, ho, fun v q => by rw [hd] at q; cases q⟩
  keep := by
    intro i g g' st k
    obtain ⟨⟨old, he⟩, hi, hne⟩ := st
    exact ⟨⟨old, k e (by simp) _ he⟩, hi.at fun o q => k it (by simp) o q, hne⟩
  item := by
    intro X hP hw hK hc i pins s σ H E I hf st hg
    subst hP hw hK
    obtain ⟨⟨old, he⟩, hit, hne⟩ := st
    obtain ⟨xs, x, hq, hx⟩ := hg
    obtain ⟨its, rv, p, _⟩ := I.tuple hq
    obtain ⟨u, hu, ru⟩ := rv.get hx
    have elt : e < s.heap.objs.size := Heap.lt_size he
    have ilt : it < s.heap.objs.size := by
      obtain ⟨_, q, _⟩ := hit
      exact Heap.lt_size q
    have hu' : its.toArray[i]? = some u := by simpa using hu
    have hlt : i < its.toArray.size := by
      rcases Nat.lt_or_ge i its.toArray.size with q | q
      · exact q
      · rw [Array.getElem?_eq_none q] at hu'
        cases hu'
    -- what the tuple's own iterator draws; e is none of its objects but it may be that a is e: no
    have D := Draws.tuple (prog := X.prog) (w := X.w) (A := X.A.in1) (I.ok.hd hc) it a ne its.toArray
    have hea : e ∉ [it, a] := by
      intro q
      rcases (by simpa using q : e = it ∨ e = a) with z | z
      · exact hne z
      · exact nae z.symm
    refine wpAny_pyNext_enum_itemC D he ⟨hit, p⟩ hlt hne hea fun y h' tk hy ho hst hT hsz hk => ?_
    have ey : y = u := Option.some.inj (hy.symm.trans hu')
    subst ey
    refine ⟨_, rfl, wpAny_letOwnedTupleGo_enum (s := { s with heap := h', toks := tk + 1 }) ho fun h'' he' sb => ?_⟩
    have hT2 : h''.get? s.heap.objs.size = some { cls := .type "tuple", data := .seq #[.int i tk, y] } := (sb.2 _ (Nat.ne_of_gt elt)).trans hT
    have new : ObjOk X.prog X.w (upd H s.heap.objs.size (.tup [.int (i : Nat), x])) h'' s.heap.objs.size (.tup [.int (i : Nat), x]) :=
      ⟨(by show 2 ≤ sizeLine; decide), [.int i tk, y], .cons ⟨_, rfl⟩ (.cons ru .nil), ⟨_, hT2, rfl, _, rfl⟩⟩
    have I1 : Inv X pins σ (upd H s.heap.objs.size (.tup [.int (i : Nat), x])) { s with heap := h'', toks := tk + 1 } :=
      I.turnedNew (ch := [e, it]) (fun b ob hb q => (sb.2 b fun z => hb (by simp [z])).trans (hk b ob (fun z => hb (by simp [z])) (fun z => hb (by simp [z])) q)) hf (Nat.le_refl _) new
    refine ⟨.ref s.heap.objs.size, _, I1, rfl, ⟨_, x, rfl, I.hok.fresh (Nat.le_refl _), rfl, fun ys hy => by rw [I.tuple_inj hy hq]; exact hx⟩, ⟨⟨y, ?_⟩, ?_, hne⟩, fun b hb => ?_⟩
    · rw [show ((i + 1 : Nat) : Int) = (i : Int) + 1 by omega]
      exact he'
    · exact hst.1.at fun o q => (sb.2 it (Ne.symm hne)).trans q
    · have lt : b < s.heap.objs.size := by
        rcases (by simpa using hb : b = e ∨ b = it) with z | z
        · rw [z]; exact elt
        · rw [z]; exact ilt
      rw [upd_ne (Nat.ne_of_lt lt)]
      exact (hf b hb).1
  done := by
    intro X hP hw hK hc i pins s σ H E I hf st hg
    subst hP hw hK
    obtain ⟨⟨old, he⟩, hit, hne⟩ := st
    obtain ⟨xs, hq, hx⟩ := hg
    obtain ⟨its, rv, p, _⟩ := I.tuple hq
    have hl := rv.length
    -- the iterator stands at i, at or beyond the end
    have D : Draws X.prog X.w X.A.in1 it [it, a] 0 (fun _ _ => True) (fun j g => g.IsTupleIter it a i ∧ g.IsTuple a its.toArray) :=
      { live := fun _ _ q => by obtain ⟨⟨o, ho, _⟩, _⟩ := q; exact ⟨o, ho⟩
        frame := fun _ g g' q hk => ⟨q.1.at fun o z => hk it (by simp) o z, q.2.at fun o z => hk a (by simp) o z⟩
        item := fun j _ _ _ hj _ _ => absurd hj (Nat.not_lt_zero _)
        done := fun s' Q' E' q hE => wpAny_nextOf_tuple_end (I.ok.hd hc) q.1 q.2 (by simp; omega) hE }
    obtain ⟨f0, f1, f2, f3, f4, f5⟩ := hf it (by simp)
    exact wpAny_pyNext_enum_endD D he ⟨hit, p⟩ fun h' eb => ⟨rfl, I.turned (t' := s.toks) (fun b o hb q => eb b o hb q) f0 f1 f3 f4 f5⟩
  self := by
    intro A i s Q E st q
    obtain ⟨⟨_, he⟩, _⟩ := st
    exact wpAny_pyIter_enum he q
def iEnumT (K : PySem.W.Frag) (ta : TA) : TI := fun σ H R => ta σ H fun vs H1 => ∃ a xs, vs = [.ref a] ∧ SqT K H1 a xs ∧ R (ItT K a) H1
theorem pi_enumT {X : Cx} {e : Expr} {ta : TA} {p pos tp : Pos} {elts : List Expr} {kk : Nat} (hg : Gl X "enumerate") (hm : X.mg "enumerate" = none) (ha : PA X [e] ta)
    (hs : starEach [e] X.env = [(false, eval e X.env)] := by rfl) : PI X (.Tuple elts kk tp) (.Call (.Name "enumerate" p) [e] [] pos) (iEnumT X.K ta) := by
  refine ⟨fun pins s σ H R I h => ?_⟩
  refine Call_ (ld_blt I hg hm boot_enumerate (PyProof.Rows.callWith_type1 (thn (ha.run pos pins s σ H _ I h) fun us s1 ⟨vs, H1, I1, r1, q1⟩ => ?_) hs rfl))
  obtain ⟨a, xs, rfl, hq, q⟩ := q1
  obtain _ | ⟨r, rr⟩ := r1
  cases rr
  cases r
  obtain ⟨its, rv, pt, _⟩ := I1.tuple hq
  have alt : a < s1.heap.objs.size := by
    obtain ⟨o, ho, _⟩ := id pt
    exact Heap.lt_size ho
  refine call_enum1 (begins_tuple a its.toArray) pt fun h' he hit hk => wpAny_pyIter_enum he ?_
  have I2 : Inv X pins σ H1 { s1 with heap := h' } := I1.kept (t' := s1.toks) hk
  refine ⟨s1.heap.objs.size + 1, [s1.heap.objs.size + 1, s1.heap.objs.size], _, _, H1, rfl, I2,
    turn_enumT a (s1.heap.objs.size + 1) s1.heap.objs.size (Nat.ne_of_lt alt) (Nat.ne_of_lt (Nat.lt_succ_of_lt alt)), ⟨⟨.none, he⟩, ⟨_, hit, rfl, rfl⟩, Nat.succ_ne_self _⟩, fun b hb => ?_, q⟩
  have le : s1.heap.objs.size ≤ b := by
    rcases (by simpa using hb : b = s1.heap.objs.size + 1 ∨ b = s1.heap.objs.size) with z | z
    · rw [z]; exact Nat.le_add_right _ _
    · rw [z]; exact Nat.le_refl _
  exact I1.fpOk le (I1.hok.fresh le)
theorem walk_enumT {K : PySem.W.Frag} {a : Addr} {xs : List V} : Walk (ItT K a) xs.length (fun H => SqT K H a xs) (YPair (fun i => some (.int (i : Nat))) (fun i => xs[i]?)) where
  goes := fun i H hi g => ⟨xs, xs[i], g, by simp [hi]⟩
  stops := fun H g => ⟨xs, g, Nat.le_refl _⟩
  yields := by
    intro i H x H' hi g y
    obtain ⟨T, z, hv, hT, hH, q⟩ := y
    exact ⟨T, _, z, hv, hT, hH, rfl, q xs g⟩
end Wb
/-! zip over a list and a tuple, as a walk of the hand layer. -/
namespace Wb
open PySem PySem.Spec PyProof.Rows L2
/-- the list at a and the tuple at b, item by item in new pairs -/
def ItM (K : PySem.W.Frag) (a b : Addr) : It :=
  ⟨fun i H => ∃ (xs ys : List V) (x y : V), SqL K H a xs ∧ SqT K H b ys ∧ xs[i]? = some x ∧ ys[i]? = some y,
   fun i H v H' => ∃ T x y, v = .ref T ∧ H T = none ∧ H' = upd H T (.tup [x, y]) ∧ (∀ l, SqL K H a l → l[i]? = some x) ∧ ∀ l, SqT K H b l → l[i]? = some y,
   fun i H => ∃ xs ys : List V, SqL K H a xs ∧ SqT K H b ys ∧ i ≤ xs.length ∧ i ≤ ys.length ∧ (i = xs.length ∨ i = ys.length)⟩
theorem zsep (n a b : Nat) (ha : a < n) (hb : b < n) : ZipSep2 (n + 4) (n + 2) (n + 3) n (n + 1) [n, a] [n + 1, b] := by
  have nm : ∀ x y z : Nat, x ≠ y → x ≠ z → x ∉ [y, z] := fun x y z h1 h2 q => by
    rcases (by simpa using q : x = y ∨ x = z) with e | e
    · exact h1 e
    · exact h2 e
  have e1 : ∀ k : Nat, n + k ≠ a := fun k => by omega
  have e2 : ∀ k : Nat, n + k ≠ b := fun k => by omega
  have d : ∀ j k : Nat, j ≠ k → n + j ≠ n + k := fun j k h => by omega
  exact ⟨d 2 4 (by decide), d 3 4 (by decide), d 2 3 (by decide), d 2 0 (by decide), List.mem_cons_self .., nm _ _ _ (d 4 0 (by decide)) (e1 4), nm _ _ _ (d 3 0 (by decide)) (e1 3),
    d 2 1 (by decide), List.mem_cons_self .., nm _ _ _ (d 4 1 (by decide)) (e2 4), nm _ _ _ (d 3 1 (by decide)) (e2 3), nm _ _ _ (d 0 1 (by decide)) (e2 0), nm _ _ _ (d 1 0 (by decide)) (e1 1)⟩
theorem turn_zipM {P : Program} {w : World} {K : PySem.W.Frag} {elts : List Expr} {kk : Nat} {tp : Pos} {a b z TI TO i1 i2 : Addr} (S : ZipSep2 z TI TO i1 i2 [i1, a] [i2, b]) :
    Turn P w K (.Tuple elts kk tp) (ItM K a b) [z, TI, TO, i1, i2] z
      (fun i g => IsZip g z TI TO .none ∧ IsTupOf2 g TI (.ref i1) (.ref i2) ∧ (∃ x y, IsTupOf2 g TO x y) ∧ g.IsListIter i1 a i ∧ g.IsTupleIter i2 b i) where
  mem := by simp
  obj := by
    intro i g st c hc
    obtain ⟨hz, hTI, ⟨x, y, hTO⟩, ⟨o1, e1, _, d1⟩, ⟨o2, e2, _, d2⟩⟩ := st
    rcases (by simpa using hc : c = z ∨ c = TI ∨ c = TO ∨ c = i1 ∨ c = i2) with rfl | rfl | rfl | rfl | rfl
    · exact ⟨_, hz, fun v q => nomatch q⟩
    · exact ⟨_, hTI, fun v q => nomatch q⟩
    · exact ⟨_, hTO, fun v q => nomatch q⟩
    · exact ⟨o1, e1, fun v q => by rw [d1] at q; cases q⟩
    · exact ⟨o2, e2, fun v q => by rw [d2] at q; cases q⟩
  keep := by
    intro i g g' st k
    obtain ⟨hz, hTI, ⟨x, y, hTO⟩, h1, h2⟩ := st
    exact ⟨k z (by simp) _ hz, k TI (by simp) _ hTI, ⟨x, y, k TO (by simp) _ hTO⟩, h1.at fun o q => k i1 (by simp) o q, h2.at fun o q => k i2 (by simp) o q⟩
  item := by
    intro X hP hw hK hc i pins s σ H E I hf st hg
    subst hP hw hK
    obtain ⟨hz, hTI, ⟨x0, y0, hTO⟩, h1, h2⟩ := st
    obtain ⟨xs, ys, x, y, qx, qy, hx, hy⟩ := hg
    obtain ⟨its, rv, p, _⟩ := I.list qx
    obtain ⟨its2, rv2, p2, _⟩ := I.tuple qy
    obtain ⟨u, hu, ru⟩ := rv.get hx
    obtain ⟨u2, hu2, ru2⟩ := rv2.get hy
    have zl : z < s.heap.objs.size := Heap.lt_size hz
    have l1 : i < its.toArray.size := by
      obtain ⟨q, _⟩ := List.getElem?_eq_some_iff.mp hu
      simpa using q
    have l2 : i < its2.toArray.size := by
      obtain ⟨q, _⟩ := List.getElem?_eq_some_iff.mp hu2
      simpa using q
    have hh := I.ok.hd hc
    have D1 := Draws.list (prog := X.prog) (w := X.w) (A := X.A.in1) hh i1 a (fun e => by have q := S.sep1_2; have q2 := S.mem1; exact absurd (e ▸ p.isList) (fun z1 => by
      obtain ⟨o, ho, hcl, n, hd⟩ := z1
      obtain ⟨o1, e1, c1, d1⟩ := h1
      rw [e1] at ho
      cases ho
      rw [d1] at hd
      cases hd)) its.toArray
    have D2 := Draws.tuple (prog := X.prog) (w := X.w) (A := X.A.in1) hh i2 b (fun e => absurd (e ▸ p2) (fun z1 => by
      obtain ⟨o, ho, hcl, n, hd⟩ := z1
      obtain ⟨o1, e1, c1, d1⟩ := h2
      rw [e1] at ho
      cases ho
      rw [d1] at hd
      cases hd)) its2.toArray
    refine wpAny_pyNext_zipD2_item S D1 D2 hz hTI hTO ⟨h1, p.isList⟩ ⟨h2, p2⟩ l1 l2 fun v1 v2 h' tk y1 y2 z' TO' s1' s2' hT hsz hk => ?_
    have e1 : v1 = u := Option.some.inj (y1.symm.trans (by simpa using hu))
    have e2 : v2 = u2 := Option.some.inj (y2.symm.trans (by simpa using hu2))
    subst e1 e2
    refine ⟨_, rfl, wpAny_letOwnedTupleGo_zip (s := { s with heap := h', toks := tk }) z' fun h'' z'' sb => ?_⟩
    have hT2 : h''.get? s.heap.objs.size = some { cls := .type "tuple", data := .seq #[v1, v2] } := (sb.2 _ (Nat.ne_of_gt zl)).trans hT
    have new : ObjOk X.prog X.w (upd H s.heap.objs.size (.tup [x, y])) h'' s.heap.objs.size (.tup [x, y]) :=
      ⟨(by show 2 ≤ sizeLine; decide), [v1, v2], .cons ru (.cons ru2 .nil), ⟨_, hT2, rfl, _, rfl⟩⟩
    have I1 : Inv X pins σ (upd H s.heap.objs.size (.tup [x, y])) { s with heap := h'', toks := tk } :=
      I.turnedNew (t' := tk) (ch := [z, TI, TO, i1, i2])
        (fun c o hb q => (sb.2 c (fun e => hb (by simp [e]))).trans (hk c o (fun e => hb (by simp [e])) (fun e => hb (by simp [e])) (fun e => hb (by simp [e])) (fun e => hb (by simp [e])) q)) hf (Nat.le_refl _) new
    refine ⟨.ref s.heap.objs.size, _, I1, rfl, ⟨_, x, y, rfl, I.hok.fresh (Nat.le_refl _), rfl, fun l hl => by rw [I.list_inj hl qx]; exact hx, fun l hl => by rw [I.tuple_inj hl qy]; exact hy⟩, ⟨z'', ?_, ⟨v1, v2, ?_⟩, ?_, ?_⟩, fun c hcm => ?_⟩
    · exact (sb.2 _ S.TIz).trans (hk _ _ S.TIz S.TITO S.TIi1 S.TIi2 hTI)
    · exact (sb.2 _ S.TOz).trans TO'
    · exact s1'.1.at fun o q => (sb.2 _ S.zi1.symm).trans q
    · exact s2'.1.at fun o q => (sb.2 _ S.zi2.symm).trans q
    · have lt : c < s.heap.objs.size := by
        rcases (by simpa using hcm : c = z ∨ c = TI ∨ c = TO ∨ c = i1 ∨ c = i2) with q | q | q | q | q
        · rw [q]; exact zl
        · rw [q]; exact Heap.lt_size hTI
        · rw [q]; exact Heap.lt_size hTO
        · rw [q]; obtain ⟨_, e1, _⟩ := h1; exact Heap.lt_size e1
        · rw [q]; obtain ⟨_, e2, _⟩ := h2; exact Heap.lt_size e2
      rw [upd_ne (Nat.ne_of_lt lt)]
      exact (hf c hcm).1
  done := by
    intro X hP hw hK hc i pins s σ H E I hf st hg
    subst hP hw hK
    obtain ⟨hz, hTI, ⟨x0, y0, hTO⟩, h1, h2⟩ := st
    obtain ⟨xs, ys, qx, qy, hle1, hle2, hend⟩ := hg
    obtain ⟨its, rv, p, _⟩ := I.list qx
    obtain ⟨its2, rv2, p2, _⟩ := I.tuple qy
    have l1 := rv.length
    have l2 := rv2.length
    have hh := I.ok.hd hc
    have D1 := Draws.list (prog := X.prog) (w := X.w) (A := X.A.in1) hh i1 a (fun e => absurd (e ▸ p.isList) (fun z1 => by
      obtain ⟨o, ho, hcl, n, hd⟩ := z1
      obtain ⟨o1, e1, c1, d1⟩ := h1
      rw [e1] at ho
      cases ho
      rw [d1] at hd
      cases hd)) its.toArray
    have D2 := Draws.tuple (prog := X.prog) (w := X.w) (A := X.A.in1) hh i2 b (fun e => absurd (e ▸ p2) (fun z1 => by
      obtain ⟨o, ho, hcl, n, hd⟩ := z1
      obtain ⟨o1, e1, c1, d1⟩ := h2
      rw [e1] at ho
      cases ho
      rw [d1] at hd
      cases hd)) its2.toArray
    exact wpAny_pyNext_zipD2_end S D1 D2 hz hTI hTO ⟨h1, p.isList⟩ ⟨h2, p2⟩ (by simp; omega) (by simp; omega) (by simp; omega)
      fun h' tk hk => ⟨rfl, I.turnedL (t' := tk) (ch := [z, TI, TO, i1, i2]) (fun c o hb q => hk c o (fun e => hb (by simp [e])) (fun e => hb (by simp [e])) (fun e => hb (by simp [e])) (fun e => hb (by simp [e])) q) hf⟩
  self := fun A i s Q E st q => wpAny_pyIter_zip st.1 q
def iZipM (K : PySem.W.Frag) (ta : TA) : TI := fun σ H R => ta σ H fun vs H1 => ∃ a b xs ys, vs = [.ref a, .ref b] ∧ SqL K H1 a xs ∧ SqT K H1 b ys ∧ R (ItM K a b) H1
theorem pi_zipM {X : Cx} {e e2 : Expr} {ta : TA} {p pos tp : Pos} {elts : List Expr} {kk : Nat} (hg : Gl X "zip") (hm : X.mg "zip" = none) (ha : PA X [e, e2] ta)
    (hs : starEach [e, e2] X.env = (false, eval e X.env) :: starEach [e2] X.env := by rfl) (hpl : (backTo pos (starEach [e2] X.env)).any (·.1) = false := by rfl) :
    PI X (.Tuple elts kk tp) (.Call (.Name "zip" p) [e, e2] [] pos) (iZipM X.K ta) := by
  refine ⟨fun pins s σ H R I h => ?_⟩
  refine Call_ (ld_blt I hg hm PyProof.Rows.boot_zip (PyProof.Rows.callWith_type1 (thn (ha.run pos pins s σ H _ I h) fun us s1 ⟨vs, H1, I1, r1, q1⟩ => ?_) hs hpl))
  obtain ⟨a, b, xs, ys, rfl, qx, qy, q⟩ := q1
  obtain _ | ⟨r, rr⟩ := r1
  obtain _ | ⟨r', rr⟩ := rr
  cases rr
  cases r
  cases r'
  obtain ⟨its, rv, p1, _⟩ := I1.list qx
  obtain ⟨its2, rv2, p2, _⟩ := I1.tuple qy
  have la : a < s1.heap.objs.size := by
    obtain ⟨o, ho, _⟩ := p1.isList
    exact Heap.lt_size ho
  have lb : b < s1.heap.objs.size := by
    obtain ⟨o, ho, _⟩ := id p2
    exact Heap.lt_size ho
  refine zip_begins2 (begins_list a its.toArray) (begins_tuple b its2.toArray) p1.isList p2 fun h' hz hTI hTO g1 g2 hsz hk => wpAny_pyIter_zip hz ?_
  have I2 : Inv X pins σ H1 { s1 with heap := h' } := I1.kept (t' := s1.toks) hk
  refine ⟨s1.heap.objs.size + 4, [s1.heap.objs.size + 4, s1.heap.objs.size + 2, s1.heap.objs.size + 3, s1.heap.objs.size, s1.heap.objs.size + 1], _, _, H1, rfl, I2,
    turn_zipM (zsep s1.heap.objs.size a b la lb), ⟨hz, hTI, ⟨_, _, hTO⟩, ⟨_, g1, rfl, rfl⟩, ⟨_, g2, rfl, rfl⟩⟩, fun c hcm => ?_, q⟩
  have le : s1.heap.objs.size ≤ c := by
    rcases (by simpa using hcm : c = s1.heap.objs.size + 4 ∨ c = s1.heap.objs.size + 2 ∨ c = s1.heap.objs.size + 3 ∨ c = s1.heap.objs.size ∨ c = s1.heap.objs.size + 1) with z | z | z | z | z
    · rw [z]; exact Nat.le_add_right _ _
    · rw [z]; exact Nat.le_add_right _ _
    · rw [z]; exact Nat.le_add_right _ _
    · rw [z]; exact Nat.le_refl _
    · rw [z]; exact Nat.le_add_right _ _
  exact I1.fpOk le (I1.hok.fresh le)
theorem walk_zipM {K : PySem.W.Frag} {a b : Addr} {xs ys : List V} {n : Nat} (hn : n = min xs.length ys.length) :
    Walk (ItM K a b) n (fun H => SqL K H a xs ∧ SqT K H b ys) (YPair (fun i => xs[i]?) (fun i => ys[i]?)) where
  goes := fun i H hi g => ⟨xs, ys, xs[i]'(by omega), ys[i]'(by omega), g.1, g.2, List.getElem?_eq_getElem _, List.getElem?_eq_getElem _⟩
  stops := fun H g => ⟨xs, ys, g.1, g.2, by omega, by omega, by omega⟩
  yields := by
    intro i H x H' hi g y
    obtain ⟨T, z, z', hv, hT, hH, q, q'⟩ := y
    exact ⟨T, z, z', hv, hT, hH, q xs g.1, q' ys g.2⟩
end Wb
/-! Data in the heap, and what draws from the script leave as it was. -/
namespace Wb
open PySem L2
/-! ### heaps -/
theorem same_tup {K : PySem.W.Frag} {H H' : Hp} {a : Addr} {xs : List V} (e : Same H H') (h : SqT K H a xs) : SqT K H' a xs := by
  rcases h with (h | ⟨o, h⟩) | h
  · exact .inl (.inl (e _ _ h))
  · exact .inl (.inr ⟨o, e _ _ h⟩)
  · exact .inr h
theorem same_new {H : Hp} {p : Addr} (h : H p = none) (o : HO) : Same H (upd H p o) := fun b u q => by
  rw [upd_ne (ne_of_none q h)]
  exact q
/-- all but the two objects of the source stands as it was -/
def Old (h l : Addr) (H H' : Hp) : Prop := ∀ b o, H b = some o → b ≠ h → b ≠ l → H' b = some o
theorem Old.refl {h l : Addr} (H : Hp) : Old h l H H := fun _ _ q _ _ => q
theorem Old.trans {h l : Addr} {H H1 H2 : Hp} (a : Old h l H H1) (b : Old h l H1 H2) : Old h l H H2 := fun c o q x y => b c o (a c o q x y) x y
theorem Old.of {h l : Addr} {H H' : Hp} (s : Same H H') : Old h l H H' := fun b o q _ _ => s b o q
theorem Old.new {h l : Addr} {H H' : Hp} (s : Old h l H H') {p : Addr} (hp : H' p = none) (o : HO) : Old h l H (upd H' p o) := s.trans (Old.of (same_new hp o))
/-- the heap without the source -/
def cut (h l : Addr) (H : Hp) : Hp := fun b => if b = h ∨ b = l then none else H b
theorem cut_some {h l b : Addr} {H : Hp} {o : HO} (q : cut h l H b = some o) : H b = some o ∧ b ≠ h ∧ b ≠ l := by
  unfold cut at q
  split at q
  · cases q
  · rename_i n
    exact ⟨q, fun e => n (.inl e), fun e => n (.inr e)⟩
theorem cut_of {h l b : Addr} {H : Hp} {o : HO} (q : H b = some o) (n : b ≠ h) (m : b ≠ l) : cut h l H b = some o := by
  unfold cut
  rw [if_neg (fun z => z.elim n m)]
  exact q
theorem cut_same (h l : Addr) (H : Hp) : Same (cut h l H) H := fun _ _ q => (cut_some q).1
theorem Old.cut {h l : Addr} {H H' : Hp} (s : Old h l H H') : Same (cut h l H) (cut h l H') := fun b o q => by
  obtain ⟨e, n, m⟩ := cut_some q
  exact cut_of (s b o e n m) n m
/-- the source of draws: a number, a list of numbers, a number -/
structure Src (h l : Addr) (H : Hp) : Prop where
  ne : h ≠ l
  ex : ∃ (st k : Int) (cs : List Int), H h = some (.lst [.int st, .ref l, .int k]) ∧ H l = some (.lst (cs.map V.int)) ∧ cs.length ≤ 63
theorem Src.same {h l : Addr} {H H' : Hp} (s : Src h l H) (e : Same H H') : Src h l H' := by
  obtain ⟨ne, st, k, cs, a, b, c⟩ := s
  exact ⟨ne, st, k, cs, e _ _ a, e _ _ b, c⟩
theorem Src.neh {h l p : Addr} {H : Hp} (s : Src h l H) (e : H p = none) : p ≠ h := by
  obtain ⟨_, st, k, cs, a, b, c⟩ := s
  exact (ne_of_none a e).symm
theorem Src.nel {h l p : Addr} {H : Hp} (s : Src h l H) (e : H p = none) : p ≠ l := by
  obtain ⟨_, st, k, cs, a, b, c⟩ := s
  exact (ne_of_none b e).symm
theorem cut_new {h l p : Addr} {H : Hp} {o : HO} (s : Src h l H) (e : H p = none) : cut h l (upd H p o) p = some o := cut_of upd_same (s.neh e) (s.nel e)
/-- a new object leaves the source -/
theorem Src.new {h l p : Addr} {H : Hp} (s : Src h l H) (e : H p = none) (o : HO) : Src h l (upd H p o) := s.same (same_new e o)
/-- a store elsewhere leaves the source -/
theorem Src.upd {h l p : Addr} {H : Hp} (s : Src h l H) (n : p ≠ h) (m : p ≠ l) (o : HO) : Src h l (L2.upd H p o) := by
  obtain ⟨ne, st, k, cs, a, b, c⟩ := s
  exact ⟨ne, st, k, cs, by rw [upd_ne n.symm]; exact a, by rw [upd_ne m.symm]; exact b, c⟩
/-! ### data -/
section
variable {K : PySem.W.Frag} {H H' : Hp}
mutual
theorem dp_mono (hl : ∀ a xs, SqL K H a xs → SqL K H' a xs) (ht : ∀ a xs, SqT K H a xs → SqT K H' a xs) : ∀ (d : PyData) (v : V), Dp K H v d → Dp K H' v d
  | .none, _, h => by cases h; exact .non
  | .bool b, _, h => by cases h; exact .bl b
  | .int i, _, h => by cases h; exact .int i
  | .str x, _, h => by cases h; exact .str x
  | .list ds, _, h => by
    cases h with
    | lst s a => exact .lst (hl _ _ s) (dp_monoAll hl ht ds _ a)
  | .tuple ds, _, h => by
    cases h with
    | tup s a => exact .tup (ht _ _ s) (dp_monoAll hl ht ds _ a)
  | .dict _, _, h => by cases h
theorem dp_monoAll (hl : ∀ a xs, SqL K H a xs → SqL K H' a xs) (ht : ∀ a xs, SqT K H a xs → SqT K H' a xs) : ∀ (ds : List PyData) (vs : List V), DpAll K H vs ds → DpAll K H' vs ds
  | [], _, h => by cases h; exact .nil
  | d :: ds, _, h => by
    cases h with
    | cons a b => exact .cons (dp_mono hl ht d _ a) (dp_monoAll hl ht ds _ b)
end
end
theorem dp_same {K : PySem.W.Frag} {H H' : Hp} {v : V} {d : PyData} (h : Dp K H v d) (s : Same H H') : Dp K H' v d := dp_mono (fun _ _ q => s.seq q) (fun _ _ q => same_tup s q) d v h
theorem dps_same {K : PySem.W.Frag} {H H' : Hp} {v : List V} {d : List PyData} (h : DpAll K H v d) (s : Same H H') : DpAll K H' v d := dp_monoAll (fun _ _ q => s.seq q) (fun _ _ q => same_tup s q) d v h
theorem dps_len {K : PySem.W.Frag} {H : Hp} : ∀ {ds : List PyData} {vs : List V}, DpAll K H vs ds → vs.length = ds.length
  | [], _, h => by cases h; rfl
  | _ :: _, _, h => by
    cases h with
    | cons a b => simp [dps_len b]
theorem dps_get {K : PySem.W.Frag} {H : Hp} : ∀ {ds : List PyData} {vs : List V} {i : Nat} {d : PyData}, DpAll K H vs ds → ds[i]? = some d → ∃ v, vs[i]? = some v ∧ Dp K H v d
  | [], _, _, _, _, e => by simp at e
  | _ :: _, _, 0, _, h, e => by
    cases h with
    | cons a b =>
      simp at e
      subst e
      exact ⟨_, rfl, a⟩
  | _ :: _, _, i + 1, _, h, e => by
    cases h with
    | cons a b =>
      obtain ⟨v, h1, h2⟩ := dps_get (i := i) b (by simpa using e)
      exact ⟨v, by simpa using h1, h2⟩
theorem dps_getV {K : PySem.W.Frag} {H : Hp} : ∀ {ds : List PyData} {vs : List V} {i : Nat} {v : V}, DpAll K H vs ds → vs[i]? = some v → ∃ d, ds[i]? = some d ∧ Dp K H v d
  | [], _, _, _, h, e => by cases h; simp at e
  | _ :: _, _, 0, _, h, e => by
    cases h with
    | cons a b =>
      simp at e
      subst e
      exact ⟨_, rfl, a⟩
  | _ :: _, _, i + 1, _, h, e => by
    cases h with
    | cons a b =>
      obtain ⟨v, h1, h2⟩ := dps_getV (i := i) b (by simpa using e)
      exact ⟨v, by simpa using h1, h2⟩
theorem dps_app {K : PySem.W.Frag} {H : Hp} : ∀ {ds es : List PyData} {vs us : List V}, DpAll K H vs ds → DpAll K H us es → DpAll K H (vs ++ us) (ds ++ es)
  | [], _, _, _, h, g => by cases h; exact g
  | _ :: _, _, _, _, h, g => by
    cases h with
    | cons a b => exact .cons a (dps_app b g)
theorem dps_snoc {K : PySem.W.Frag} {H : Hp} {ds : List PyData} {vs : List V} {d : PyData} {v : V} (h : DpAll K H vs ds) (g : Dp K H v d) : DpAll K H (vs ++ [v]) (ds ++ [d]) := dps_app h (.cons g .nil)
theorem dps_ints {K : PySem.W.Frag} {H : Hp} : ∀ {ns : List Int}, DpAll K H (ns.map V.int) (ns.map PyData.int)
  | [] => .nil
  | n :: _ => .cons (.int n) dps_ints
theorem dps_nats {K : PySem.W.Frag} {H : Hp} : ∀ {ns : List Nat}, DpAll K H (ns.map fun n : Nat => V.int (n : Int)) (ns.map fun n : Nat => PyData.int (n : Int))
  | [] => .nil
  | n :: _ => .cons (.int n) dps_nats
/-- back from data to values: a tuple's numbers -/
theorem dps_ofInts {K : PySem.W.Frag} {H : Hp} : ∀ {ns : List Int} {vs : List V}, DpAll K H vs (ns.map PyData.int) → vs = ns.map V.int
  | [], _, h => by cases h; rfl
  | n :: ns, _, h => by
    cases h with
    | cons a b =>
      cases a
      rw [dps_ofInts b, List.map_cons]
theorem dps_ofNats {K : PySem.W.Frag} {H : Hp} : ∀ {ns : List Nat} {vs : List V}, DpAll K H vs (ns.map fun n : Nat => PyData.int (n : Int)) → vs = ns.map fun n : Nat => V.int (n : Int)
  | [], _, h => by cases h; rfl
  | n :: ns, _, h => by
    cases h with
    | cons a b =>
      cases a
      rw [dps_ofNats b, List.map_cons]
theorem dp_tup {K : PySem.W.Frag} {H : Hp} {v : V} {ds : List PyData} (h : Dp K H v (.tuple ds)) : ∃ a xs, v = .ref a ∧ SqT K H a xs ∧ DpAll K H xs ds := by
  cases h with
  | tup s a => exact ⟨_, _, rfl, s, a⟩
theorem dp_lst {K : PySem.W.Frag} {H : Hp} {v : V} {ds : List PyData} (h : Dp K H v (.list ds)) : ∃ a xs, v = .ref a ∧ SqL K H a xs ∧ DpAll K H xs ds := by
  cases h with
  | lst s a => exact ⟨_, _, rfl, s, a⟩
theorem dp_int {K : PySem.W.Frag} {H : Hp} {v : V} {i : Int} (h : Dp K H v (.int i)) : v = .int i := by
  cases h
  rfl
/-! ### what kind of thing -/
def kindOf : PyData → String
  | .none => "NoneType"
  | .bool _ => "bool"
  | .int _ => "int"
  | .str _ => "str"
  | .list _ => "list"
  | .tuple _ => "tuple"
  | .dict _ => "dict"
theorem tyx_lst {K : PySem.W.Frag} {H : Hp} {a : Addr} {xs : List V} (h : SqL K H a xs) : TyX K H (.ref a) (.type "list") := by
  rcases h with (h | ⟨o, h⟩) | ⟨o, its, n, h, c, _⟩
  · exact .base (.lst h)
  · exact .base (.frz h)
  · exact .kList h c
theorem tyx_tup {K : PySem.W.Frag} {H : Hp} {a : Addr} {xs : List V} (h : SqT K H a xs) : TyX K H (.ref a) (.type "tuple") := by
  rcases h with (h | ⟨o, h⟩) | ⟨o, its, n, h, c, _⟩
  · exact .base (.tup h)
  · exact .fTuple h
  · exact .kTuple h c
theorem dp_ty {K : PySem.W.Frag} {H : Hp} {v : V} {d : PyData} (h : Dp K H v d) : TyX K H v (.type (kindOf d)) := by
  cases h with
  | non => exact .base .non
  | bl b => exact .base (.bl b)
  | int i => exact .base (.int i)
  | str x => exact .base (.str x)
  | lst s _ => exact tyx_lst s
  | tup s _ => exact tyx_tup s
/-- the answer of isinstance for plain data -/
def isA (d : PyData) (T : String) : Bool := (kitB (kindOf d) T).getD false
theorem kind_mem (d : PyData) : kindOf d ∈ ["NoneType", "bool", "int", "str", "list", "tuple", "dict"] := by cases d <;> simp [kindOf]
theorem kit_some : ∀ k ∈ ["NoneType", "bool", "int", "str", "list", "tuple", "dict"], ∀ T ∈ ["int", "bool", "str", "tuple", "list"], kitB k T = some (decide (k = T) || (decide (k = "bool") && decide (T = "int"))) := by decide +kernel
theorem isA_val (d : PyData) {T : String} (hT : T = "int" ∨ T = "bool" ∨ T = "str" ∨ T = "tuple" ∨ T = "list") : kitB (kindOf d) T = some (decide (kindOf d = T) || (decide (kindOf d = "bool") && decide (T = "int"))) :=
  kit_some _ (kind_mem d) T (by rcases hT with rfl | rfl | rfl | rfl | rfl <;> decide)
theorem isA_eq {K : PySem.W.Frag} {d : PyData} {T : String} (hT : T = "int" ∨ T = "bool" ∨ T = "str" ∨ T = "tuple" ∨ T = "list") : PySem.W.kitOne K (.type (kindOf d)) (.type T) = some (isA d T) := by
  have e : kitB (kindOf d) T = some (isA d T) := by
    unfold isA
    rw [isA_val d hT]
    rfl
  exact kit_ty e
def isSeq : PyData → Bool
  | .list _ => true
  | .tuple _ => true
  | _ => false
theorem isA_int (d : PyData) : isA d "int" = (match d with | .int _ => true | .bool _ => true | _ => false) := by
  unfold isA
  rw [isA_val d (by simp)]
  cases d <;> (unfold kindOf; rfl)
theorem isA_bool (d : PyData) : isA d "bool" = (match d with | .bool _ => true | _ => false) := by
  unfold isA
  rw [isA_val d (by simp)]
  cases d <;> (unfold kindOf; rfl)
theorem isA_str (d : PyData) : isA d "str" = (match d with | .str _ => true | _ => false) := by
  unfold isA
  rw [isA_val d (by simp)]
  cases d <;> (unfold kindOf; rfl)
theorem isA_tuple (d : PyData) : isA d "tuple" = (match d with | .tuple _ => true | _ => false) := by
  unfold isA
  rw [isA_val d (by simp)]
  cases d <;> (unfold kindOf; rfl)
theorem isA_list (d : PyData) : isA d "list" = (match d with | .list _ => true | _ => false) := by
  unfold isA
  rw [isA_val d (by simp)]
  cases d <;> (unfold kindOf; rfl)
/-- isinstance(x, T) of plain data, as it is read -/
theorem rd_isi {K : PySem.W.Frag} {H : Hp} {v : V} {d : PyData} {T : String} {Q : VK} (hd : Dp K H v d) (hT : T = "int" ∨ T = "bool" ∨ T = "str" ∨ T = "tuple" ∨ T = "list") (q : Q (.bl (isA d T)) H) : rIsi K [v, .ty T] H Q :=
  ⟨v, .ty T, .type (kindOf d), .type T, isA d T, rfl, .ty T, (dp_ty hd), isA_eq hT, q⟩
/-- isinstance(x, (tuple, list)) -/
theorem isSeq_eq {K : PySem.W.Frag} {d : PyData} : PySem.W.kitAny K (.type (kindOf d)) [.type "tuple", .type "list"] = some (isSeq d) := by
  refine kitAny_cons (isA_eq (T := "tuple") (by simp)) (fun e => kitAny_cons (isA_eq (T := "list") (by simp)) (fun e2 => ?_) (fun e2 => ?_)) (fun e => ?_)
  · rw [kitAny_nil]
    rw [isA_tuple] at e
    rw [isA_list] at e2
    cases d <;> simp_all [isSeq]
  · rw [isA_list] at e2
    cases d <;> simp_all [isSeq]
  · rw [isA_tuple] at e
    cases d <;> simp_all [isSeq]
/-- the things of a list or tuple -/
def items : PyData → List PyData
  | .list ds => ds
  | .tuple ds => ds
  | _ => []
theorem dp_seq {K : PySem.W.Frag} {H : Hp} {v : V} {d : PyData} (h : Dp K H v d) (e : isSeq d = true) : ∃ a xs, v = .ref a ∧ (SqL K H a xs ∨ SqT K H a xs) ∧ DpAll K H xs (items d) := by
  cases h with
  | lst s a => exact ⟨_, _, rfl, .inl s, a⟩
  | tup s a => exact ⟨_, _, rfl, .inr s, a⟩
  | _ => cases e
theorem seq_same {K : PySem.W.Frag} {H H' : Hp} {a : Addr} {xs : List V} (h : SqL K H a xs ∨ SqT K H a xs) (s : Same H H') : SqL K H' a xs ∨ SqT K H' a xs := h.elim (fun q => .inl (s.seq q)) (fun q => .inr (same_tup s q))
theorem rd_ixseq {K : PySem.W.Frag} {H : Hp} {a : Addr} {xs : List V} {i : Int} {v : V} {Q : VK} (h : SqL K H a xs ∨ SqT K H a xs) (hv : atI xs i = some v) (q : Q v H) : rIx K (.ref a) (.int i) H Q :=
  h.elim (fun z => .inl ⟨a, xs, i, v, rfl, rfl, z, hv, q⟩) (fun z => .inr (.inl ⟨a, xs, i, v, rfl, rfl, z, hv, q⟩))
/-- data of at most n levels, its lists and tuples short, its texts plain -/
def fine : Nat → PyData → Prop
  | 0, _ => False
  | n + 1, d => match d with
    | .list ds => ds.length ≤ 1000 ∧ ∀ e ∈ ds, fine n e
    | .tuple ds => ds.length ≤ 1000 ∧ ∀ e ∈ ds, fine n e
    | .str x => PyData.strOk x = true
    | .dict _ => False
    | _ => True
theorem fine_item {n : Nat} {d e : PyData} {i : Nat} (h : fine (n + 1) d) (he : (items d)[i]? = some e) : fine n e := by
  cases d with
  | list ds => exact h.2 e (List.mem_of_getElem? he)
  | tuple ds => exact h.2 e (List.mem_of_getElem? he)
  | _ => simp [items] at he
theorem fine_len {n : Nat} {d : PyData} (h : fine (n + 1) d) : (items d).length ≤ 1000 := by
  cases d with
  | list ds => exact h.1
  | tuple ds => exact h.1
  | _ => simp [items]
theorem fine_up : ∀ {n : Nat} {d : PyData}, fine n d → fine (n + 1) d
  | 0, _, h => h.elim
  | n + 1, .list ds, h => ⟨h.1, fun e he => fine_up (h.2 e he)⟩
  | n + 1, .tuple ds, h => ⟨h.1, fun e he => fine_up (h.2 e he)⟩
  | n + 1, .str x, h => h
  | n + 1, .none, _ => trivial
  | n + 1, .bool _, _ => trivial
  | n + 1, .int _, _ => trivial
  | n + 1, .dict _, h => h.elim
theorem fine_ints (r : List Nat) (h : r.length ≤ 1000) (n : Nat) : fine (n + 2) (.tuple (r.map fun a : Nat => PyData.int (a : Int))) := by
  refine ⟨by rw [List.length_map]; exact h, fun e he => ?_⟩
  obtain ⟨a, _, rfl⟩ := List.mem_map.mp he
  exact trivial
theorem fine_intsL (r : List Nat) (h : r.length ≤ 1000) (n : Nat) : fine (n + 2) (.list (r.map fun a : Nat => PyData.int (a : Int))) := by
  refine ⟨by rw [List.length_map]; exact h, fun e he => ?_⟩
  obtain ⟨a, _, rfl⟩ := List.mem_map.mp he
  exact trivial
/-- a number from lo to hi -/
def btw (d : PyData) (lo hi : Int) : Bool := match d with
  | .int i => decide (lo ≤ i) && decide (i ≤ hi)
  | _ => false
/-- a tuple of lo to hi things -/
def tupN (d : PyData) (lo hi : Int) : Bool := match d with
  | .tuple ds => decide (lo ≤ (ds.length : Int)) && decide ((ds.length : Int) ≤ hi)
  | _ => false
end Wb
namespace Wb
open PySem L2
/-! the rules' readings by name, with the written part told (a comprehension's block wants it so) -/
def rLenS (K : PySem.W.Frag) : List V → Hp → VK → Prop := fun xs H Q => ∃ p ys, xs = [.ref p] ∧ (SqL K H p ys ∨ SqT K H p ys) ∧ Q (.int ys.length) H
theorem call_lenS {X : Cx} : CallR X (.builtin "len") (rLenS X.K) := call_len_seq
def rListOf (K : PySem.W.Frag) : List V → Hp → VK → Prop := fun xs H Q => ∃ p ys, xs = [.ref p] ∧ (SqL K H p ys ∨ SqT K H p ys) ∧ ∀ l, H l = none → Q (.ref l) (upd H l (.lst ys))
theorem call_listS {X : Cx} : CallR X (.type "list") (rListOf X.K) := call_list_of
def rTupOf (K : PySem.W.Frag) : List V → Hp → VK → Prop := fun xs H Q => ∃ p ys, xs = [.ref p] ∧ ((SqL K H p ys ∧ ∀ l, H l = none → Q (.ref l) (upd H l (.tup ys))) ∨ (SqT K H p ys ∧ Q (.ref p) H))
theorem call_tupS {X : Cx} : CallR X (.type "tuple") (rTupOf X.K) := call_tuple_of
end Wb
namespace Wb
open PySem L2
/-! ### the tuples of a heap: they never change -/
def tups (H : Hp) : Hp := fun b => match H b with
  | some (.tup xs) => some (.tup xs)
  | _ => none
theorem tups_some {H : Hp} {b : Addr} {o : HO} (q : tups H b = some o) : H b = some o ∧ ∃ xs, o = .tup xs := by
  unfold tups at q
  split at q
  · rename_i xs e
    cases q
    exact ⟨e, xs, rfl⟩
  · cases q
theorem tups_of {H : Hp} {b : Addr} {xs : List V} (q : H b = some (.tup xs)) : tups H b = some (.tup xs) := by
  unfold tups
  rw [q]
theorem tups_same (H : Hp) : Same (tups H) H := fun _ _ q => (tups_some q).1
/-- the tuples stand as they were -/
def TS (H H' : Hp) : Prop := Same (tups H) (tups H')
theorem TS.refl (H : Hp) : TS H H := Same.refl _
theorem TS.trans {H H1 H2 : Hp} (a : TS H H1) (b : TS H1 H2) : TS H H2 := Same.trans a b
theorem TS.same {H H' : Hp} (s : Same H H') : TS H H' := fun b o q => by
  obtain ⟨e, xs, rfl⟩ := tups_some q
  exact tups_of (s _ _ e)
theorem TS.new {H H' : Hp} (s : TS H H') {p : Addr} (hp : H' p = none) (o : HO) : TS H (upd H' p o) := s.trans (TS.same (same_new hp o))
theorem TS.lst {H H' : Hp} (s : TS H H') {p : Addr} {xs : List V} (hp : H' p = some (.lst xs)) (o : HO) : TS H (upd H' p o) := s.trans fun b u q => by
  obtain ⟨e, ys, rfl⟩ := tups_some q
  exact tups_of (by rw [upd_ne (ne_of e hp (by intro z; cases z))]; exact e)
theorem Old.ts {h l : Addr} {H H' : Hp} (S : Src h l H) (o : Old h l H H') : TS H H' := fun b u q => by
  obtain ⟨e, ys, rfl⟩ := tups_some q
  obtain ⟨_, st, k, cs, a, c, _⟩ := S
  exact tups_of (o _ _ e (ne_of e a (by intro z; cases z)) (ne_of e c (by intro z; cases z)))
theorem dp_ts {K : PySem.W.Frag} {H H' : Hp} {v : V} {d : PyData} (h : Dp K (tups H) v d) (s : TS H H') : Dp K (tups H') v d := dp_same h s
theorem dps_ts {K : PySem.W.Frag} {H H' : Hp} {v : List V} {d : List PyData} (h : DpAll K (tups H) v d) (s : TS H H') : DpAll K (tups H') v d := dps_same h s
theorem dp_tups {K : PySem.W.Frag} {H : Hp} {v : V} {d : PyData} (h : Dp K (tups H) v d) : Dp K H v d := dp_same h (tups_same H)
end Wb
namespace Wb
open PySem L2
theorem Old.free {h l p : Addr} {H H' : Hp} (o : Old h l H H') (e : H' p = none) (nh : p ≠ h) (nl : p ≠ l) : H p = none := by
  cases q : H p with
  | none => rfl
  | some u =>
    rw [o _ _ q nh nl] at e
    cases e
/-- a store to an object that was not there -/
theorem Old.put {h l p : Addr} {H H' : Hp} (o : Old h l H H') (e : H p = none) (u : HO) : Old h l H (upd H' p u) := fun b v hb bh bl => by
  rw [upd_ne (fun z => by subst z; rw [e] at hb; cases hb)]
  exact o _ _ hb bh bl
theorem Same.put {p : Addr} {H H' : Hp} (s : Same H H') (e : H p = none) (u : HO) : Same H (upd H' p u) := fun b v hb => by
  rw [upd_ne (fun z => by subst z; rw [e] at hb; cases hb)]
  exact s _ _ hb
end Wb
/-! Tables of writers as plain lists, and what a writer does. -/
namespace Wb
open PySem L2
abbrev Tab := List (List (Nat × Nat))
def stepD (s : Nat × Nat) : PyData := .tuple [.int (s.1 : Int), .int (s.2 : Int)]
def rowD (r : List (Nat × Nat)) : PyData := .tuple (r.map stepD)
def tabD (t : Tab) : PyData := .tuple (t.map rowD)
structure Good (t : Tab) (n : Nat) : Prop where
  len1 : 1 ≤ t.length
  len6 : t.length ≤ 6
  n2 : 2 ≤ n
  n3 : n ≤ 3
  rows : ∀ r ∈ t, r.length = n
  steps : ∀ r ∈ t, ∀ s ∈ r, s.1 < t.length ∧ s.2 ≤ 3
/-- the step of a letter at a stand -/
def stp (t : Tab) (s a : Nat) : Nat × Nat := (t.getD s []).getD a (0, 0)
theorem Good.row {t : Tab} {n s : Nat} (g : Good t n) (hs : s < t.length) : t.getD s [] ∈ t ∧ (t.getD s []).length = n := by
  have e : t.getD s [] = t[s] := by simp [List.getD, List.getElem?_eq_getElem hs]
  rw [e]
  exact ⟨List.getElem_mem hs, g.rows _ (List.getElem_mem hs)⟩
theorem Good.stp {t : Tab} {n s a : Nat} (g : Good t n) (hs : s < t.length) (ha : a < n) : (stp t s a).1 < t.length ∧ (stp t s a).2 ≤ 3 := by
  obtain ⟨m, l⟩ := g.row hs
  have la : a < (t.getD s []).length := by omega
  have e : Wb.stp t s a = (t.getD s [])[a] := by unfold Wb.stp; rw [List.getD, List.getElem?_eq_getElem la]; rfl
  rw [e]
  exact g.steps _ m _ (List.getElem_mem la)
/-- a table in the heap, its row, its step -/
theorem tab_row {K : PySem.W.Frag} {H : Hp} {v : V} {t : Tab} (h : Dp K H v (tabD t)) {s : Nat} (hs : s < t.length) :
    ∃ p xs u, v = .ref p ∧ SqT K H p xs ∧ xs[s]? = some u ∧ Dp K H u (rowD (t.getD s [])) ∧ xs.length = t.length := by
  obtain ⟨p, xs, rfl, hx, ha⟩ := dp_tup h
  have e : (t.map rowD)[s]? = some (rowD (t.getD s [])) := by
    rw [List.getElem?_map, List.getElem?_eq_getElem hs]
    simp [List.getD, List.getElem?_eq_getElem hs]
  obtain ⟨u, hu, du⟩ := dps_get ha e
  exact ⟨p, xs, u, rfl, hx, hu, du, by rw [dps_len ha, List.length_map]⟩
theorem row_step {K : PySem.W.Frag} {H : Hp} {v : V} {r : List (Nat × Nat)} (h : Dp K H v (rowD r)) {a : Nat} (ha : a < r.length) :
    ∃ p xs q, v = .ref p ∧ SqT K H p xs ∧ xs[a]? = some (.ref q) ∧ SqT K H q [.int ((r.getD a (0, 0)).1 : Int), .int ((r.getD a (0, 0)).2 : Int)] ∧ xs.length = r.length := by
  obtain ⟨p, xs, rfl, hx, hA⟩ := dp_tup h
  have e : (r.map stepD)[a]? = some (stepD (r.getD a (0, 0))) := by
    rw [List.getElem?_map, List.getElem?_eq_getElem ha]
    simp [List.getD, List.getElem?_eq_getElem ha]
  obtain ⟨u, hu, du⟩ := dps_get hA e
  obtain ⟨q, ys, rfl, hy, hB⟩ := dp_tup du
  have ey : ys = [.int ((r.getD a (0, 0)).1 : Int), .int ((r.getD a (0, 0)).2 : Int)] := dps_ofInts (ns := [((r.getD a (0, 0)).1 : Int), ((r.getD a (0, 0)).2 : Int)]) hB
  rw [ey] at hy
  exact ⟨p, xs, q, rfl, hx, hu, hy, by rw [dps_len hA, List.length_map]⟩
/-- table[s][a] -/
theorem tab_get {K : PySem.W.Frag} {H : Hp} {v : V} {t : Tab} {n : Nat} (h : Dp K H v (tabD t)) (g : Good t n) {s a : Nat} (hs : s < t.length) (ha : a < n) :
    ∃ p xs q ys r, v = .ref p ∧ SqT K H p xs ∧ xs[s]? = some (.ref q) ∧ SqT K H q ys ∧ ys[a]? = some (.ref r) ∧ SqT K H r [.int ((stp t s a).1 : Int), .int ((stp t s a).2 : Int)] := by
  obtain ⟨p, xs, u, rfl, hx, hu, du, _⟩ := tab_row h hs
  obtain ⟨m, l⟩ := g.row hs
  obtain ⟨q, ys, r, rfl, hy, hr, hz, _⟩ := row_step du (a := a) (by omega)
  exact ⟨p, xs, q, ys, r, rfl, hx, hu, hy, hr, hz⟩
/-! ### what is passed and what is written -/
def runS (t : Tab) (s : Nat) : List Nat → List Nat
  | [] => [s]
  | a :: r => s :: runS t (stp t s a).1 r
def runW (t : Tab) (s : Nat) : List Nat → List Nat
  | [] => []
  | a :: r => (stp t s a).2 :: runW t (stp t s a).1 r
def endS (t : Tab) (s : Nat) : List Nat → Nat
  | [] => s
  | a :: r => endS t (stp t s a).1 r
theorem runS_len (t : Tab) : ∀ (r : List Nat) (s : Nat), (runS t s r).length = r.length + 1
  | [], _ => rfl
  | a :: r, s => by simp [runS, runS_len t r]
theorem runW_len (t : Tab) : ∀ (r : List Nat) (s : Nat), (runW t s r).length = r.length
  | [], _ => rfl
  | a :: r, s => by simp [runW, runW_len t r]
theorem endS_snoc (t : Tab) (a : Nat) : ∀ (r : List Nat) (s : Nat), endS t s (r ++ [a]) = (stp t (endS t s r) a).1
  | [], _ => rfl
  | b :: r, s => by simp only [List.cons_append, endS]; exact endS_snoc t a r _
theorem runS_snoc (t : Tab) (a : Nat) : ∀ (r : List Nat) (s : Nat), runS t s (r ++ [a]) = runS t s r ++ [endS t s (r ++ [a])]
  | [], _ => rfl
  | b :: r, s => by simp only [List.cons_append, runS, endS, runS_snoc t a r]
theorem runW_snoc (t : Tab) (a : Nat) : ∀ (r : List Nat) (s : Nat), runW t s (r ++ [a]) = runW t s r ++ [(stp t (endS t s r) a).2]
  | [], _ => rfl
  | b :: r, s => by simp only [List.cons_append, runW, endS, runW_snoc t a r]
theorem runS_end (t : Tab) : ∀ (r : List Nat) (s : Nat), ∃ l, runS t s r = l ++ [endS t s r] ∧ l.length = r.length
  | [], s => ⟨[], rfl, rfl⟩
  | b :: r, s => by
    obtain ⟨l, h, e⟩ := runS_end t r (stp t s b).1
    exact ⟨s :: l, by simp [runS, endS, h], by simp [e]⟩
theorem runS_get (t : Tab) : ∀ (r : List Nat) (s i : Nat), i ≤ r.length → (runS t s r)[i]? = some (endS t s (r.take i))
  | [], s, i, h => by
    have e : i = 0 := by simpa using h
    subst e
    rfl
  | b :: r, s, 0, _ => rfl
  | b :: r, s, i + 1, h => by
    simp only [runS, List.getElem?_cons_succ, List.take_succ_cons, endS]
    exact runS_get t r _ i (by simpa using h)
theorem endS_lt {t : Tab} {n : Nat} (g : Good t n) : ∀ (r : List Nat) (s : Nat), s < t.length → (∀ a ∈ r, a < n) → endS t s r < t.length
  | [], s, hs, _ => hs
  | b :: r, s, hs, hr => endS_lt g r _ (g.stp hs (hr b (by simp))).1 fun a ha => hr a (by simp [ha])
theorem take_snoc {α : Type} {l : List α} {i : Nat} {x : α} (h : l[i]? = some x) : l.take (i + 1) = l.take i ++ [x] := by
  rw [List.take_add_one, h]
  rfl
end Wb
namespace Wb
theorem drop_cons {α : Type} {l : List α} {i : Nat} {x : α} (h : l[i]? = some x) : l.drop i = x :: l.drop (i + 1) := by
  obtain ⟨hl, rfl⟩ := List.getElem?_eq_some_iff.mp h
  exact List.drop_eq_getElem_cons hl
end Wb
namespace Wb
open PySem L2
/-- a writer at p over the table at v -/
def WrAt (C : Addr) (H : Hp) (p : Addr) (v : V) : Prop := ∃ dx, H p = some (.ins C dx [("_table", v)])
theorem WrAt.same {C : Addr} {H H' : Hp} {p : Addr} {v : V} (h : WrAt C H p v) (s : Same H H') : WrAt C H' p v := by
  obtain ⟨dx, h⟩ := h
  exact ⟨dx, s _ _ h⟩
end Wb
namespace Wb
theorem iteNT {c A B : Prop} [Decidable c] (hc : ¬ c) (h : A) : if (!decide c) = true then A else B := by
  rw [decide_eq_false hc]
  exact h
end Wb
/-! What is no table: the first fault of any plain data. -/
namespace Wb
open PySem L2
/-- a tuple of a number below n and one from 0 to 3 -/
def stepOk (d : PyData) (n : Int) : Bool := match d with
  | .tuple [a, b] => btw a 0 (n - 1) && btw b 0 3
  | _ => false
/-- a tuple of two or three steps -/
def rowOk (d : PyData) (n : Int) : Bool := match d with
  | .tuple ds => tupN d 2 3 && ds.all fun e => stepOk e n
  | _ => false
def scan (n : Int) (l : Nat) : List PyData → Nat → Option Nat
  | [], _ => none
  | d :: r, k => if rowOk d n = true ∧ (items d).length = l then scan n l r (k + 1) else some k
/-- none: a table; some none: no tuple of 1 to 6 things; some (some k): the k-th is no row -/
def fault (d : PyData) : Option (Option Nat) :=
  if tupN d 1 6 = true then (scan ((items d).length : Int) (items ((items d).getD 0 .none)).length (items d) 0).map some else some none
def faultD : Option Nat → PyData
  | none => .none
  | some k => .int (k : Int)
theorem btw_nat {d : PyData} {hi : Int} (h : btw d 0 hi = true) : ∃ k : Nat, d = .int (k : Int) ∧ (k : Int) ≤ hi := by
  cases d with
  | int i =>
    simp [btw] at h
    exact ⟨i.toNat, by rw [Int.toNat_of_nonneg h.1], by omega⟩
  | _ => simp [btw] at h
theorem stepOk_nat {d : PyData} {n : Nat} (h : stepOk d n = true) : ∃ s : Nat × Nat, d = stepD s ∧ s.1 < n ∧ s.2 ≤ 3 := by
  unfold stepOk at h
  split at h
  · rename_i a b
    rw [Bool.and_eq_true] at h
    obtain ⟨x, rfl, hx⟩ := btw_nat h.1
    obtain ⟨y, rfl, hy⟩ := btw_nat h.2
    exact ⟨(x, y), rfl, by show x < n; omega, by show y ≤ 3; omega⟩
  · cases h
theorem tupN_of {d : PyData} {lo hi : Int} (h : tupN d lo hi = true) : ∃ ds, d = .tuple ds ∧ lo ≤ (ds.length : Int) ∧ (ds.length : Int) ≤ hi := by
  cases d with
  | tuple ds => simp [tupN] at h; exact ⟨ds, rfl, h.1, h.2⟩
  | _ => simp [tupN] at h
theorem steps_nat {n : Nat} : ∀ {ds : List PyData}, (ds.all fun e => stepOk e n) = true → ∃ r : List (Nat × Nat), ds = r.map stepD ∧ ∀ s ∈ r, s.1 < n ∧ s.2 ≤ 3
  | [], _ => ⟨[], rfl, fun s h => by cases h⟩
  | d :: ds, h => by
    rw [List.all_cons, Bool.and_eq_true] at h
    obtain ⟨s, rfl, h1, h2⟩ := stepOk_nat h.1
    obtain ⟨r, rfl, hr⟩ := steps_nat h.2
    refine ⟨s :: r, rfl, fun x hx => ?_⟩
    rcases List.mem_cons.mp hx with rfl | hx
    · exact ⟨h1, h2⟩
    · exact hr x hx
theorem rowOk_nat {d : PyData} {n : Nat} (h : rowOk d n = true) : ∃ r : List (Nat × Nat), d = rowD r ∧ 2 ≤ r.length ∧ r.length ≤ 3 ∧ ∀ s ∈ r, s.1 < n ∧ s.2 ≤ 3 := by
  cases d with
  | tuple ds =>
    have h' : (tupN (.tuple ds) 2 3 && ds.all fun e => stepOk e n) = true := h
    rw [Bool.and_eq_true] at h'
    obtain ⟨es, e, l1, l2⟩ := tupN_of h'.1
    cases e
    obtain ⟨r, rfl, hr⟩ := steps_nat h'.2
    rw [List.length_map] at l1 l2
    exact ⟨r, rfl, by omega, by omega, hr⟩
  | _ => cases h
theorem scan_none {n l : Nat} : ∀ {ds : List PyData} {k : Nat}, scan n l ds k = none → ∃ t : Tab, ds = t.map rowD ∧ ∀ r ∈ t, r.length = l ∧ 2 ≤ r.length ∧ r.length ≤ 3 ∧ ∀ s ∈ r, s.1 < n ∧ s.2 ≤ 3
  | [], _, _ => ⟨[], rfl, fun r h => by cases h⟩
  | d :: ds, k, h => by
    unfold scan at h
    split at h
    · rename_i c
      obtain ⟨r, rfl, a, b, cc⟩ := rowOk_nat c.1
      obtain ⟨t, rfl, ht⟩ := scan_none h
      have el : r.length = l := by
        have := c.2
        simpa [items, rowD] using this
      refine ⟨r :: t, rfl, fun x hx => ?_⟩
      rcases List.mem_cons.mp hx with rfl | hx
      · exact ⟨el, a, b, cc⟩
      · exact ht x hx
    · cases h
theorem fault_none {d : PyData} (h : fault d = none) : ∃ (t : Tab) (n : Nat), d = tabD t ∧ Good t n := by
  unfold fault at h
  split at h
  · rename_i c
    obtain ⟨ds, rfl, l1, l2⟩ := tupN_of c
    have h' := Option.map_eq_none_iff.mp h
    obtain ⟨t, e, ht⟩ := scan_none h'
    have e' : ds = t.map rowD := e
    subst e'
    have lt : (t.map rowD).length = t.length := List.length_map _
    have lt2 : (items (.tuple (t.map rowD))).length = t.length := lt
    rw [lt] at l1 l2
    cases t with
    | nil => simp at l1
    | cons r0 t =>
      have h0 := ht r0 (by simp)
      refine ⟨r0 :: t, r0.length, rfl, by omega, by omega, h0.2.1, h0.2.2.1, fun r hr => ?_, fun r hr s hs => ?_⟩
      · rw [(ht r hr).1, h0.1]
      · have q := (ht r hr).2.2.2 s hs
        rw [lt2] at q
        exact q
  · cases h
theorem stepOk_good {s : Nat × Nat} {n : Nat} (h1 : s.1 < n) (h2 : s.2 ≤ 3) : stepOk (stepD s) n = true := by
  have e1 : ((s.1 : Nat) : Int) ≤ (n : Int) - 1 := by omega
  have e2 : ((s.2 : Nat) : Int) ≤ 3 := by omega
  simp [stepOk, stepD, btw, e1, e2]
theorem rowOk_good {t : Tab} {n : Nat} (g : Good t n) {r : List (Nat × Nat)} (hr : r ∈ t) : rowOk (rowD r) t.length = true := by
  have l := g.rows r hr
  have n2 := g.n2
  have n3 := g.n3
  have e1 : tupN (.tuple (r.map stepD)) 2 3 = true := by
    simp [tupN]
    omega
  show (tupN (.tuple (r.map stepD)) 2 3 && (r.map stepD).all fun e => stepOk e t.length) = true
  rw [e1, Bool.true_and, List.all_map, List.all_eq_true]
  intro s hs
  obtain ⟨a, b⟩ := g.steps r hr s hs
  exact stepOk_good a b
theorem scan_good {n l : Nat} : ∀ {t : Tab} {k : Nat}, (∀ r ∈ t, rowOk (rowD r) n = true ∧ r.length = l) → scan n l (t.map rowD) k = none
  | [], _, _ => rfl
  | r :: t, k, h => by
    have h0 := h r (by simp)
    show (if rowOk (rowD r) n = true ∧ (items (rowD r)).length = l then scan n l (t.map rowD) (k + 1) else some k) = none
    rw [if_pos ⟨h0.1, by simpa [items, rowD] using h0.2⟩]
    exact scan_good fun x hx => h x (by simp [hx])
theorem good_fault {t : Tab} {n : Nat} (g : Good t n) : fault (tabD t) = none := by
  have g1 := g.len1
  have g6 := g.len6
  have et : tupN (tabD t) 1 6 = true := by
    show (decide (1 ≤ ((t.map rowD).length : Int)) && decide (((t.map rowD).length : Int) ≤ 6)) = true
    rw [List.length_map, Bool.and_eq_true, decide_eq_true_eq, decide_eq_true_eq]
    omega
  unfold fault
  rw [if_pos et]
  have l0 : (items ((items (tabD t)).getD 0 .none)).length = n := by
    cases t with
    | nil => simp at g1
    | cons r t =>
      have := g.rows r (by simp)
      simpa [items, tabD, rowD] using this
  have ln : ((items (tabD t)).length : Int) = ((t.length : Nat) : Int) := by simp [items, tabD]
  rw [l0, ln]
  have q : scan (t.length : Int) n (t.map rowD) 0 = none := scan_good fun r hr => ⟨rowOk_good g hr, g.rows r hr⟩
  exact congrArg (Option.map some) q
end Wb
namespace Wb
open PySem L2
mutual
theorem fine_lay : ∀ (n : Nat) (d : PyData), fine n d → d.canLay0 = true ∧ d.depth ≤ n
  | 0, _, h => h.elim
  | n + 1, .none, _ => ⟨rfl, Nat.zero_le _⟩
  | n + 1, .bool _, _ => ⟨rfl, Nat.zero_le _⟩
  | n + 1, .int _, _ => ⟨rfl, Nat.zero_le _⟩
  | n + 1, .str x, h => by
    have h' : PyData.strOk x = true := h
    exact ⟨by simpa [PyData.canLay0] using h', Nat.zero_le _⟩
  | n + 1, .list ds, h => by
    obtain ⟨a, b⟩ := fine_layAll n ds h.2
    exact ⟨by simpa [PyData.canLay0] using a, by simp only [PyData.depth]; omega⟩
  | n + 1, .tuple ds, h => by
    obtain ⟨a, b⟩ := fine_layAll n ds h.2
    exact ⟨by simpa [PyData.canLay0] using a, by simp only [PyData.depth]; omega⟩
  | n + 1, .dict _, h => h.elim
theorem fine_layAll : ∀ (n : Nat) (ds : List PyData), (∀ e ∈ ds, fine n e) → PyData.canLayAll0 ds = true ∧ PyData.depthAll ds ≤ n
  | n, [], _ => ⟨rfl, Nat.zero_le _⟩
  | n, d :: ds, h => by
    obtain ⟨a, b⟩ := fine_lay n d (h d (by simp))
    obtain ⟨a2, b2⟩ := fine_layAll n ds fun e he => h e (by simp [he])
    exact ⟨by simp [PyData.canLayAll0, a, a2], by simp only [PyData.depthAll]; omega⟩
end
theorem fine_shaped {n : Nat} {d : PyData} (h : fine n d) (hn : n ≤ 60) : SeqAt.shaped d = true := by
  obtain ⟨a, b⟩ := fine_lay n d h
  unfold SeqAt.shaped
  rw [a, Bool.true_and, decide_eq_true_eq]
  omega
theorem in23 (n : Nat) : inV (.int (n : Int)) [.int 2, .int 3] = decide (n = 2 ∨ n = 3) := by
  by_cases h : n = 2
  · subst h; rfl
  · by_cases h3 : n = 3
    · subst h3; rfl
    · rw [decide_eq_false (by omega)]
      have e2 : ((n : Int) = 2) = False := by simp; omega
      have e3 : ((n : Int) = 3) = False := by simp; omega
      simp [inV, eqV]
      omega
end Wb
namespace Wb
open PySem L2
/-- no promise yet -/
def spNone : Sp := fun _ _ _ _ => False
def top (i : Nat) : Stmt := PySem.Challenge.pw_wroteback_k02_whole_written.main.body.getD i (.Pass ⟨0, 0, 0, 0⟩)
abbrev s_is_between : Stmt := top 7
abbrev n_is_between : List Str := ["value", "least", "most"]
theorem sc_is_between : FnScope n_is_between ["value", "least", "most"] (defScope s_is_between) := ⟨rfl, rfl, rfl, by decide +kernel, rfl, by decide +kernel, by decide +kernel⟩
abbrev s_is_tuple_of : Stmt := top 8
abbrev n_is_tuple_of : List Str := ["value", "least", "most"]
theorem sc_is_tuple_of : FnScope n_is_tuple_of ["value", "least", "most"] (defScope s_is_tuple_of) := ⟨rfl, rfl, rfl, by decide +kernel, rfl, by decide +kernel, by decide +kernel⟩
abbrev s_first_outside : Stmt := top 9
abbrev n_first_outside : List Str := ["things", "most", "index", "thing"]
theorem sc_first_outside : FnScope n_first_outside ["things", "most"] (defScope s_first_outside) := ⟨rfl, rfl, rfl, by decide +kernel, rfl, by decide +kernel, by decide +kernel⟩
abbrev s_is_step : Stmt := top 15
abbrev n_is_step : List Str := ["value", "stands"]
theorem sc_is_step : FnScope n_is_step ["value", "stands"] (defScope s_is_step) := ⟨rfl, rfl, rfl, by decide +kernel, rfl, by decide +kernel, by decide +kernel⟩
abbrev s_is_table_row : Stmt := top 16
abbrev n_is_table_row : List Str := ["value", "stands", "step"]
theorem sc_is_table_row : FnScope n_is_table_row ["value", "stands"] (defScope s_is_table_row) := ⟨rfl, rfl, rfl, by decide +kernel, rfl, by decide +kernel, by decide +kernel⟩
abbrev s_check_table : Stmt := top 17
abbrev n_check_table : List Str := ["table", "index", "row"]
theorem sc_check_table : FnScope n_check_table ["table"] (defScope s_check_table) := ⟨rfl, rfl, rfl, by decide +kernel, rfl, by decide +kernel, by decide +kernel⟩
abbrev s_Writer_init : Stmt := inClass (top 14) 0
abbrev n_Writer_init : List Str := ["self", "table"]
theorem sc_Writer_init : FnScope n_Writer_init ["self", "table"] (defScope s_Writer_init) := ⟨rfl, rfl, rfl, by decide +kernel, rfl, by decide +kernel, by decide +kernel⟩
abbrev s_Writer_table : Stmt := inClass (top 14) 1
abbrev n_Writer_table : List Str := ["self"]
theorem sc_Writer_table : FnScope n_Writer_table ["self"] (defScope s_Writer_table) := ⟨rfl, rfl, rfl, by decide +kernel, rfl, by decide +kernel, by decide +kernel⟩
abbrev s_Writer_letters : Stmt := inClass (top 14) 2
abbrev n_Writer_letters : List Str := ["self"]
theorem sc_Writer_letters : FnScope n_Writer_letters ["self"] (defScope s_Writer_letters) := ⟨rfl, rfl, rfl, by decide +kernel, rfl, by decide +kernel, by decide +kernel⟩
abbrev s_check_row : Stmt := top 18
abbrev n_check_row : List Str := ["writer", "row", "index"]
theorem sc_check_row : FnScope n_check_row ["writer", "row"] (defScope s_check_row) := ⟨rfl, rfl, rfl, by decide +kernel, rfl, by decide +kernel, by decide +kernel⟩
abbrev s_stands_of : Stmt := top 19
abbrev n_stands_of : List Str := ["writer", "row", "stands", "letter"]
theorem sc_stands_of : FnScope n_stands_of ["writer", "row"] (defScope s_stands_of) := ⟨rfl, rfl, rfl, by decide +kernel, rfl, by decide +kernel, by decide +kernel⟩
abbrev s_write_row : Stmt := top 20
abbrev n_write_row : List Str := ["writer", "row", "stands", "stand", "letter"]
theorem sc_write_row : FnScope n_write_row ["writer", "row"] (defScope s_write_row) := ⟨rfl, rfl, rfl, by decide +kernel, rfl, by decide +kernel, by decide +kernel⟩
abbrev s_law_mix : Stmt := top 22
abbrev n_law_mix : List Str := ["_law_script", "_law_seed", "_law_state", "_law_cell"]
theorem sc_law_mix : FnScope n_law_mix ["_law_script", "_law_seed"] (defScope s_law_mix) := ⟨rfl, rfl, rfl, by decide +kernel, rfl, by decide +kernel, by decide +kernel⟩
abbrev s_law_next : Stmt := top 23
abbrev n_law_next : List Str := ["_law_h", "_law_cap", "_law_cell"]
theorem sc_law_next : FnScope n_law_next ["_law_h", "_law_cap"] (defScope s_law_next) := ⟨rfl, rfl, rfl, by decide +kernel, rfl, by decide +kernel, by decide +kernel⟩
abbrev s_law_alike : Stmt := top 24
abbrev n_law_alike : List Str := ["_law_found", "_law_due", "_law_k"]
theorem sc_law_alike : FnScope n_law_alike ["_law_found", "_law_due"] (defScope s_law_alike) := ⟨rfl, rfl, rfl, by decide +kernel, rfl, by decide +kernel, by decide +kernel⟩
abbrev s_law_pick : Stmt := top 25
abbrev n_law_pick : List Str := ["_law_h", "_law_things"]
theorem sc_law_pick : FnScope n_law_pick ["_law_h", "_law_things"] (defScope s_law_pick) := ⟨rfl, rfl, rfl, by decide +kernel, rfl, by decide +kernel, by decide +kernel⟩
abbrev s_law_table : Stmt := top 26
abbrev n_law_table : List Str := ["_law_h", "_law_kind", "_law_letters", "_law_some", "_law_stand", "_law_letter", "_law_many", "_law_cap", "_law_rows", "_law_first", "_law_same", "_law_row_here", "_law_sign"]
theorem sc_law_table : FnScope n_law_table ["_law_h"] (defScope s_law_table) := ⟨rfl, rfl, rfl, by decide +kernel, rfl, by decide +kernel, by decide +kernel⟩
abbrev s_law_run : Stmt := top 27
abbrev n_law_run : List Str := ["_law_table_here", "_law_stand", "_law_row_here", "_law_stands", "_law_signs", "_law_letter", "_law_here"]
theorem sc_law_run : FnScope n_law_run ["_law_table_here", "_law_stand", "_law_row_here"] (defScope s_law_run) := ⟨rfl, rfl, rfl, by decide +kernel, rfl, by decide +kernel, by decide +kernel⟩
abbrev s_law_row : Stmt := top 28
abbrev n_law_row : List Str := ["_law_h", "_law_table_here", "_law_many", "_law_k"]
theorem sc_law_row : FnScope n_law_row ["_law_h", "_law_table_here", "_law_many"] (defScope s_law_row) := ⟨rfl, rfl, rfl, by decide +kernel, rfl, by decide +kernel, by decide +kernel⟩
abbrev s_law : Stmt := top 29
abbrev n_law : List Str := ["_law_script", "_law_h", "_law_turn", "_law_table_here", "_law_row_here", "_law_due"]
theorem sc_law : FnScope n_law ["_law_script"] (defScope s_law) := ⟨rfl, rfl, rfl, by decide +kernel, rfl, by decide +kernel, by decide +kernel⟩
/-- what stands behind the top, as the walk asks for it -/
structure Env (K : PySem.W.Frag) (mg : Str → Option Value) where
  f_is_between : Addr
  d_is_between : FuncData
  F_is_between : Fun K "is_between" "is_between" s_is_between f_is_between d_is_between
  b_is_between : Binds K d_is_between ["value", "least", "most"] []
  m_is_between : mg "is_between" = some (.ref f_is_between)
  f_is_tuple_of : Addr
  d_is_tuple_of : FuncData
  F_is_tuple_of : Fun K "is_tuple_of" "is_tuple_of" s_is_tuple_of f_is_tuple_of d_is_tuple_of
  b_is_tuple_of : Binds K d_is_tuple_of ["value", "least", "most"] []
  m_is_tuple_of : mg "is_tuple_of" = some (.ref f_is_tuple_of)
  f_first_outside : Addr
  d_first_outside : FuncData
  F_first_outside : Fun K "first_outside" "first_outside" s_first_outside f_first_outside d_first_outside
  b_first_outside : Binds K d_first_outside ["things", "most"] []
  m_first_outside : mg "first_outside" = some (.ref f_first_outside)
  f_is_step : Addr
  d_is_step : FuncData
  F_is_step : Fun K "_is_step" "_is_step" s_is_step f_is_step d_is_step
  b_is_step : Binds K d_is_step ["value", "stands"] []
  m_is_step : mg "_is_step" = some (.ref f_is_step)
  f_is_table_row : Addr
  d_is_table_row : FuncData
  F_is_table_row : Fun K "_is_table_row" "_is_table_row" s_is_table_row f_is_table_row d_is_table_row
  b_is_table_row : Binds K d_is_table_row ["value", "stands"] []
  m_is_table_row : mg "_is_table_row" = some (.ref f_is_table_row)
  f_check_table : Addr
  d_check_table : FuncData
  F_check_table : Fun K "_check_table" "_check_table" s_check_table f_check_table d_check_table
  b_check_table : Binds K d_check_table ["table"] []
  m_check_table : mg "_check_table" = some (.ref f_check_table)
  f_Writer_init : Addr
  d_Writer_init : FuncData
  F_Writer_init : Fun K "__init__" "Writer.__init__" s_Writer_init f_Writer_init d_Writer_init
  b_Writer_init : Binds K d_Writer_init ["self", "table"] []
  f_Writer_table : Addr
  d_Writer_table : FuncData
  F_Writer_table : Fun K "table" "Writer.table" s_Writer_table f_Writer_table d_Writer_table
  b_Writer_table : Binds K d_Writer_table ["self"] []
  f_Writer_letters : Addr
  d_Writer_letters : FuncData
  F_Writer_letters : Fun K "letters" "Writer.letters" s_Writer_letters f_Writer_letters d_Writer_letters
  b_Writer_letters : Binds K d_Writer_letters ["self"] []
  f_check_row : Addr
  d_check_row : FuncData
  F_check_row : Fun K "_check_row" "_check_row" s_check_row f_check_row d_check_row
  b_check_row : Binds K d_check_row ["writer", "row"] []
  m_check_row : mg "_check_row" = some (.ref f_check_row)
  f_stands_of : Addr
  d_stands_of : FuncData
  F_stands_of : Fun K "stands_of" "stands_of" s_stands_of f_stands_of d_stands_of
  b_stands_of : Binds K d_stands_of ["writer", "row"] []
  m_stands_of : mg "stands_of" = some (.ref f_stands_of)
  f_write_row : Addr
  d_write_row : FuncData
  F_write_row : Fun K "write_row" "write_row" s_write_row f_write_row d_write_row
  b_write_row : Binds K d_write_row ["writer", "row"] []
  m_write_row : mg "write_row" = some (.ref f_write_row)
  f_law_mix : Addr
  d_law_mix : FuncData
  F_law_mix : Fun K "_law_mix" "_law_mix" s_law_mix f_law_mix d_law_mix
  b_law_mix : Binds K d_law_mix ["_law_script", "_law_seed"] []
  m_law_mix : mg "_law_mix" = some (.ref f_law_mix)
  f_law_next : Addr
  d_law_next : FuncData
  F_law_next : Fun K "_law_next" "_law_next" s_law_next f_law_next d_law_next
  b_law_next : Binds K d_law_next ["_law_h", "_law_cap"] []
  m_law_next : mg "_law_next" = some (.ref f_law_next)
  f_law_alike : Addr
  d_law_alike : FuncData
  F_law_alike : Fun K "_law_alike" "_law_alike" s_law_alike f_law_alike d_law_alike
  b_law_alike : Binds K d_law_alike ["_law_found", "_law_due"] []
  m_law_alike : mg "_law_alike" = some (.ref f_law_alike)
  f_law_pick : Addr
  d_law_pick : FuncData
  F_law_pick : Fun K "_law_pick" "_law_pick" s_law_pick f_law_pick d_law_pick
  b_law_pick : Binds K d_law_pick ["_law_h", "_law_things"] []
  m_law_pick : mg "_law_pick" = some (.ref f_law_pick)
  f_law_table : Addr
  d_law_table : FuncData
  F_law_table : Fun K "_law_table" "_law_table" s_law_table f_law_table d_law_table
  b_law_table : Binds K d_law_table ["_law_h"] []
  m_law_table : mg "_law_table" = some (.ref f_law_table)
  f_law_run : Addr
  d_law_run : FuncData
  F_law_run : Fun K "_law_run" "_law_run" s_law_run f_law_run d_law_run
  b_law_run : Binds K d_law_run ["_law_table_here", "_law_stand", "_law_row_here"] []
  m_law_run : mg "_law_run" = some (.ref f_law_run)
  f_law_row : Addr
  d_law_row : FuncData
  F_law_row : Fun K "_law_row" "_law_row" s_law_row f_law_row d_law_row
  b_law_row : Binds K d_law_row ["_law_h", "_law_table_here", "_law_many"] []
  m_law_row : mg "_law_row" = some (.ref f_law_row)
  f_law : Addr
  d_law : FuncData
  F_law : Fun K "law" "law" s_law f_law d_law
  b_law : Binds K d_law ["_law_script"] []
  m_law : mg "law" = some (.ref f_law)
  c_Writer : Addr
  m_Writer : mg "Writer" = some (.ref c_Writer)
  cl_Writer : Cls K c_Writer
  mk_Writer : Mk K c_Writer f_Writer_init
  no_Writer_table : NoAttr K c_Writer "_table"
  p_Writer_table : Addr
  pr_Writer_table : PropOf K c_Writer "table" p_Writer_table f_Writer_table
  p_Writer_letters : Addr
  pr_Writer_letters : PropOf K c_Writer "letters" p_Writer_letters f_Writer_letters
  t_GREATEST_WRITTEN : Tok
  m_GREATEST_WRITTEN : mg "GREATEST_WRITTEN" = some (.int 3 t_GREATEST_WRITTEN)
  t_LEAST_LETTERS : Tok
  m_LEAST_LETTERS : mg "LEAST_LETTERS" = some (.int 2 t_LEAST_LETTERS)
  t_MOST_LETTERS : Tok
  m_MOST_LETTERS : mg "MOST_LETTERS" = some (.int 3 t_MOST_LETTERS)
  t_MOST_STANDS : Tok
  m_MOST_STANDS : mg "MOST_STANDS" = some (.int 6 t_MOST_STANDS)
  t_LONGEST : Tok
  m_LONGEST : mg "LONGEST" = some (.int 60 t_LONGEST)
  z_bool : mg "bool" = none
  z_int : mg "int" = none
  z_isinstance : mg "isinstance" = none
  z_len : mg "len" = none
  z_tuple : mg "tuple" = none
  z_enumerate : mg "enumerate" = none
  z_all : mg "all" = none
  z_zip : mg "zip" = none
  z_list : mg "list" = none
  z_max : mg "max" = none
  z_range : mg "range" = none
  z_str : mg "str" = none
/-- where the classes stand -/
def cls {K : PySem.W.Frag} {mg : Str → Option Value} (T : Env K mg) : Nat → Addr
  | 3 => T.c_Writer
  | _ => 0
end Wb
namespace Wb
open PySem L2
section
variable {P : Program} {w : World} {K : PySem.W.Frag} {mg : Str → Option Value} {base : Heap}
def spBetween (K : PySem.W.Frag) : Sp := fun vs H Q _ => ∃ (v : V) (d : PyData) (lo hi : Int), vs = [v, .int lo, .int hi] ∧ Dp K H v d ∧ Q (.bl (btw d lo hi)) H
theorem ok_is_between (T : Env K mg) : FnOk P w K mg base CX0 1 T.f_is_between T.d_is_between ["value", "least", "most"] (spBetween K) := by
  refine T.F_is_between.ok sc_is_between (fun vs H Q E h => ?_) (fun cdv A outer s H vs Q E hr h => ?_)
  · (obtain ⟨v, d, lo, hi, rfl, _⟩ := h; rfl)
  obtain ⟨v, d, lo, hi, rfl, hd, q⟩ := h
  refine ⟨_, (pss_one (ps_ret (pe_and (pe_callB (r := rIsi K) call_isi (by rfl) T.z_isinstance (by decide +kernel) (pa_cons (pv 0) (pa_cons (pe_bltn (v := .ty "int") (u := .type "int") (by rfl) T.z_int (by decide +kernel) rfl) pa_nil))) (pe_and (pe_not (pe_callB (r := rIsi K) call_isi (by rfl) T.z_isinstance (by decide +kernel) (pa_cons (pv 0) (pa_cons (pe_bltn (v := .ty "bool") (u := .type "bool") (by rfl) T.z_bool (by decide +kernel) rfl) pa_nil)))) (pe_one (pe_chain op_le op_le (pv 1) (pv 0) (pv 2))))))), ?_⟩
  refine ⟨_, rfl, _, _, _, _, _, rfl, .ty _, dp_ty hd, isA_eq (by simp), _, rfl, ?_⟩
  rw [isA_int]
  cases d with
  | int i =>
    refine iteT ⟨_, rfl, _, _, _, _, _, rfl, .ty _, dp_ty hd, isA_eq (by simp), _, rfl, _, rfl, ?_⟩
    rw [isA_bool]
    refine iteT ⟨_, rfl, v, rfl, lo, i, rfl, dp_int hd, _, rfl, ?_⟩
    have q' : Q (.bl (decide (lo ≤ i) && decide (i ≤ hi))) H := q
    refine ite2 (fun c => ?_) (fun c => ?_)
    · refine ⟨_, rfl, i, hi, dp_int hd, rfl, ?_⟩
      rw [c, Bool.true_and] at q'
      exact q'
    · rw [Bool.eq_false_iff.mpr c, Bool.false_and] at q'
      exact q'
  | bool b =>
    refine iteT ⟨_, rfl, _, _, _, _, _, rfl, .ty _, dp_ty hd, isA_eq (by simp), _, rfl, _, rfl, ?_⟩
    rw [isA_bool]
    exact iteF q
  | none => exact iteF q
  | str x => exact iteF q
  | list ds => exact iteF q
  | tuple ds => exact iteF q
  | dict ds => exact iteF q
end
end Wb
namespace Wb
open PySem L2
section
variable {P : Program} {w : World} {K : PySem.W.Frag} {mg : Str → Option Value} {base : Heap}
def spTuple (K : PySem.W.Frag) : Sp := fun vs H Q _ => ∃ (v : V) (d : PyData) (lo hi : Int), vs = [v, .int lo, .int hi] ∧ Dp K H v d ∧ Q (.bl (tupN d lo hi)) H
theorem ok_is_tuple_of (T : Env K mg) : FnOk P w K mg base CX0 1 T.f_is_tuple_of T.d_is_tuple_of ["value", "least", "most"] (spTuple K) := by
  refine T.F_is_tuple_of.ok sc_is_tuple_of (fun vs H Q E h => ?_) (fun cdv A outer s H vs Q E hr h => ?_)
  · (obtain ⟨v, d, lo, hi, rfl, _⟩ := h; rfl)
  obtain ⟨v, d, lo, hi, rfl, hd, q⟩ := h
  refine ⟨_, (pss_one (ps_ret (pe_and (pe_callB (r := rIsi K) call_isi (by rfl) T.z_isinstance (by decide +kernel) (pa_cons (pv 0) (pa_cons (pe_bltn (v := .ty "tuple") (u := .type "tuple") (by rfl) T.z_tuple (by decide +kernel) rfl) pa_nil))) (pe_one (pe_chain op_le op_le (pv 1) (pe_callB (r := rLenS K) call_lenS (by rfl) T.z_len (by decide +kernel) (pa_cons (pv 0) pa_nil)) (pv 2)))))), ?_⟩
  refine ⟨_, rfl, _, _, _, _, _, rfl, .ty _, dp_ty hd, isA_eq (by simp), _, rfl, ?_⟩
  rw [isA_tuple]
  cases d with
  | tuple ds =>
    obtain ⟨a, xs, rfl, hx, hA⟩ := dp_tup hd
    refine iteT ⟨_, rfl, _, rfl, a, xs, rfl, .inr hx, lo, _, rfl, rfl, _, rfl, ?_⟩
    have q' : Q (.bl (decide (lo ≤ (ds.length : Int)) && decide ((ds.length : Int) ≤ hi))) H := q
    rw [← dps_len hA] at q'
    refine ite2 (fun c => ?_) (fun c => ?_)
    · refine ⟨_, rfl, _, _, rfl, rfl, ?_⟩
      rw [c, Bool.true_and] at q'
      exact q'
    · rw [Bool.eq_false_iff.mpr c, Bool.false_and] at q'
      exact q'
  | int i => exact iteF q
  | bool b => exact iteF q
  | none => exact iteF q
  | str x => exact iteF q
  | list ds => exact iteF q
  | dict ds => exact iteF q
end
end Wb
namespace Wb
open PySem L2
section
variable {P : Program} {w : World} {K : PySem.W.Frag} {mg : Str → Option Value} {base : Heap}
/-- the place of the first thing that is no number from 0 to m -/
def firstBad : List PyData → Int → Nat → V
  | [], _, _ => .non
  | d :: r, m, k => if btw d 0 m = true then firstBad r m (k + 1) else .int (k : Int)
def spFirst (K : PySem.W.Frag) : Sp := fun vs H Q _ => ∃ (v : V) (ds : List PyData) (m : Int), vs = [v, .int m] ∧ Dp K H v (.tuple ds) ∧ ∀ H', Same H H' → Q (firstBad ds m 0) H'
theorem ok_first_outside (T : Env K mg) : FnOk P w K mg base CX0 2 T.f_first_outside T.d_first_outside ["things", "most"] (spFirst K) := by
  refine T.F_first_outside.ok sc_first_outside (fun vs H Q E h => ?_) (fun cdv A outer s H vs Q E hr h => ?_)
  · (obtain ⟨v, ds, m, rfl, _⟩ := h; rfl)
  obtain ⟨v, ds, m, rfl, hd, q⟩ := h
  obtain ⟨a, xs, rfl, hx, hA⟩ := dp_tup hd
  refine ⟨_, (pss_cons (ps_for PassesOwn.never rfl (pi_enumT (by rfl) T.z_enumerate (pa_cons (pv 0) pa_nil)) (pg_tup rfl (pgs_cons (pg_name (i := 2) sc_first_outside.nd rfl (Or.inl rfl)) (pgs_cons (pg_name (i := 3) sc_first_outside.nd rfl (Or.inl rfl)) pgs_nil)))
      (pss_one (ps_if (pt_not (pt_val (pe_call (ok_is_between T) (hr.mono (by decide)) rfl T.m_is_between T.F_is_between.kp T.b_is_between .nil pass0 (pa_cons (pv 3) (pa_cons pe_int (pa_cons (pv 1) pa_nil))))))
        (pss_one (ps_ret (pv 2)))
        pss_nil)))
    (pss_one (ps_ret pe_non))), ?_⟩
  refine ⟨_, rfl, a, xs, rfl, hx, for_it (walk_enumT (xs := xs)) (fun i σ H' => ∃ x y, σ = [some (.ref a), some (.int m), x, y] ∧ Same H H' ∧ firstBad ds m 0 = firstBad (ds.drop i) m i)
    ⟨_, _, rfl, Same.refl H, rfl⟩ (fun i σ H' hi p => ?_) (fun i x σ H1 H2 hi p y => ?_) (fun σ H' p => ?_)⟩
  · obtain ⟨_, _, _, s, _⟩ := p
    exact same_tup s hx
  · obtain ⟨x0, y0, rfl, s, e⟩ := p
    obtain ⟨b, k, u, rfl, hb, rfl, hk, hu⟩ := y
    have ek : k = V.int (i : Nat) := (Option.some.inj hk).symm
    subst ek
    obtain ⟨d, hd1, hd2⟩ := dps_getV hA hu
    have s2 := s.trans (same_new hb (.tup [.int (i : Nat), u]))
    refine ⟨b, _, rfl, SqT.of upd_same, rfl, _, _, rfl, _, _, rfl, rfl, ?_⟩
    refine ⟨_, rfl, _, rfl, _, d, 0, m, rfl, dp_same hd2 s2, _, rfl, ?_⟩
    rw [drop_cons hd1] at e
    cases hbt : btw d 0 m with
    | true =>
      refine iteF ⟨_, _, rfl, s2, ?_⟩
      rw [e, firstBad, if_pos hbt]
    | false =>
      refine iteT ⟨_, rfl, ?_⟩
      have e2 : firstBad ds m 0 = .int ((i : Nat) : Int) := by rw [e, firstBad, if_neg (by rw [hbt]; exact Bool.false_ne_true)]
      have q' := q _ s2
      rw [e2] at q'
      exact q'
  · obtain ⟨x0, y0, rfl, s, e⟩ := p
    rw [dps_len hA, List.drop_length] at e
    have e2 : firstBad ds m 0 = .non := e
    have q' := q _ s
    rw [e2] at q'
    exact q'
end
end Wb
namespace Wb
open PySem L2
section
variable {P : Program} {w : World} {K : PySem.W.Frag} {mg : Str → Option Value} {base : Heap}
theorem stepOk_no {d : PyData} {n : Int} (h : tupN d 2 2 = false) : stepOk d n = false := by
  unfold stepOk
  split
  · simp [tupN] at h
  · rfl
theorem tupN_two {d : PyData} (h : tupN d 2 2 = true) : ∃ a b, d = .tuple [a, b] := by
  cases d with
  | tuple ds =>
    match ds with
    | [a, b] => exact ⟨a, b, rfl⟩
    | [] => simp [tupN] at h
    | [a] => simp [tupN] at h
    | a :: b :: c :: r => simp [tupN] at h; omega
  | _ => simp [tupN] at h
def spStep (K : PySem.W.Frag) : Sp := fun vs H Q _ => ∃ (v : V) (d : PyData) (n : Int), vs = [v, .int n] ∧ Dp K H v d ∧ Q (.bl (stepOk d n)) H
theorem ok_is_step (T : Env K mg) : FnOk P w K mg base CX0 2 T.f_is_step T.d_is_step ["value", "stands"] (spStep K) := by
  refine T.F_is_step.ok sc_is_step (fun vs H Q E h => ?_) (fun cdv A outer s H vs Q E hr h => ?_)
  · (obtain ⟨v, d, n, rfl, _⟩ := h; rfl)
  obtain ⟨v, d, n, rfl, hd, q⟩ := h
  refine ⟨_, (pss_cons (ps_if (pt_not (pt_val (pe_call (ok_is_tuple_of T) (hr.mono (by decide)) rfl T.m_is_tuple_of T.F_is_tuple_of.kp T.b_is_tuple_of .nil pass0 (pa_cons (pv 0) (pa_cons pe_int (pa_cons pe_int pa_nil))))))
      (pss_one (ps_ret pe_bl))
      pss_nil)
    (pss_one (ps_ret (pe_and (pe_call (ok_is_between T) (hr.mono (by decide)) rfl T.m_is_between T.F_is_between.kp T.b_is_between .nil pass0 (pa_cons (pe_ix (r := rIxT K) ix_tup (pv 0) pe_int (fun _ _ => rfl)) (pa_cons pe_int (pa_cons (pe_op op_sub (pv 1) pe_int) pa_nil)))) (pe_one (pe_call (ok_is_between T) (hr.mono (by decide)) rfl T.m_is_between T.F_is_between.kp T.b_is_between .nil pass0 (pa_cons (pe_ix (r := rIxT K) ix_tup (pv 0) pe_int (fun _ _ => rfl)) (pa_cons pe_int (pa_cons (pe_glob (v := .int 3) rfl T.m_GREATEST_WRITTEN ⟨_, rfl⟩) pa_nil))))))))), ?_⟩
  refine ⟨_, rfl, v, d, 2, 2, rfl, hd, _, rfl, ?_⟩
  cases ht : tupN d 2 2 with
  | false =>
    rw [stepOk_no ht] at q
    exact iteT q
  | true =>
    obtain ⟨x, y, rfl⟩ := tupN_two ht
    obtain ⟨a, xs, rfl, hx, hA⟩ := dp_tup hd
    obtain ⟨u, h0, d0⟩ := dps_get hA (i := 0) rfl
    obtain ⟨u1, h1, d1⟩ := dps_get hA (i := 1) rfl
    refine iteF ⟨_, rfl, a, xs, _, u, rfl, rfl, hx, at_of (j := 0) rfl h0, _, rfl, _, _, rfl, rfl, u, x, 0, n - 1, rfl, d0, _, rfl, ?_⟩
    have q' : Q (.bl (btw x 0 (n - 1) && btw y 0 3)) H := q
    cases hb : btw x 0 (n - 1) with
    | true =>
      rw [hb, Bool.true_and] at q'
      exact iteT ⟨_, rfl, a, xs, _, u1, rfl, rfl, hx, at_of (j := 1) rfl h1, u1, y, 0, 3, rfl, d1, q'⟩
    | false =>
      rw [hb, Bool.false_and] at q'
      exact iteF q'
end
end Wb
namespace Wb
open PySem L2
section
variable {P : Program} {w : World} {K : PySem.W.Frag} {mg : Str → Option Value} {base : Heap}
theorem rowOk_no {d : PyData} {n : Int} (h : tupN d 2 3 = false) : rowOk d n = false := by
  cases d <;> simp [rowOk, h]
theorem tupN_tup {d : PyData} {lo hi : Int} (h : tupN d lo hi = true) : ∃ ds, d = .tuple ds ∧ lo ≤ (ds.length : Int) ∧ (ds.length : Int) ≤ hi := by
  cases d with
  | tuple ds => simp [tupN] at h; exact ⟨ds, rfl, h.1, h.2⟩
  | _ => simp [tupN] at h
def spRowOk (K : PySem.W.Frag) : Sp := fun vs H Q _ => ∃ (v : V) (d : PyData) (n : Int), vs = [v, .int n] ∧ Dp K H v d ∧ ∀ H', Same H H' → Q (.bl (rowOk d n)) H'
theorem ok_is_table_row (T : Env K mg) : FnOk P w K mg base CX0 3 T.f_is_table_row T.d_is_table_row ["value", "stands"] (spRowOk K) := by
  refine T.F_is_table_row.ok sc_is_table_row (fun vs H Q E h => ?_) (fun cdv A outer s H vs Q E hr h => ?_)
  · (obtain ⟨v, d, n, rfl, _⟩ := h; rfl)
  obtain ⟨v, d, n, rfl, hd, q⟩ := h
  refine ⟨_, (pss_cons (ps_if (pt_not (pt_val (pe_call (ok_is_tuple_of T) (hr.mono (by decide)) rfl T.m_is_tuple_of T.F_is_tuple_of.kp T.b_is_tuple_of .nil pass0 (pa_cons (pv 0) (pa_cons (pe_glob (v := .int 2) rfl T.m_LEAST_LETTERS ⟨_, rfl⟩) (pa_cons (pe_glob (v := .int 3) rfl T.m_MOST_LETTERS ⟨_, rfl⟩) pa_nil))))))
      (pss_one (ps_ret pe_bl))
      pss_nil)
    (pss_one (ps_ret (pe_callB (r := rAll K) (cr_all rfl) (by rfl) T.z_all (by decide +kernel) (pa_cons (pe_lc (own := [("step", 2)]) (g := gName 2) rfl sc_is_table_row.nd (pi_tup (pv 0)) (blkOk_by (own := [("step", 2)]) (N := n_is_table_row) (sc := defScope s_is_table_row) (by decide +kernel)) (fun _ _ _ _ _ => (pg_name (i := 2) sc_is_table_row.nd rfl (Or.inl rfl))) (fun _ _ _ _ _ => pts_nil) (fun _ _ _ _ _ => (pe_call (ok_is_step T) (hr.mono (by decide)) rfl T.m_is_step T.F_is_step.kp T.b_is_step .nil pass0 (pa_cons (pv 2) (pa_cons (pv 1) pa_nil))))) pa_nil))))), ?_⟩
  refine ⟨_, rfl, v, d, 2, 3, rfl, hd, _, rfl, ?_⟩
  cases ht : tupN d 2 3 with
  | false =>
    have q' := q H (Same.refl H)
    rw [rowOk_no ht] at q'
    exact iteT q'
  | true =>
    obtain ⟨ds, rfl, l1, l2⟩ := tupN_tup ht
    obtain ⟨a, xs, rfl, hx, hA⟩ := dp_tup hd
    have hl := dps_len hA
    refine iteF ⟨_, rfl, a, rfl, ⟨xs, hx⟩, fun D hD => lc_tup (K := K) (a := a) (xs := xs)
      (fun i H' => Same H H' ∧ H' D = some (.lst (((ds.take i).map fun e => stepOk e n).map V.bl))) ⟨same_new hD _, upd_same⟩ (fun i H' _ p => same_tup p.1 hx) (fun i x H' hi p => ?_) (fun H' p => ?_)⟩
    · obtain ⟨s, hDl⟩ := p
      obtain ⟨e, he, de⟩ := dps_getV hA hi
      have hlt := (List.getElem?_eq_some_iff.mp hi).1
      refine ⟨rfl, _, rfl, _, rfl, x, e, n, rfl, dp_same de s, _, hDl, ?_, ?_, ?_⟩
      · rw [List.length_map, List.length_map, List.length_take]
        exact small1000 (by omega)
      · exact fun b o hb => by
          rw [upd_ne (fun z => by subst z; rw [hD] at hb; cases hb)]
          exact s b o hb
      · rw [upd_same, take_snoc he, List.map_append, List.map_append]
        rfl
    · obtain ⟨s, hDl⟩ := p
      rw [hl, List.take_length] at hDl
      refine ⟨D, _, rfl, SqL.of hDl, ?_⟩
      have q' := q H' s
      have er : rowOk (.tuple ds) n = ds.all fun e => stepOk e n := by
        show (tupN (.tuple ds) 2 3 && ds.all fun e => stepOk e n) = _
        rw [ht, Bool.true_and]
      rw [er] at q'
      rw [List.all_map]
      exact q'
end
end Wb
namespace Wb
open PySem L2
section
variable {P : Program} {w : World} {K : PySem.W.Frag} {mg : Str → Option Value} {base : Heap}
def spTable (K : PySem.W.Frag) : Sp := fun vs H Q _ => ∃ (v : V) (t : Tab) (n : Nat), vs = [v] ∧ Dp K H v (tabD t) ∧ Good t n ∧ ∀ H', Same H H' → Q .non H'
theorem ok_check_table (T : Env K mg) : FnOk P w K mg base CX0 4 T.f_check_table T.d_check_table ["table"] (spTable K) := by
  refine T.F_check_table.ok sc_check_table (fun vs H Q E h => ?_) (fun cdv A outer s H vs Q E hr h => ?_)
  · (obtain ⟨v, t, n, rfl, _⟩ := h; rfl)
  obtain ⟨v, t, n, rfl, hd, g, q⟩ := h
  refine ⟨_, (pss_cons (ps_if (pt_not (pt_val (pe_call (ok_is_tuple_of T) (hr.mono (by decide)) rfl T.m_is_tuple_of T.F_is_tuple_of.kp T.b_is_tuple_of .nil pass0 (pa_cons (pv 0) (pa_cons pe_int (pa_cons (pe_glob (v := .int 6) rfl T.m_MOST_STANDS ⟨_, rfl⟩) pa_nil))))))
      (pss_one ps_never)
      pss_nil)
    (pss_one (ps_for PassesOwn.never rfl (pi_enumT (by rfl) T.z_enumerate (pa_cons (pv 0) pa_nil)) (pg_tup rfl (pgs_cons (pg_name (i := 1) sc_check_table.nd rfl (Or.inl rfl)) (pgs_cons (pg_name (i := 2) sc_check_table.nd rfl (Or.inl rfl)) pgs_nil)))
      (pss_one (ps_if (PW.pt (pw_or (pt_not (pt_val (pe_call (ok_is_table_row T) (hr.mono (by decide)) rfl T.m_is_table_row T.F_is_table_row.kp T.b_is_table_row .nil pass0 (pa_cons (pv 2) (pa_cons (pe_callB (r := rLenS K) call_lenS (by rfl) T.z_len (by decide +kernel) (pa_cons (pv 0) pa_nil)) pa_nil))))) (pw_or1 (pt_cmpR op_ne (pe_callB (r := rLenS K) call_lenS (by rfl) T.z_len (by decide +kernel) (pa_cons (pv 2) pa_nil)) (pe_callB (r := rLenS K) call_lenS (by rfl) T.z_len (by decide +kernel) (pa_cons (pe_ix (r := rIxT K) ix_tup (pv 0) pe_int (fun _ _ => rfl)) pa_nil)) (nomark _)))))
        (pss_one ps_never)
        pss_nil))))), ?_⟩
  have g1 := g.len1
  have g6 := g.len6
  have et : tupN (tabD t) 1 6 = true := by
    show (decide (1 ≤ ((t.map rowD).length : Int)) && decide (((t.map rowD).length : Int) ≤ 6)) = true
    rw [List.length_map, Bool.and_eq_true, decide_eq_true_eq, decide_eq_true_eq]
    omega
  refine ⟨_, rfl, v, tabD t, 1, 6, rfl, hd, _, rfl, ?_⟩
  rw [et]
  obtain ⟨a, xs, rfl, hx, hA⟩ := dp_tup hd
  have hl : xs.length = t.length := by rw [dps_len hA, List.length_map]
  refine iteF ⟨_, rfl, a, xs, rfl, hx, for_it (walk_enumT (xs := xs)) (fun i σ H' => ∃ x y, σ = [some (.ref a), x, y] ∧ Same H H')
    ⟨_, _, rfl, Same.refl H⟩ (fun i σ H' hi p => ?_) (fun i x σ H1 H2 hi p y => ?_) (fun σ H' p => ?_)⟩
  · obtain ⟨_, _, _, s⟩ := p
    exact same_tup s hx
  · obtain ⟨x0, y0, rfl, s⟩ := p
    obtain ⟨b, k, u, rfl, hb, rfl, hk, hu⟩ := y
    have ek : k = V.int (i : Nat) := (Option.some.inj hk).symm
    subst ek
    have s2 := s.trans (same_new hb (.tup [.int (i : Nat), u]))
    have hi' : i < t.length := by omega
    obtain ⟨p0, xs0, u0, e0, hx0, hu0, du0, _⟩ := tab_row hd hi'
    cases e0
    obtain ⟨p1, xs1, u1, e1, hx1, hu1, du1, _⟩ := tab_row hd (s := 0) (by omega)
    cases e1
    obtain ⟨d, hd1, hd2⟩ := dps_getV hA hu
    have ed : d = rowD (t.getD i []) := by
      rw [List.getElem?_map, List.getElem?_eq_getElem hi'] at hd1
      rw [List.getD, List.getElem?_eq_getElem hi']
      exact (Option.some.inj hd1).symm
    subst ed
    obtain ⟨hm, hn⟩ := g.row hi'
    obtain ⟨hm0, hn0⟩ := g.row (s := 0) (by omega)
    refine ⟨b, _, rfl, SqT.of upd_same, rfl, _, _, rfl, _, _, rfl, rfl, ?_⟩
    refine ⟨_, rfl, _, rfl, a, xs, rfl, .inr (same_tup s2 hx), u, rowD (t.getD i []), (t.length : Int), (by rw [hl]; rfl), dp_same hd2 s2, fun H3 s3 => ⟨_, rfl, ?_⟩⟩
    rw [rowOk_good g hm]
    obtain ⟨pr, xr, rfl, hxr, hAr⟩ := dp_tup (dp_same (dp_same hd2 s2) s3)
    obtain ⟨pf, xf, rfl, hxf, hAf⟩ := dp_tup (dp_same (dp_same du1 s2) s3)
    have lr : xr.length = n := by rw [dps_len hAr, List.length_map]; exact hn
    have lf : xf.length = n := by rw [dps_len hAf, List.length_map]; exact hn0
    refine iteF ⟨_, rfl, pr, xr, rfl, .inr hxr, _, rfl, a, xs1, _, _, rfl, rfl, same_tup s3 (same_tup s2 hx1), at_of (j := 0) rfl hu1, pf, xf, rfl, .inr hxf, rfl, _, rfl, ?_⟩
    rw [lr, lf, decide_eq_true rfl]
    exact iteF ⟨_, _, rfl, s2.trans s3⟩
  · obtain ⟨x0, y0, rfl, s⟩ := p
    exact q H' s
end
end Wb
namespace Wb
open PySem L2
section
variable {P : Program} {w : World} {K : PySem.W.Frag} {mg : Str → Option Value} {base : Heap}
def spInit (K : PySem.W.Frag) (C : Addr) : Sp := fun vs H Q _ => ∃ (p dx : Addr) (v : V) (t : Tab) (n : Nat), vs = [.ref p, v] ∧ H p = some (.ins C dx []) ∧ Dp K H v (tabD t) ∧ Good t n ∧
  ∀ H', WrAt C H' p v → (∀ b o, H b = some o → b ≠ p → H' b = some o) → Q .non H'
theorem ok_Writer_init (T : Env K mg) : FnOk P w K mg base CX0 5 T.f_Writer_init T.d_Writer_init ["self", "table"] (spInit K T.c_Writer) := by
  refine T.F_Writer_init.ok sc_Writer_init (fun vs H Q E h => ?_) (fun cdv A outer s H vs Q E hr h => ?_)
  · (obtain ⟨p, dx, v, t, n, rfl, _⟩ := h; rfl)
  obtain ⟨p, dx, v, t, n, rfl, hp, hd, g, q⟩ := h
  refine ⟨_, (pss_cons (ps_expr (pe_call (ok_check_table T) (hr.mono (by decide)) rfl T.m_check_table T.F_check_table.kp T.b_check_table .nil pass0 (pa_cons (pv 1) pa_nil)))
    (pss_one (ps_fld (pv 0) (pv 1) rfl))), ?_⟩
  refine ⟨_, rfl, v, t, n, rfl, hd, g, fun H' s => ?_⟩
  refine ⟨_, rfl, _, rfl, p, T.c_Writer, dx, [], rfl, s _ _ hp, T.cl_Writer, T.no_Writer_table, (by show 0 < 1000; decide), ?_⟩
  refine q _ ⟨dx, upd_same⟩ fun b o hb n => ?_
  rw [upd_ne n]
  exact s b o hb
end
end Wb
namespace Wb
open PySem L2
section
variable {P : Program} {w : World} {K : PySem.W.Frag} {mg : Str → Option Value} {base : Heap}
def spWTable (C : Addr) : Sp := fun vs H Q _ => ∃ (a : Addr) (v : V), vs = [.ref a] ∧ WrAt C H a v ∧ Q v H
theorem ok_Writer_table (T : Env K mg) : FnOk P w K mg base CX0 1 T.f_Writer_table T.d_Writer_table ["self"] (spWTable T.c_Writer) := by
  refine T.F_Writer_table.ok sc_Writer_table (fun vs H Q E h => ?_) (fun cdv A outer s H vs Q E hr h => ?_)
  · (obtain ⟨a, v, rfl, _⟩ := h; rfl)
  obtain ⟨a, v, rfl, ⟨dx, ha⟩, q⟩ := h
  refine ⟨_, (pss_one (ps_ret (pe_fld (pv 0) rfl))), ?_⟩
  exact ⟨_, rfl, a, T.c_Writer, dx, _, v, rfl, ha, T.cl_Writer, T.no_Writer_table, rfl, q⟩
end
end Wb
namespace Wb
open PySem L2
section
variable {P : Program} {w : World} {K : PySem.W.Frag} {mg : Str → Option Value} {base : Heap}
def spWLetters (K : PySem.W.Frag) (C : Addr) : Sp := fun vs H Q _ => ∃ (a : Addr) (v : V) (t : Tab) (n : Nat), vs = [.ref a] ∧ WrAt C H a v ∧ Dp K H v (tabD t) ∧ Good t n ∧ Q (.int (n : Int)) H
theorem ok_Writer_letters (T : Env K mg) : FnOk P w K mg base CX0 1 T.f_Writer_letters T.d_Writer_letters ["self"] (spWLetters K T.c_Writer) := by
  refine T.F_Writer_letters.ok sc_Writer_letters (fun vs H Q E h => ?_) (fun cdv A outer s H vs Q E hr h => ?_)
  · (obtain ⟨a, v, t, n, rfl, _⟩ := h; rfl)
  obtain ⟨a, v, t, n, rfl, ⟨dx, ha⟩, hd, g, q⟩ := h
  refine ⟨_, (pss_one (ps_ret (pe_callB (r := rLenS K) call_lenS (by rfl) T.z_len (by decide +kernel) (pa_cons (pe_ix (r := rIxT K) ix_tup (pe_fld (pv 0) rfl) pe_int (fun _ _ => rfl)) pa_nil)))), ?_⟩
  obtain ⟨p, xs, u, rfl, hx, hu, du, _⟩ := tab_row hd (s := 0) (by have := g.len1; omega)
  obtain ⟨pr, xr, rfl, hxr, hAr⟩ := dp_tup du
  obtain ⟨hm0, hn0⟩ := g.row (s := 0) (by have := g.len1; omega)
  have lr : xr.length = n := by rw [dps_len hAr, List.length_map]; exact hn0
  refine ⟨_, rfl, a, T.c_Writer, dx, _, .ref p, rfl, ha, T.cl_Writer, T.no_Writer_table, rfl, p, xs, _, _, rfl, rfl, hx, at_of (j := 0) rfl hu, pr, xr, rfl, .inr hxr, ?_⟩
  rw [lr]
  exact q
end
end Wb
namespace Wb
open PySem L2
section
variable {P : Program} {w : World} {K : PySem.W.Frag} {mg : Str → Option Value} {base : Heap}
theorem firstBad_none {n : Nat} : ∀ {r : List Nat} {k : Nat}, (∀ a ∈ r, a < n) → firstBad (r.map fun a : Nat => PyData.int (a : Int)) ((n : Int) - 1) k = .non
  | [], _, _ => rfl
  | a :: r, k, h => by
    have ha := h a (by simp)
    have e : btw (.int (a : Int)) 0 ((n : Int) - 1) = true := by
      have e1 : ((a : Nat) : Int) ≤ (n : Int) - 1 := by omega
      simp [btw, e1]
    show (if btw (.int (a : Int)) 0 ((n : Int) - 1) = true then firstBad (r.map fun a : Nat => PyData.int (a : Int)) ((n : Int) - 1) (k + 1) else .int (k : Int)) = .non
    rw [if_pos e]
    exact firstBad_none fun b hb => h b (by simp [hb])
def intsD (r : List Nat) : PyData := .tuple (r.map fun a : Nat => PyData.int (a : Int))
/-- a writer and a row of its letters -/
structure WR (K : PySem.W.Frag) (C : Addr) (H : Hp) (a : Addr) (v rv : V) (t : Tab) (n : Nat) (r : List Nat) : Prop where
  w : WrAt C H a v
  d : Dp K H v (tabD t)
  g : Good t n
  row : Dp K H rv (intsD r)
  l : r.length ≤ 60
  a : ∀ x ∈ r, x < n
theorem WR.same {K : PySem.W.Frag} {C : Addr} {H H' : Hp} {a : Addr} {v rv : V} {t : Tab} {n : Nat} {r : List Nat} (h : WR K C H a v rv t n r) (s : Same H H') : WR K C H' a v rv t n r :=
  ⟨h.w.same s, dp_same h.d s, h.g, dp_same h.row s, h.l, h.a⟩
def spCheckRow (K : PySem.W.Frag) (C : Addr) : Sp := fun vs H Q _ => ∃ (a : Addr) (v rv : V) (t : Tab) (n : Nat) (r : List Nat), vs = [.ref a, rv] ∧ WR K C H a v rv t n r ∧ ∀ H', Same H H' → Q .non H'
theorem ok_check_row (T : Env K mg) : FnOk P w K mg base CX0 3 T.f_check_row T.d_check_row ["writer", "row"] (spCheckRow K T.c_Writer) := by
  refine T.F_check_row.ok sc_check_row (fun vs H Q E h => ?_) (fun cdv A outer s H vs Q E hr h => ?_)
  · (obtain ⟨a, v, rv, t, n, r, rfl, _⟩ := h; rfl)
  obtain ⟨a, v, rv, t, n, r, rfl, W, q⟩ := h
  refine ⟨_, (pss_cons (ps_if (pt_not (pt_val (pe_call (ok_is_tuple_of T) (hr.mono (by decide)) rfl T.m_is_tuple_of T.F_is_tuple_of.kp T.b_is_tuple_of .nil pass0 (pa_cons (pv 1) (pa_cons pe_int (pa_cons (pe_glob (v := .int 60) rfl T.m_LONGEST ⟨_, rfl⟩) pa_nil))))))
      (pss_one ps_never)
      pss_nil)
    (pss_cons (ps_set (i := 2) sc_check_row.nd rfl (Or.inl rfl) (pe_call (ok_first_outside T) (hr.mono (by decide)) rfl T.m_first_outside T.F_first_outside.kp T.b_first_outside .nil pass0 (pa_cons (pv 1) (pa_cons (pe_op op_sub (pe_prop (pv 0) T.cl_Writer T.pr_Writer_letters (ok_Writer_letters T) (hr.mono (by decide)) T.b_Writer_letters .nil pass0 rfl) pe_int) pa_nil))))
    (pss_one (ps_if (pt_cmpR op_notN (pv 2) pe_non (nomark _))
      (pss_one ps_never)
      pss_nil)))), ?_⟩
  have et : tupN (intsD r) 0 60 = true := by
    have hl := W.l
    show (decide (0 ≤ ((r.map fun a : Nat => PyData.int (a : Int)).length : Int)) && decide (((r.map fun a : Nat => PyData.int (a : Int)).length : Int) ≤ 60)) = true
    rw [List.length_map, Bool.and_eq_true, decide_eq_true_eq, decide_eq_true_eq]
    omega
  obtain ⟨dx, hw⟩ := id W.w
  refine ⟨_, rfl, rv, intsD r, 0, 60, rfl, W.row, _, rfl, ?_⟩
  rw [et]
  refine iteF ⟨_, rfl, _, rfl, a, dx, _, rfl, hw, a, v, t, n, rfl, W.w, W.d, W.g, _, _, rfl, rfl, rv, _, (n : Int) - 1, rfl, W.row, fun H' s => ?_⟩
  rw [firstBad_none W.a]
  exact ⟨_, rfl, rfl, _, rfl, q H' s⟩
end
end Wb
namespace Wb
open PySem L2
section
variable {P : Program} {w : World} {K : PySem.W.Frag} {mg : Str → Option Value} {base : Heap}
theorem ints_get {K : PySem.W.Frag} {H : Hp} {rv : V} {r : List Nat} (h : Dp K H rv (intsD r)) : ∃ a, rv = .ref a ∧ SqT K H a (r.map fun a : Nat => V.int (a : Int)) := by
  obtain ⟨a, xs, rfl, hx, hA⟩ := dp_tup h
  rw [dps_ofNats hA] at hx
  exact ⟨a, rfl, hx⟩
theorem at_end {l : List V} {x : V} : atI (l ++ [x]) (-1) = some x := atI_last l x
def natL (r : List Nat) : List V := r.map fun a : Nat => V.int (a : Int)
theorem natL_len (r : List Nat) : (natL r).length = r.length := List.length_map _
theorem natL_app (r s : List Nat) : natL (r ++ s) = natL r ++ natL s := List.map_append
theorem natL_get {r : List Nat} {i : Nat} {x : V} (h : (natL r)[i]? = some x) : ∃ a, r[i]? = some a ∧ x = .int (a : Int) := by
  unfold natL at h
  rw [List.getElem?_map] at h
  cases e : r[i]? with
  | none => rw [e] at h; cases h
  | some a => rw [e] at h; exact ⟨a, rfl, (Option.some.inj h).symm⟩
def spStands (K : PySem.W.Frag) (C : Addr) : Sp := fun vs H Q _ => ∃ (a : Addr) (v rv : V) (t : Tab) (n : Nat) (r : List Nat), vs = [.ref a, rv] ∧ WR K C H a v rv t n r ∧
  ∀ p H', Same H H' → H' p = some (.lst (natL (runS t 0 r))) → Q (.ref p) H'
theorem ok_stands_of (T : Env K mg) : FnOk P w K mg base CX0 4 T.f_stands_of T.d_stands_of ["writer", "row"] (spStands K T.c_Writer) := by
  refine T.F_stands_of.ok sc_stands_of (fun vs H Q E h => ?_) (fun cdv A outer s H vs Q E hr h => ?_)
  · (obtain ⟨a, v, rv, t, n, r, rfl, _⟩ := h; rfl)
  obtain ⟨a, v, rv, t, n, r, rfl, W, q⟩ := h
  obtain ⟨ra, rfl, hr0⟩ := ints_get W.row
  refine ⟨_, (pss_cons (ps_expr (pe_call (ok_check_row T) (hr.mono (by decide)) rfl T.m_check_row T.F_check_row.kp T.b_check_row .nil pass0 (pa_cons (pv 0) (pa_cons (pv 1) pa_nil))))
    (pss_cons (ps_set (i := 2) sc_stands_of.nd rfl (Or.inl rfl) (pe_lst (pa_cons pe_int pa_nil)))
    (pss_cons (ps_for PassesOwn.never rfl (pi_tup (pv 1)) (pg_name (i := 3) sc_stands_of.nd rfl (Or.inl rfl))
      (pss_one (ps_expr (pe_bm PySem.F.plainAttrs_list PySem.F.slot_list_append PySem.F.type_list_append mt_append (pv 2) (pa_cons (pe_ix (r := rIxT K) ix_tup (pe_ix (r := rIxT K) ix_tup (pe_ix (r := rIxT K) ix_tup (pe_prop (pv 0) T.cl_Writer T.pr_Writer_table (ok_Writer_table T) (hr.mono (by decide)) T.b_Writer_table .nil pass0 rfl) (pe_ix (r := rIxL K) ix_list (pv 2) (pe_un un_neg pe_int) (fun _ _ => rfl)) (fun _ _ => rfl)) (pv 3) (fun _ _ => rfl)) pe_int (fun _ _ => rfl)) pa_nil)))))
    (pss_one (ps_ret (pv 2)))))), ?_⟩
  refine ⟨_, rfl, _, rfl, a, v, .ref ra, t, n, r, rfl, W, fun H1 s1 => ⟨(by show 1 ≤ sizeLine; decide), fun p hp => ?_⟩⟩
  have sp1 : Same H (upd H1 p (.lst [.int 0])) := s1.trans (same_new hp _)
  refine ⟨_, rfl, ra, rfl, ⟨_, same_tup sp1 hr0⟩, for_tup (xs := natL r) (fun i σ H' => ∃ y, σ = [some (.ref a), some (.ref ra), some (.ref p), y] ∧ Same H H' ∧ H' p = some (.lst (natL (runS t 0 (r.take i)))))
    ⟨_, rfl, sp1, upd_same⟩ (fun i σ H' _ z => ?_) (fun i x σ H' hi z => ?_) (fun σ H' z => ?_)⟩
  · obtain ⟨y, _, s, _⟩ := z
    exact same_tup s hr0
  · obtain ⟨y, rfl, s, hl⟩ := z
    obtain ⟨b, hb, rfl⟩ := natL_get hi
    obtain ⟨l0, e0, el⟩ := runS_end t (r.take i) 0
    have hin : b < n := W.a b (List.mem_of_getElem? hb)
    have hs : endS t 0 (r.take i) < t.length := endS_lt W.g _ _ (by have := W.g.len1; omega) fun x hx => W.a x (List.mem_of_mem_take hx)
    obtain ⟨p0, xs0, q0, ys0, r0, ev, h0, h1, h2, h3, h4⟩ := tab_get (dp_same W.d s) W.g hs hin
    subst ev
    have hil : i < r.length := (List.getElem?_eq_some_iff.mp hb).1
    refine ⟨_, rfl, .inl ⟨rfl, _, SqL.of hl⟩, ?_⟩
    refine ⟨_, rfl, a, _, _, rfl, (s _ _ W.w.choose_spec), a, .ref p0, rfl, W.w.same s, _, rfl, _, rfl, p, _, _, _, rfl, rfl, SqL.of hl, ?_, p0, xs0, _, _, rfl, rfl, h0, at_of (j := endS t 0 (r.take i)) rfl h1, _, rfl, q0, ys0, _, _, rfl, rfl, h2, at_of (j := b) rfl h3,
      r0, _, _, _, rfl, rfl, h4, at_of (j := 0) rfl rfl, p, _, _, rfl, rfl, hl, ?_, _, rfl, ?_, ?_⟩
    · rw [e0, natL_app]
      exact at_end
    · rw [natL_len, runS_len, List.length_take]
      exact small1000 (by have := W.l; omega)
    · exact fun c o hc => by
        rw [upd_ne (fun z => by subst z; rw [s1.free hp] at hc; cases hc)]
        exact s c o hc
    · rw [upd_same, take_snoc hb, runS_snoc, endS_snoc, natL_app]
      rfl
  · obtain ⟨y, rfl, s, hl⟩ := z
    rw [natL_len, List.take_length] at hl
    exact ⟨_, rfl, q p H' s hl⟩
end
end Wb
namespace Wb
open PySem L2
section
variable {P : Program} {w : World} {K : PySem.W.Frag} {mg : Str → Option Value} {base : Heap}
def spWrite (K : PySem.W.Frag) (C : Addr) : Sp := fun vs H Q _ => ∃ (a : Addr) (v rv : V) (t : Tab) (n : Nat) (r : List Nat), vs = [.ref a, rv] ∧ WR K C H a v rv t n r ∧
  ∀ p H', Same H H' → H' p = some (.tup (natL (runW t 0 r))) → Q (.ref p) H'
theorem ok_write_row (T : Env K mg) : FnOk P w K mg base CX0 5 T.f_write_row T.d_write_row ["writer", "row"] (spWrite K T.c_Writer) := by
  refine T.F_write_row.ok sc_write_row (fun vs H Q E h => ?_) (fun cdv A outer s H vs Q E hr h => ?_)
  · (obtain ⟨a, v, rv, t, n, r, rfl, _⟩ := h; rfl)
  obtain ⟨a, v, rv, t, n, r, rfl, W, q⟩ := h
  obtain ⟨ra, rfl, hr0⟩ := ints_get W.row
  refine ⟨_, (pss_cons (ps_set (i := 2) sc_write_row.nd rfl (Or.inl rfl) (pe_call (ok_stands_of T) (hr.mono (by decide)) rfl T.m_stands_of T.F_stands_of.kp T.b_stands_of .nil pass0 (pa_cons (pv 0) (pa_cons (pv 1) pa_nil))))
    (pss_one (ps_ret (pe_callTy (r := rTupOf K) call_tupS (by rfl) T.z_tuple (by decide +kernel) (pa_cons (pe_lc (own := [("stand", 3), ("letter", 4)]) (g := gTup K 2 (gCons (gName 3) (gCons (gName 4) gNil))) rfl sc_write_row.nd (pi_zipM (by rfl) T.z_zip (pa_cons (pv 2) (pa_cons (pv 1) pa_nil))) (blkOk_by (own := [("stand", 3), ("letter", 4)]) (N := n_write_row) (sc := defScope s_write_row) (by decide +kernel)) (fun _ _ _ _ _ => (pg_tup rfl (pgs_cons (pg_name (i := 3) sc_write_row.nd rfl (Or.inl rfl)) (pgs_cons (pg_name (i := 4) sc_write_row.nd rfl (Or.inl rfl)) pgs_nil)))) (fun _ _ _ _ _ => pts_nil) (fun _ _ _ _ _ => (pe_ix (r := rIxT K) ix_tup (pe_ix (r := rIxT K) ix_tup (pe_ix (r := rIxT K) ix_tup (pe_prop (pv 0) T.cl_Writer T.pr_Writer_table (ok_Writer_table T) (hr.mono (by decide)) T.b_Writer_table .nil pass0 rfl) (pv 3) (fun _ _ => rfl)) (pv 4) (fun _ _ => rfl)) pe_int (fun _ _ => rfl)))) pa_nil))))), ?_⟩
  refine ⟨_, rfl, _, rfl, a, v, .ref ra, t, n, r, rfl, W, fun p H1 s1 hp => ?_⟩
  refine ⟨_, rfl, _, rfl, p, ra, _, _, rfl, SqL.of hp, same_tup s1 hr0, fun D hD => lc_it (walk_zipM (n := r.length) (xs := natL (runS t 0 r)) (ys := natL r) (by rw [natL_len, natL_len, runS_len]; omega))
    (fun i H' => Same H1 H' ∧ H' D = some (.lst (natL (runW t 0 (r.take i))))) ⟨same_new hD _, upd_same⟩ (fun i H' _ z => ⟨z.1.seq (SqL.of hp), same_tup z.1 (same_tup s1 hr0)⟩) (fun i x H' H2 hi z y => ?_) (fun H' z => ?_)⟩
  · obtain ⟨s, hl⟩ := z
    obtain ⟨b, k, u, rfl, hb, rfl, hk, hu⟩ := y
    obtain ⟨st, hst, rfl⟩ := natL_get hk
    obtain ⟨c, hc, rfl⟩ := natL_get hu
    have est : st = endS t 0 (r.take i) := by
      rw [runS_get t r 0 i (by omega)] at hst
      exact (Option.some.inj hst).symm
    subst est
    have s2 := (s1.trans s).trans (same_new hb (.tup [.int (endS t 0 (r.take i) : Int), .int (c : Int)]))
    have hin : c < n := W.a c (List.mem_of_getElem? hc)
    have hs : endS t 0 (r.take i) < t.length := endS_lt W.g _ _ (by have := W.g.len1; omega) fun x hx => W.a x (List.mem_of_mem_take hx)
    obtain ⟨p0, xs0, q0, ys0, r0, ev, h0, h1, h2, h3, h4⟩ := tab_get (dp_same W.d s2) W.g hs hin
    subst ev
    have hbD : b ≠ D := fun z => by subst z; rw [hl] at hb; cases hb
    refine ⟨b, _, rfl, SqT.of upd_same, rfl, _, _, rfl, _, _, rfl, rfl, rfl, ?_⟩
    refine ⟨_, rfl, a, _, _, rfl, (s2 _ _ W.w.choose_spec), a, .ref p0, rfl, W.w.same s2, _, rfl, p0, xs0, _, _, rfl, rfl, h0, at_of (j := endS t 0 (r.take i)) rfl h1, _, rfl, q0, ys0, _, _, rfl, rfl, h2, at_of (j := c) rfl h3,
      r0, _, _, _, rfl, rfl, h4, at_of (j := 1) rfl rfl, _, (upd_ne hbD.symm).trans hl, ?_, ?_, ?_⟩
    · rw [natL_len, runW_len, List.length_take]
      exact small1000 (by have := W.l; omega)
    · exact fun e o he => by
        rw [upd_ne (fun z => by subst z; rw [hD] at he; cases he)]
        exact (s.trans (same_new hb _)) e o he
    · rw [upd_same, take_snoc hc, runW_snoc, natL_app]
      rfl
  · obtain ⟨s, hl⟩ := z
    rw [List.take_length] at hl
    refine ⟨D, _, rfl, .inl ⟨SqL.of hl, fun l hl2 => ?_⟩⟩
    exact q l _ ((s1.trans s).trans (same_new hl2 _)) upd_same
end
end Wb
namespace Wb
open PySem L2
section
variable {P : Program} {w : World} {K : PySem.W.Frag} {mg : Str → Option Value} {base : Heap}
def spMix (K : PySem.W.Frag) : Sp := fun vs H Q _ => ∃ (a : Addr) (ns : List Int) (sd : Int), vs = [.ref a, .int sd] ∧ SqL K H a (ns.map V.int) ∧ ns.length ≤ 63 ∧
  ∀ h l H', Same H H' → H h = none → H l = none → Src h l H' → Q (.ref h) H'
theorem ok_law_mix (T : Env K mg) : FnOk P w K mg base CX0 1 T.f_law_mix T.d_law_mix ["_law_script", "_law_seed"] (spMix K) := by
  refine T.F_law_mix.ok sc_law_mix (fun vs H Q E h => ?_) (fun cdv A outer s H vs Q E hr h => ?_)
  · (obtain ⟨a, ns, sd, rfl, _⟩ := h; rfl)
  obtain ⟨a, ns, sd, rfl, hS, hl, q⟩ := h
  refine ⟨_, (pss_cons (ps_set (i := 2) sc_law_mix.nd rfl (Or.inl rfl) (pv 1))
    (pss_cons (ps_for PassesOwn.never rfl (pi_list (pv 0)) (pg_name (i := 3) sc_law_mix.nd rfl (Or.inl rfl))
      (pss_one (ps_set (i := 2) sc_law_mix.nd rfl (Or.inl rfl) (pe_op op_mod (pe_callTy call_int1 (by rfl) T.z_int (by decide +kernel) (pa_cons (pe_op op_add (pe_op op_add (pe_op op_mul (pv 2) pe_int) (pe_op op_mod (pe_callTy call_int1 (by rfl) T.z_int (by decide +kernel) (pa_cons (pv 3) pa_nil)) pe_int)) pe_int) pa_nil)) pe_int))))
    (pss_one (ps_ret (pe_lst (pa_cons (pv 2) (pa_cons (pe_callTy (r := rListOf K) call_listS (by rfl) T.z_list (by decide +kernel) (pa_cons (pv 0) pa_nil)) (pa_cons pe_int pa_nil)))))))), ?_⟩
  refine ⟨_, rfl, ?_⟩
  refine ⟨_, rfl, a, rfl, ⟨_, hS⟩, for_list (K := K) (a := a) (xs := ns.map V.int) (fun i σ H' => (∃ (st : Int) (y : Option V), σ = [some (.ref a), some (.int sd), some (.int st), y]) ∧ H' = H)
    ⟨⟨_, _, rfl⟩, rfl⟩ (fun i σ H' _ z => z.2 ▸ hS) (fun i x σ H' hi z => ?_) (fun σ H' z => ?_)⟩
  · obtain ⟨⟨st, y, rfl⟩, rfl⟩ := z
    obtain ⟨n, hn, rfl⟩ : ∃ n, ns[i]? = some n ∧ x = .int n := by
      rw [List.getElem?_map] at hi
      cases e : ns[i]? with
      | none => rw [e] at hi; cases hi
      | some n => rw [e] at hi; exact ⟨n, rfl, (Option.some.inj hi).symm⟩
    exact ⟨_, rfl, _, _, rfl, rfl, .inr ⟨by decide, by decide⟩, _, rfl, .inl ⟨_, rfl, _, _, rfl, rfl, (by show (0 : Int) < _; decide), _, _, rfl, rfl, _, _, rfl, rfl, .inl ⟨_, rfl, _, _, rfl, rfl, (by show (0 : Int) < _; decide), ⟨_, _, rfl⟩, rfl⟩⟩⟩
  · obtain ⟨⟨st, y, rfl⟩, rfl⟩ := z
    refine ⟨_, rfl, _, rfl, a, _, rfl, .inl hS, fun l hl2 => ⟨(by show 3 ≤ sizeLine; decide), fun h hh => ?_⟩⟩
    have ne : h ≠ l := fun e => by subst e; rw [upd_same] at hh; cases hh
    have hh0 : H' h = none := by rw [upd_ne ne] at hh; exact hh
    refine q h l _ ((same_new hl2 _).trans (same_new hh _)) hh0 hl2 ⟨ne, st, 0, ns, upd_same, ?_, hl⟩
    rw [upd_ne ne.symm]
    exact upd_same
end
end Wb
namespace Wb
open PySem L2
section
variable {P : Program} {w : World} {K : PySem.W.Frag} {mg : Str → Option Value} {base : Heap}
theorem mod_nat {i j : Int} (h : 0 < j) : ∃ k : Nat, i % j = (k : Int) ∧ (k : Int) < j :=
  ⟨(i % j).toNat, (Int.toNat_of_nonneg (Int.emod_nonneg i (by omega))).symm, by
    have a := Int.emod_lt_of_pos i h
    have b := Int.emod_nonneg i (show j ≠ 0 by omega)
    omega⟩
def spNext : Sp := fun vs H Q _ => ∃ (h l : Addr) (cap : Int), vs = [.ref h, .int cap] ∧ Src h l H ∧ 0 < cap ∧ cap < 1073741824 ∧
  ∀ (r : Nat) H', (r : Int) < cap → Src h l H' → Old h l H H' → Q (.int (r : Int)) H'
theorem cells_get (cs : List Int) {k : Nat} (h : k < cs.length + 1) : ∃ c : Int, (cs.map V.int ++ [V.int 0])[k]? = some (.int c) ∧ (cs.length ≤ k → c = 0) := by
  by_cases hk : k < cs.length
  · exact ⟨cs[k], by rw [List.getElem?_append_left (by simpa using hk), List.getElem?_map, List.getElem?_eq_getElem hk]; rfl, fun z => absurd hk (by omega)⟩
  · have e : k = (cs.map V.int).length := by rw [List.length_map]; omega
    exact ⟨0, by rw [e]; exact List.getElem?_concat_length .., fun _ => rfl⟩
theorem ok_law_next (T : Env K mg) : FnOk P w K mg base CX0 1 T.f_law_next T.d_law_next ["_law_h", "_law_cap"] (spNext) := by
  refine T.F_law_next.ok sc_law_next (fun vs H Q E h => ?_) (fun cdv A outer s H vs Q E hr h => ?_)
  · (obtain ⟨h, l, cap, rfl, _⟩ := h; rfl)
  obtain ⟨h, l, cap, rfl, ⟨ne, st, ix, cs, hh, hl, h63⟩, cp, cm, q⟩ := h
  refine ⟨_, (pss_cons (ps_set (i := 2) sc_law_next.nd rfl (Or.inl rfl) (pe_ix (r := rIxL K) ix_list (pe_op op_cat (pe_ix (r := rIxL K) ix_list (pv 0) pe_int (fun _ _ => rfl)) (pe_lst (pa_cons pe_int pa_nil))) (pe_op op_mod (pe_callTy call_int1 (by rfl) T.z_int (by decide +kernel) (pa_cons (pe_ix (r := rIxL K) ix_list (pv 0) pe_int (fun _ _ => rfl)) pa_nil)) (pe_callB (call_max2 rfl) (by rfl) T.z_max (by decide +kernel) (pa_cons pe_int (pa_cons (pe_callB (r := rLenS K) call_lenS (by rfl) T.z_len (by decide +kernel) (pa_cons (pe_ix (r := rIxL K) ix_list (pv 0) pe_int (fun _ _ => rfl)) pa_nil)) pa_nil)))) (fun _ _ => rfl)))
    (pss_cons (ps_if (pt_cmpR op_ge (pv 2) (pe_op op_pow pe_int pe_int) (nomark _))
      (pss_cons (ps_asg (pe_op op_fdiv (pv 2) (pv 1)) (pg_sub (pe_ix (r := rIxL K) ix_list (pv 0) pe_int (fun _ _ => rfl)) (pe_op op_mod (pe_callTy call_int1 (by rfl) T.z_int (by decide +kernel) (pa_cons (pe_ix (r := rIxL K) ix_list (pv 0) pe_int (fun _ _ => rfl)) pa_nil)) (pe_callB (r := rLenS K) call_lenS (by rfl) T.z_len (by decide +kernel) (pa_cons (pe_ix (r := rIxL K) ix_list (pv 0) pe_int (fun _ _ => rfl)) pa_nil))) set_list))
      (pss_one (ps_ret (pe_op op_mod (pe_callTy call_int1 (by rfl) T.z_int (by decide +kernel) (pa_cons (pv 2) pa_nil)) (pv 1)))))
      pss_nil)
    (pss_cons (ps_asg (pe_op op_mod (pe_callTy call_int1 (by rfl) T.z_int (by decide +kernel) (pa_cons (pe_op op_add (pe_op op_add (pe_op op_mul (pe_ix (r := rIxL K) ix_list (pv 0) pe_int (fun _ _ => rfl)) pe_int) (pe_op op_mul (pv 2) pe_int)) pe_int) pa_nil)) pe_int) (pg_sub (pv 0) pe_int set_list))
    (pss_cons (ps_asg (pe_op op_add (pe_ix (r := rIxL K) ix_list (pv 0) pe_int (fun _ _ => rfl)) pe_int) (pg_sub (pv 0) pe_int set_list))
    (pss_one (ps_ret (pe_op op_mod (pe_callTy call_int1 (by rfl) T.z_int (by decide +kernel) (pa_cons (pe_op op_fdiv (pe_ix (r := rIxL K) ix_list (pv 0) pe_int (fun _ _ => rfl)) pe_int) pa_nil)) (pv 1)))))))), ?_⟩
  -- what is drawn from: the two new lists
  refine ⟨_, rfl, h, _, _, _, rfl, rfl, SqL.of hh, at_of (j := 1) rfl rfl, (by show 1 ≤ sizeLine; decide), fun p1 n1 => ?_⟩
  have ne1 : l ≠ p1 := ne_of_none hl n1
  have nh1 : h ≠ p1 := ne_of_none hh n1
  have s1 := same_new n1 (.lst [V.int 0])
  refine ⟨l, p1, _, _, rfl, rfl, s1 _ _ hl, upd_same, (by rw [List.length_map]; exact Nat.le_of_lt (small1000 (by show cs.length + 1 ≤ 1000; omega))), fun p2 n2 => ?_⟩
  have s2 := s1.trans (same_new n2 (.lst (cs.map V.int ++ [V.int 0])))
  have hh2 := s2 _ _ hh
  have hl2 := s2 _ _ hl
  have nh2 : p2 ≠ h := (ne_of_none (s1 _ _ hh) n2).symm
  have nl2 : p2 ≠ l := (ne_of_none (s1 _ _ hl) n2).symm
  have cl : (cs.map V.int).length = cs.length := List.length_map _
  obtain ⟨m, em, m1, m2⟩ : ∃ m : Int, (if ((cs.map V.int).length : Int) > 1 then ((cs.map V.int).length : Int) else 1) = m ∧ 0 < m ∧ m ≤ (cs.length : Int) + 1 ∧ (0 < cs.length → m = (cs.length : Int)) := by
    rw [cl]
    by_cases h1 : (cs.length : Int) > 1
    · exact ⟨_, by rw [if_pos h1], by omega, by omega, by omega⟩
    · exact ⟨_, by rw [if_neg h1], by omega, by omega, by omega⟩
  obtain ⟨m2, m3⟩ := m2
  obtain ⟨k, ek, hk⟩ := mod_nat (i := ix) m1
  obtain ⟨c, hc, hc0⟩ := cells_get cs (k := k) (by omega)
  refine ⟨_, rfl, h, _, _, _, rfl, rfl, SqL.of hh2, at_of (j := 2) rfl rfl, .inl ⟨_, rfl, _, rfl, h, _, _, _, rfl, rfl, SqL.of hh2, at_of (j := 1) rfl rfl, l, _, rfl, .inl (SqL.of hl2), _, _, rfl, _, _, rfl, rfl, (by rw [em]; exact m1),
    p2, _, _, _, rfl, rfl, SqL.of upd_same, at_of (j := k) (by rw [em]; exact ek) hc, ?_⟩⟩
  -- is the cell great?
  refine ⟨_, rfl, _, _, rfl, rfl, ⟨by decide, by decide, by decide⟩, _, _, rfl, rfl, _, rfl, ?_⟩
  refine ite2 (fun big => ?_) (fun small => ?_)
  · have big' : (10 : Int) ^ (18 : Int).toNat ≤ c := of_decide_eq_true big
    have pos : 0 < cs.length := by
      rcases Nat.eq_zero_or_pos cs.length with z | z
      · have := hc0 (by omega)
        rw [this] at big'
        exact absurd big' (by decide)
      · exact z
    have km : k < cs.length := by have := m3 pos; omega
    refine ⟨_, rfl, _, rfl, _, _, rfl, rfl, ⟨cp, cm⟩, _, rfl, h, _, _, _, rfl, rfl, SqL.of hh2, at_of (j := 1) rfl rfl, _, rfl, h, _, _, _, rfl, rfl, SqL.of hh2, at_of (j := 2) rfl rfl, .inl ⟨_, rfl, _, rfl, h, _, _, _, rfl, rfl, SqL.of hh2, at_of (j := 1) rfl rfl,
      l, _, rfl, .inl (SqL.of hl2), _, _, rfl, rfl, (by rw [cl]; omega), l, _, _, k, rfl, rfl, hl2, ?_, ?_⟩⟩
    · rw [cl, ← m3 pos, ek]
      unfold ixN
      rw [if_pos (by omega), if_pos (by have := m3 pos; omega), Int.toNat_natCast]
    · obtain ⟨r, er, hr⟩ := mod_nat (i := c) cp
      refine ⟨_, rfl, .inl ⟨_, rfl, _, rfl, _, _, rfl, rfl, cp, ?_⟩⟩
      show Q (V.int (c % cap)) _
      rw [er]
      refine q r _ hr ⟨ne, st, ix, cs.set k (c / cap), ?_, ?_, by rw [List.length_set]; exact h63⟩ fun b o hb bh bl => ?_
      · rw [upd_ne ne]
        exact hh2
      · rw [upd_same, List.map_set]
      · rw [upd_ne bl]
        exact s2 _ _ hb
  · refine ⟨_, rfl, h, _, _, _, rfl, rfl, SqL.of hh2, at_of (j := 0) rfl rfl, _, _, rfl, rfl, .inr ⟨by decide, by decide⟩, _, rfl, _, _, rfl, rfl, .inr ⟨by decide, by decide⟩, _, _, rfl, rfl, _, _, rfl, rfl, .inl ⟨_, rfl, _, _, rfl, rfl, (by show (0 : Int) < _; decide), _, rfl,
      h, _, _, 0, rfl, rfl, hh2, rfl, ?_⟩⟩
    have hh3 : ∀ o, (upd (upd (upd H p1 (.lst [V.int 0])) p2 (.lst (cs.map V.int ++ [V.int 0]))) h o) h = some o := fun o => upd_same
    refine ⟨_, rfl, h, _, _, _, rfl, rfl, SqL.of upd_same, at_of (j := 2) rfl rfl, _, _, rfl, rfl, _, rfl, h, _, _, 2, rfl, rfl, upd_same, rfl, ?_⟩
    obtain ⟨r, er, hr⟩ := mod_nat (i := ((st * 48271 + c * 69621 + 11) % 2147483647) / 7) cp
    refine ⟨_, rfl, h, _, _, _, rfl, rfl, SqL.of upd_same, at_of (j := 0) rfl rfl, _, _, rfl, rfl, ⟨by decide, by decide⟩, .inl ⟨_, rfl, _, rfl, _, _, rfl, rfl, cp, ?_⟩⟩
    show Q (V.int (((st * 48271 + c * 69621 + 11) % 2147483647) / 7 % cap)) _
    rw [er]
    refine q r _ hr ⟨ne, _, _, cs, upd_same, ?_, h63⟩ fun b o hb bh bl => ?_
    · rw [upd_ne ne.symm, upd_ne ne.symm]
      exact hl2
    · rw [upd_ne bh, upd_ne bh]
      exact s2 _ _ hb
end
end Wb
namespace Wb
open PySem L2
section
variable {P : Program} {w : World} {K : PySem.W.Frag} {mg : Str → Option Value} {base : Heap}
def spAlike (K : PySem.W.Frag) (n : Nat) : Sp := fun vs H Q _ => ∃ (v u : V) (d : PyData), vs = [v, u] ∧ Dp K H v d ∧ Dp K H u d ∧ fine n d ∧ ∀ H', Same H H' → Q (.bl true) H'
theorem alike_step (T : Env K mg) {n : Nat} (G : FnOk P w K mg base CX0 n T.f_law_alike T.d_law_alike ["_law_found", "_law_due"] (spAlike K n)) : FnOk P w K mg base CX0 (n + 1) T.f_law_alike T.d_law_alike ["_law_found", "_law_due"] (spAlike K (n + 1)) := by
  refine T.F_law_alike.ok sc_law_alike (fun vs H Q E h => ?_) (fun cdv A outer s H vs Q E hr h => ?_)
  · obtain ⟨v, u, d, rfl, _⟩ := h
    rfl
  obtain ⟨v, u, d, rfl, hv, hu, hf, q⟩ := h
  refine ⟨_, (pss_cons (ps_if (pt_val (pe_callB (r := rIsiT K) call_isiT (by rfl) T.z_isinstance (by decide +kernel) (pa_cons (pv 1) (pa_cons (pe_tup (pa_cons (pe_bltn (v := .ty "tuple") (u := .type "tuple") (by rfl) T.z_tuple (by decide +kernel) rfl) (pa_cons (pe_bltn (v := .ty "list") (u := .type "list") (by rfl) T.z_list (by decide +kernel) rfl) pa_nil))) pa_nil))))
      (pss_cons (ps_if (PW.pt (pw_or (pt_not (pt_val (pe_callB (r := rIsiT K) call_isiT (by rfl) T.z_isinstance (by decide +kernel) (pa_cons (pv 0) (pa_cons (pe_tup (pa_cons (pe_bltn (v := .ty "tuple") (u := .type "tuple") (by rfl) T.z_tuple (by decide +kernel) rfl) (pa_cons (pe_bltn (v := .ty "list") (u := .type "list") (by rfl) T.z_list (by decide +kernel) rfl) pa_nil))) pa_nil))))) (pw_or1 (pt_cmpR op_ne (pe_callB (r := rIsi K) call_isi (by rfl) T.z_isinstance (by decide +kernel) (pa_cons (pv 0) (pa_cons (pe_bltn (v := .ty "list") (u := .type "list") (by rfl) T.z_list (by decide +kernel) rfl) pa_nil))) (pe_callB (r := rIsi K) call_isi (by rfl) T.z_isinstance (by decide +kernel) (pa_cons (pv 1) (pa_cons (pe_bltn (v := .ty "list") (u := .type "list") (by rfl) T.z_list (by decide +kernel) rfl) pa_nil))) (nomark _)))))
        (pss_one (ps_ret pe_bl))
        pss_nil)
      (pss_cons (ps_if (pt_cmpR op_ne (pe_callB (r := rLenS K) call_lenS (by rfl) T.z_len (by decide +kernel) (pa_cons (pv 0) pa_nil)) (pe_callB (r := rLenS K) call_lenS (by rfl) T.z_len (by decide +kernel) (pa_cons (pv 1) pa_nil)) (nomark _))
        (pss_one (ps_ret pe_bl))
        pss_nil)
      (pss_one (ps_ret (pe_cmpR (r := rEqD K) (op_eqD hr.units) (pe_lc (own := [("_law_k", 2)]) (g := gName 2) rfl sc_law_alike.nd (pi_range1 rfl T.z_range (pa_cons (pe_callB (r := rLenS K) call_lenS (by rfl) T.z_len (by decide +kernel) (pa_cons (pv 1) pa_nil)) pa_nil)) (blkOk_by (own := [("_law_k", 2)]) (N := n_law_alike) (sc := defScope s_law_alike) (by decide +kernel)) (fun _ _ _ _ _ => (pg_name (i := 2) sc_law_alike.nd rfl (Or.inl rfl))) (fun _ _ _ _ _ => pts_one (pt_not (pt_val (pe_call (G) hr rfl T.m_law_alike T.F_law_alike.kp T.b_law_alike .nil pass0 (pa_cons (pe_ix (r := rIx K) ix_seq (pv 0) (pv 2) (fun _ _ => rfl)) (pa_cons (pe_ix (r := rIx K) ix_seq (pv 1) (pv 2) (fun _ _ => rfl)) pa_nil)))))) (fun _ _ _ _ _ => (pv 2))) (pe_lst pa_nil) (nomark _))))))
      pss_nil)
    (pss_cons (ps_if (PW.pt (pw_or (pt_cmpR op_isN (pv 1) pe_non (nomark _)) (pw_or1 (pt_val (pe_callB (r := rIsi K) call_isi (by rfl) T.z_isinstance (by decide +kernel) (pa_cons (pv 1) (pa_cons (pe_bltn (v := .ty "str") (u := .type "str") (by rfl) T.z_str (by decide +kernel) rfl) pa_nil)))))))
      (pss_one (ps_ret (pe_and (pe_cmpR (r := rEqD K) (op_eqD hr.units) (pv 0) (pv 1) (nomark _)) (pe_one (pe_cmpR op_eq (pe_callB (r := rIsi K) call_isi (by rfl) T.z_isinstance (by decide +kernel) (pa_cons (pv 0) (pa_cons (pe_bltn (v := .ty "str") (u := .type "str") (by rfl) T.z_str (by decide +kernel) rfl) pa_nil))) (pe_callB (r := rIsi K) call_isi (by rfl) T.z_isinstance (by decide +kernel) (pa_cons (pv 1) (pa_cons (pe_bltn (v := .ty "str") (u := .type "str") (by rfl) T.z_str (by decide +kernel) rfl) pa_nil))) (nomark _))))))
      pss_nil)
    (pss_one (ps_ret (pe_and (pe_callB (r := rIsi K) call_isi (by rfl) T.z_isinstance (by decide +kernel) (pa_cons (pv 0) (pa_cons (pe_bltn (v := .ty "int") (u := .type "int") (by rfl) T.z_int (by decide +kernel) rfl) pa_nil))) (pe_and (pe_cmpR op_eq (pe_callB (r := rIsi K) call_isi (by rfl) T.z_isinstance (by decide +kernel) (pa_cons (pv 0) (pa_cons (pe_bltn (v := .ty "bool") (u := .type "bool") (by rfl) T.z_bool (by decide +kernel) rfl) pa_nil))) (pe_callB (r := rIsi K) call_isi (by rfl) T.z_isinstance (by decide +kernel) (pa_cons (pv 1) (pa_cons (pe_bltn (v := .ty "bool") (u := .type "bool") (by rfl) T.z_bool (by decide +kernel) rfl) pa_nil))) (nomark _)) (pe_one (pe_cmpR (r := rEqD K) (op_eqD hr.units) (pv 0) (pv 1) (nomark _))))))))), ?_⟩
  refine ⟨_, rfl, (by show 2 ≤ sizeLine; decide), fun t1 n1 => ?_⟩
  have s1 := same_new n1 (.tup [V.ty "tuple", V.ty "list"])
  refine ⟨u, t1, _, _, _, _, rfl, upd_same, .cons (.ty _) (.cons (.ty _) .nil), dp_ty (dp_same hu s1), isSeq_eq, _, rfl, ?_⟩
  cases hsq : isSeq d with
  | true =>
    refine iteT ⟨_, rfl, (by show 2 ≤ sizeLine; decide), fun t2 n2 => ?_⟩
    have s2 := s1.trans (same_new n2 (.tup [V.ty "tuple", V.ty "list"]))
    refine ⟨v, t2, _, _, _, _, rfl, upd_same, .cons (.ty _) (.cons (.ty _) .nil), dp_ty (dp_same hv s2), isSeq_eq, _, rfl, ?_⟩
    rw [hsq]
    have hv2 := dp_same hv s2
    have hu2 := dp_same hu s2
    obtain ⟨a, xs, rfl, ha, hA⟩ := dp_seq hv2 hsq
    obtain ⟨b, ys, rfl, hb, hB⟩ := dp_seq hu2 hsq
    have la := dps_len hA
    have lb := dps_len hB
    refine iteF ⟨_, rfl, _, _, _, _, _, rfl, .ty _, dp_ty hv2, isA_eq (by simp), _, rfl, _, _, _, _, _, rfl, .ty _, dp_ty hu2, isA_eq (by simp), rfl, _, rfl, ?_⟩
    refine iteNS rfl ?_
    refine ⟨_, rfl, a, xs, rfl, ha, _, rfl, b, ys, rfl, hb, rfl, _, rfl, iteNS (by rw [la, lb]) ?_⟩
    -- the places where they are not alike: none
    have sz : ys.length ≤ 1000 := by have := fine_len hf; omega
    refine ⟨_, rfl, b, ys, rfl, hb, _, rfl, ?_, ?_, fun D hD => lc_range (lo := 0) (n := ((ys.length : Nat) : Int).toNat) (fun i H' => Same H H' ∧ Same (upd (upd H t1 (.tup [V.ty "tuple", V.ty "list"])) t2 (.tup [V.ty "tuple", V.ty "list"])) H' ∧ H' D = some (.lst []))
      ⟨s2.trans (same_new hD _), same_new hD _, upd_same⟩ (fun i H' hi z => ?_) (fun H' z => ?_)⟩
    · exact Int.le_trans (by decide) (Int.natCast_nonneg _)
    · exact Int.lt_of_le_of_lt (Int.ofNat_le.mpr sz) (by decide)
    · obtain ⟨z1, z2, z3⟩ := z
      have hi' : i < ys.length := by omega
      obtain ⟨e, he⟩ : ∃ e, (items d)[i]? = some e := ⟨(items d)[i]'(by omega), List.getElem?_eq_getElem _⟩
      obtain ⟨x, hx, dx⟩ := dps_get hA he
      obtain ⟨y, hy, dy⟩ := dps_get hB he
      have hz : ((0 : Int) + (i : Nat)) = ((i : Nat) : Int) := by omega
      exact ⟨rfl, _, rfl, _, rfl, rd_ixseq (seq_same ha z2) (at_of (j := i) hz hx) ⟨_, rfl, _, rfl, rd_ixseq (seq_same hb z2) (at_of (j := i) hz hy) ⟨x, y, e, rfl, dp_same dx z2, dp_same dy z2, fine_item hf he, fun H3 s3 => ⟨_, rfl, z1.trans s3, z2.trans s3, s3 _ _ z3⟩⟩⟩⟩
    · obtain ⟨z1, z2, z3⟩ := z
      refine ⟨(by show 0 ≤ sizeLine; decide), fun p hp => ⟨.list [], .list [], .lst (SqL.of ((same_new hp _) _ _ z3)) .nil, .lst (SqL.of upd_same) .nil, rfl, rfl, ?_⟩⟩
      exact q _ (z1.trans (same_new hp _))
  | false =>
    have hv1 := dp_same hv s1
    have hu1 := dp_same hu s1
    have q1 := q _ s1
    cases d with
    | none =>
      cases hv1
      cases hu1
      refine iteF ⟨_, rfl, rfl, _, rfl, ⟨_, rfl, _, rfl, .none, .none, .non, .non, rfl, rfl, _, rfl, ?_⟩⟩
      exact ⟨_, rfl, _, _, _, _, _, rfl, .ty _, dp_ty .non, isA_eq (d := .none) (by simp), _, rfl, _, _, _, _, _, rfl, .ty _, dp_ty .non, isA_eq (d := .none) (by simp), rfl, by rw [decide_eq_true rfl]; exact q1⟩
    | str x =>
      have hx : PyData.strOk x = true := hf
      have sh : SeqAt.shaped (.str x) = true := by simp [SeqAt.shaped, PyData.canLay0, hx, PyData.depth]
      have er : PyData.eqv (.str x) (.str x) = true := SeqAt.eqv_refl _ (by simpa [PyData.canLay0] using hx)
      cases hv1
      cases hu1
      refine iteF ⟨_, rfl, rfl, _, rfl, ?_⟩
      refine iteF ⟨_, rfl, _, _, _, _, _, rfl, .ty _, dp_ty (.str x), isA_eq (by simp), _, rfl, ?_⟩
      rw [isA_str]
      refine iteT ⟨_, rfl, _, rfl, .str x, .str x, .str x, .str x, sh, sh, _, rfl, ?_⟩
      rw [er]
      exact iteT ⟨_, rfl, _, _, _, _, _, rfl, .ty _, dp_ty (.str x), isA_eq (by simp), _, rfl, _, _, _, _, _, rfl, .ty _, dp_ty (.str x), isA_eq (by simp), rfl, by rw [decide_eq_true rfl]; exact q1⟩
    | int i =>
      cases hv1
      cases hu1
      refine iteF ⟨_, rfl, rfl, _, rfl, ?_⟩
      refine iteF ⟨_, rfl, _, _, _, _, _, rfl, .ty _, dp_ty (.int i), isA_eq (by simp), _, rfl, ?_⟩
      rw [isA_str]
      refine iteF ⟨_, rfl, _, _, _, _, _, rfl, .ty _, dp_ty (.int i), isA_eq (by simp), _, rfl, ?_⟩
      rw [isA_int]
      refine iteT ⟨_, rfl, _, _, _, _, _, rfl, .ty _, dp_ty (.int i), isA_eq (by simp), _, rfl, _, _, _, _, _, rfl, .ty _, dp_ty (.int i), isA_eq (by simp), rfl, _, rfl, ?_⟩
      rw [decide_eq_true rfl]
      refine iteT ⟨_, rfl, _, rfl, .int i, .int i, .int i, .int i, rfl, rfl, ?_⟩
      rw [SeqAt.eqv_refl (.int i) rfl]
      exact q1
    | bool i =>
      cases hv1
      cases hu1
      refine iteF ⟨_, rfl, rfl, _, rfl, ?_⟩
      refine iteF ⟨_, rfl, _, _, _, _, _, rfl, .ty _, dp_ty (.bl i), isA_eq (by simp), _, rfl, ?_⟩
      rw [isA_str]
      refine iteF ⟨_, rfl, _, _, _, _, _, rfl, .ty _, dp_ty (.bl i), isA_eq (by simp), _, rfl, ?_⟩
      rw [isA_int]
      refine iteT ⟨_, rfl, _, _, _, _, _, rfl, .ty _, dp_ty (.bl i), isA_eq (by simp), _, rfl, _, _, _, _, _, rfl, .ty _, dp_ty (.bl i), isA_eq (by simp), rfl, _, rfl, ?_⟩
      rw [decide_eq_true rfl]
      refine iteT ⟨_, rfl, _, rfl, .bool i, .bool i, .bl i, .bl i, rfl, rfl, ?_⟩
      rw [SeqAt.eqv_refl (.bool i) rfl]
      exact q1
    | list ds => cases hsq
    | tuple ds => cases hsq
    | dict ds => exact hf.elim
theorem alike_none (T : Env K mg) : FnOk P w K mg base CX0 0 T.f_law_alike T.d_law_alike ["_law_found", "_law_due"] (spAlike K 0) := by
  have no : ∀ vs H Q E, ¬ spAlike K 0 vs H Q E := fun vs H Q E h => by
    obtain ⟨v, u, d, _, _, _, hd, _⟩ := h
    exact hd
  exact ⟨fun vs H Q E h => absurd h (no vs H Q E), fun A outer s H args us vs Q E _ _ _ _ h => absurd h (no vs H Q E)⟩
theorem alike_all (T : Env K mg) : ∀ n : Nat, FnOk P w K mg base CX0 n T.f_law_alike T.d_law_alike ["_law_found", "_law_due"] (spAlike K n)
  | 0 => alike_none T
  | n + 1 => alike_step T (alike_all T n)
theorem ok_law_alike (T : Env K mg) : FnOk P w K mg base CX0 9 T.f_law_alike T.d_law_alike ["_law_found", "_law_due"] (spAlike K 9) := alike_all T 9
end
end Wb
namespace Wb
open PySem L2
section
variable {P : Program} {w : World} {K : PySem.W.Frag} {mg : Str → Option Value} {base : Heap}
def spPick (K : PySem.W.Frag) : Sp := fun vs H Q _ => ∃ (h l a : Addr) (xs : List V), vs = [.ref h, .ref a] ∧ Src h l H ∧ SqL K (cut h l H) a xs ∧ xs ≠ [] ∧ xs.length ≤ 1000 ∧
  ∀ (i : Nat) v H', xs[i]? = some v → Src h l H' → Old h l H H' → Q v H'
theorem ok_law_pick (T : Env K mg) : FnOk P w K mg base CX0 2 T.f_law_pick T.d_law_pick ["_law_h", "_law_things"] (spPick K) := by
  refine T.F_law_pick.ok sc_law_pick (fun vs H Q E h => ?_) (fun cdv A outer s H vs Q E hr h => ?_)
  · (obtain ⟨h, l, a, xs, rfl, _⟩ := h; rfl)
  obtain ⟨h, l, a, xs, rfl, S, ha, ne, le, q⟩ := h
  refine ⟨_, (pss_one (ps_ret (pe_ix (r := rIxL K) ix_list (pv 1) (pe_call (ok_law_next T) (hr.mono (by decide)) rfl T.m_law_next T.F_law_next.kp T.b_law_next .nil pass0 (pa_cons (pv 0) (pa_cons (pe_callB (r := rLenS K) call_lenS (by rfl) T.z_len (by decide +kernel) (pa_cons (pv 1) pa_nil)) pa_nil))) (fun _ _ => rfl)))), ?_⟩
  have pos : 0 < xs.length := List.length_pos_iff.mpr ne
  refine ⟨_, rfl, _, rfl, _, rfl, a, xs, rfl, (.inl ((cut_same h l H).seq ha)), h, l, (xs.length : Int), rfl, S, by omega, by omega, fun r H' hr S' o => ?_⟩
  have hr' : r < xs.length := by omega
  exact ⟨a, xs, _, _, rfl, rfl, (cut_same h l H').seq (o.cut.seq ha), at_of (j := r) rfl (List.getElem?_eq_getElem hr'), q r _ H' (List.getElem?_eq_getElem hr') S' o⟩
end
end Wb
namespace Wb
open PySem L2
section
variable {P : Program} {w : World} {K : PySem.W.Frag} {mg : Str → Option Value} {base : Heap}
def spDraw (K : PySem.W.Frag) : Sp := fun vs H Q _ => ∃ (h l : Addr), vs = [.ref h] ∧ Src h l H ∧
  ∀ v (t : Tab) (n : Nat) H', Good t n → Src h l H' → Old h l H H' → Dp K (tups H') v (tabD t) → Q v H'
def twoRow (s : Nat) : List (Nat × Nat) := [(2 * s % 4, s / 2), ((2 * s + 1) % 4, s / 2)]
def twoTab : Tab := [twoRow 0, twoRow 1, twoRow 2, twoRow 3]
theorem two_good : Good twoTab 2 := by
  refine ⟨by decide, by decide, by decide, by decide, ?_, ?_⟩ <;> decide
theorem two_get {i : Nat} (h : i < 4) : twoTab[i]? = some (twoRow i) := by
  have : ∀ j : Fin 4, twoTab[j.val]? = some (twoRow j.val) := by decide
  exact this ⟨i, h⟩
theorem two_val {s j : Nat} (hs : s < 4) (hj : j < 2) : (twoRow s)[j]? = some ((2 * s + j) % 4, s / 2) := by
  have : ∀ (a : Fin 4) (b : Fin 2), (twoRow a.val)[b.val]? = some ((2 * a.val + b.val) % 4, a.val / 2) := by decide
  exact this ⟨s, hs⟩ ⟨j, hj⟩
/-- rows as they are drawn -/
def RowsOk (t : Tab) (m n : Nat) : Prop := ∀ r ∈ t, r.length = n ∧ ∀ s ∈ r, s.1 < m ∧ s.2 ≤ 3
theorem range_lo (m : Nat) : -(2 ^ 62) ≤ ((m : Nat) : Int) := Int.le_trans (by decide) (Int.natCast_nonneg _)
theorem range_hi {m : Nat} (h : m ≤ 1000) : ((m : Nat) : Int) < 2 ^ 62 := Int.lt_of_le_of_lt (Int.ofNat_le.mpr h) (by decide)
theorem step_dp {K : PySem.W.Frag} {H : Hp} {p : Addr} {a b : Int} {x y : Nat} (h : H p = some (.tup [.int a, .int b])) (ea : a = (x : Int)) (eb : b = (y : Int)) : Dp K (tups H) (.ref p) (stepD (x, y)) := by
  subst ea eb
  exact .tup (SqT.of (tups_of h)) (.cons (.int _) (.cons (.int _) .nil))
theorem ok_law_table (T : Env K mg) : FnOk P w K mg base CX0 2 T.f_law_table T.d_law_table ["_law_h"] (spDraw K) := by
  refine T.F_law_table.ok sc_law_table (fun vs H Q E h => ?_) (fun cdv A outer s H vs Q E hr h => ?_)
  · (obtain ⟨h, l, rfl, _⟩ := h; rfl)
  obtain ⟨h, l, rfl, S, q⟩ := h
  refine ⟨_, (pss_cons (ps_par (i := 1) (j := 2) (by rfl) sc_law_table.nd rfl rfl (by decide) rfl rfl (pa_cons (pe_call (ok_law_next T) (hr.mono (by decide)) rfl T.m_law_next T.F_law_next.kp T.b_law_next .nil pass0 (pa_cons (pv 0) (pa_cons pe_int pa_nil))) (pa_cons (pe_op op_add pe_int (pe_call (ok_law_next T) (hr.mono (by decide)) rfl T.m_law_next T.F_law_next.kp T.b_law_next .nil pass0 (pa_cons (pv 0) (pa_cons pe_int pa_nil)))) pa_nil)) (by rfl))
    (pss_cons (ps_if (pt_cmpR op_eq (pv 1) pe_int (nomark _))
      (pss_cons (ps_set (i := 3) sc_law_table.nd rfl (Or.inl rfl) (pe_lst pa_nil))
      (pss_cons (ps_for PassesOwn.never rfl (pi_range1 rfl T.z_range (pa_cons pe_int pa_nil)) (pg_name (i := 4) sc_law_table.nd rfl (Or.inr rfl))
        (pss_one (ps_expr (pe_bm PySem.F.plainAttrs_list PySem.F.slot_list_append PySem.F.type_list_append mt_append (pv 3) (pa_cons (pe_callTy (r := rTupOf K) call_tupS (by rfl) T.z_tuple (by decide +kernel) (pa_cons (pe_lc (own := [("_law_letter", 5)]) (g := gName 5) rfl sc_law_table.nd (pi_range1 rfl T.z_range (pa_cons pe_int pa_nil)) (blkOk_by (own := [("_law_letter", 5)]) (N := n_law_table) (sc := defScope s_law_table) (by decide +kernel)) (fun _ _ _ _ _ => (pg_name (i := 5) sc_law_table.nd rfl (Or.inl rfl))) (fun _ _ _ _ _ => pts_nil) (fun _ _ _ _ _ => (pe_tup (pa_cons (pe_op op_mod (pe_callTy call_int1 (by rfl) T.z_int (by decide +kernel) (pa_cons (pe_op op_add (pe_op op_mul pe_int (pv 4)) (pv 5)) pa_nil)) pe_int) (pa_cons (pe_op op_fdiv (pv 4) pe_int) pa_nil))))) pa_nil)) pa_nil)))))
      (pss_one (ps_ret (pe_callTy (r := rTupOf K) call_tupS (by rfl) T.z_tuple (by decide +kernel) (pa_cons (pv 3) pa_nil))))))
      pss_nil)
    (pss_cons (ps_par3 (i := 6) (j := 7) (l := 8) (by rfl) sc_law_table.nd rfl rfl rfl (by decide) (by decide) (by decide) rfl rfl rfl (pa_cons (pe_op op_add pe_int (pe_call (ok_law_next T) (hr.mono (by decide)) rfl T.m_law_next T.F_law_next.kp T.b_law_next .nil pass0 (pa_cons (pv 0) (pa_cons pe_int pa_nil)))) (pa_cons (pe_op op_add pe_int (pe_call (ok_law_next T) (hr.mono (by decide)) rfl T.m_law_next T.F_law_next.kp T.b_law_next .nil pass0 (pa_cons (pv 0) (pa_cons pe_int pa_nil)))) (pa_cons (pe_lst pa_nil) pa_nil))) (by rfl))
    (pss_cons (ps_for PassesOwn.never rfl (pi_range1 rfl T.z_range (pa_cons (pv 6) pa_nil)) (pg_name (i := 4) sc_law_table.nd rfl (Or.inr rfl))
      (pss_cons (ps_par (i := 9) (j := 10) (by rfl) sc_law_table.nd rfl rfl (by decide) rfl rfl (pa_cons (pe_call (ok_law_next T) (hr.mono (by decide)) rfl T.m_law_next T.F_law_next.kp T.b_law_next .nil pass0 (pa_cons (pv 0) (pa_cons pe_int pa_nil))) (pa_cons (pe_cmpR op_eq (pe_call (ok_law_next T) (hr.mono (by decide)) rfl T.m_law_next T.F_law_next.kp T.b_law_next .nil pass0 (pa_cons (pv 0) (pa_cons pe_int pa_nil))) pe_int (nomark _)) pa_nil)) (by rfl))
      (pss_cons (ps_set (i := 11) sc_law_table.nd rfl (Or.inl rfl) (pe_lst pa_nil))
      (pss_cons (ps_for PassesOwn.never rfl (pi_range1 rfl T.z_range (pa_cons (pv 2) pa_nil)) (pg_name (i := 5) sc_law_table.nd rfl (Or.inl rfl))
        (C8.pss_cut (ps_set (i := 12) sc_law_table.nd rfl (Or.inl rfl) (pe_ifExp (pt_cmpR op_lt (pv 1) pe_int (nomark _)) (pe_call (ok_law_next T) (hr.mono (by decide)) rfl T.m_law_next T.F_law_next.kp T.b_law_next .nil pass0 (pa_cons (pv 0) (pa_cons (pv 7) pa_nil))) (pe_op op_mod (pe_callTy call_int1 (by rfl) T.z_int (by decide +kernel) (pa_cons (pe_op op_add (pv 9) (pe_ifExp (pt_val (pv 10)) pe_int (pv 5))) pa_nil)) pe_int)))
        (pss_one (ps_expr (pe_bm PySem.F.plainAttrs_list PySem.F.slot_list_append PySem.F.type_list_append mt_append (pv 11) (pa_cons (pe_tup (pa_cons (pe_call (ok_law_next T) (hr.mono (by decide)) rfl T.m_law_next T.F_law_next.kp T.b_law_next .nil pass0 (pa_cons (pv 0) (pa_cons (pv 6) pa_nil))) (pa_cons (pv 12) pa_nil))) pa_nil))))))
      (pss_one (ps_expr (pe_bm PySem.F.plainAttrs_list PySem.F.slot_list_append PySem.F.type_list_append mt_append (pv 8) (pa_cons (pe_callTy (r := rTupOf K) call_tupS (by rfl) T.z_tuple (by decide +kernel) (pa_cons (pv 11) pa_nil)) pa_nil))))))))
    (pss_one (ps_ret (pe_callTy (r := rTupOf K) call_tupS (by rfl) T.z_tuple (by decide +kernel) (pa_cons (pv 8) pa_nil)))))))), ?_⟩
  refine ⟨_, rfl, h, l, 6, rfl, S, by decide, by decide, fun k1 H1 hk1 S1 o1 => ⟨_, rfl, h, l, 2, rfl, S1, by decide, by decide, fun k2 H2 hk2 S2 o2 => ⟨_, _, rfl, rfl, _, _, rfl, ?_⟩⟩⟩
  obtain ⟨n, en, hn2, hn3⟩ : ∃ n : Nat, (2 : Int) + (k2 : Int) = (n : Int) ∧ 2 ≤ n ∧ n ≤ 3 := ⟨2 + k2, by omega, by omega, by omega⟩
  have o12 := o1.trans o2
  refine ⟨_, rfl, rfl, _, rfl, ite2 (fun _ => ?_) (fun _ => ?_)⟩
  · -- what was read two letters ago
    refine ⟨(by show 0 ≤ sizeLine; decide), fun ps nps => ?_⟩
    have nh : ps ≠ h := S2.neh nps
    have nl : ps ≠ l := S2.nel nps
    have hps0 : H ps = none := o12.free nps nh nl
    refine ⟨4, rfl, by decide, by decide, for_range (lo := 0) (n := 4) (fun i σ H' => (∃ y, σ = [some (.ref h), some (.int (k1 : Int)), some (.int (2 + (k2 : Int))), some (.ref ps), y, none, none, none, none, none, none, none, none]) ∧ Src h l H' ∧ Old h l H H' ∧
        ∃ rows, H' ps = some (.lst rows) ∧ rows.length = i ∧ DpAll K (tups H') rows ((twoTab.take i).map rowD))
      ⟨⟨_, rfl⟩, S2.new nps _, o12.new nps _, [], upd_same, rfl, .nil⟩ (fun i σ H' hi z => ?_) (fun σ H' z => ?_)⟩
    · obtain ⟨⟨y, rfl⟩, S3, o3, rows, hr, lr, dr⟩ := z
      refine ⟨_, rfl, .inl ⟨rfl, _, SqL.of hr⟩, 2, rfl, by decide, by decide, fun D hD => lc_range (lo := 0) (n := 2)
        (fun j H'' => Same H' H'' ∧ ∃ st, H'' D = some (.lst st) ∧ st.length = j ∧ DpAll K (tups H'') st (((twoRow i).take j).map stepD))
        ⟨same_new hD _, [], upd_same, rfl, .nil⟩ (fun j H'' hj z => ?_) (fun H'' z => ?_)⟩
      · obtain ⟨s4, st, hst, lst, dst⟩ := z
        refine ⟨rfl, _, rfl, _, _, rfl, rfl, .inl ⟨by decide, by decide⟩, _, rfl, _, _, rfl, rfl, .inl ⟨_, rfl, _, _, rfl, rfl, (by show (0 : Int) < _; decide), _, rfl, _, _, rfl, rfl, ⟨by decide, by decide⟩, (by show 2 ≤ sizeLine; decide), fun p np => ?_⟩⟩
        have nDp : D ≠ p := ne_of_none hst np
        refine ⟨st, (upd_ne nDp).trans hst, small1000 (by omega), Same.put (s4.trans (same_new np _)) hD _, st ++ [.ref p], upd_same, by rw [List.length_append, lst]; rfl, ?_⟩
        · rw [take_snoc (two_val hi hj), List.map_append]
          refine dps_snoc (dps_ts dst (((TS.refl H'').new np _).lst ((upd_ne nDp).trans hst) _)) (step_dp ((upd_ne nDp.symm).trans upd_same) ?_ ?_)
          · show (2 * (0 + ((i : Nat) : Int)) + (0 + ((j : Nat) : Int))) % 4 = (((2 * i + j) % 4 : Nat) : Int)
            omega
          · show (0 + ((i : Nat) : Int)) / 2 = ((i / 2 : Nat) : Int)
            omega
      · obtain ⟨s4, st, hst, lst, dst⟩ := z
        have hr4 := s4 _ _ hr
        refine ⟨D, _, rfl, .inl ⟨SqL.of hst, fun p np => ?_⟩⟩
        have s5 := s4.trans (same_new np (.tup st))
        have hr5 := s5 _ _ hr
        have nps2 : p ≠ ps := (ne_of_none hr4 np).symm
        refine ⟨ps, rows, _, rfl, rfl, hr5, small1000 (by omega), ⟨_, rfl⟩, (S3.same s5).upd nh nl _, (o3.trans (Old.of s5)).put hps0 _, rows ++ [.ref p], upd_same, by rw [List.length_append, lr]; rfl, ?_⟩
        · rw [take_snoc (two_get hi), List.map_append]
          have e2 : (twoRow i).take 2 = twoRow i := rfl
          rw [e2] at dst
          exact dps_snoc (dps_ts dr ((TS.same s5).lst hr5 _)) (.tup (SqT.of (tups_of ((upd_ne nps2).trans upd_same))) (dps_ts dst (((TS.refl H'').new np _).lst hr5 _)))
    · obtain ⟨⟨y, rfl⟩, S3, o3, rows, hr, lr, dr⟩ := z
      refine ⟨_, rfl, ps, _, rfl, .inl ⟨SqL.of hr, fun p np => ?_⟩⟩
      exact q _ twoTab 2 _ two_good (S3.new np _) (o3.new np _) (.tup (SqT.of (tups_of upd_same)) (dps_ts dr ((TS.refl _).new np _)))
  · -- a number of stands, a bound for what is written, no rows
    refine ⟨_, rfl, h, l, 6, rfl, S2, by decide, by decide, fun k3 H3 hk3 S3 o3 => ⟨_, _, rfl, rfl, _, rfl, h, l, 4, rfl, S3, by decide, by decide, fun k4 H4 hk4 S4 o4 => ⟨_, _, rfl, rfl, (by show 0 ≤ sizeLine; decide), fun ps nps => ⟨_, _, _, rfl, ?_⟩⟩⟩⟩
    have o14 := (o12.trans o3).trans o4
    have nh : ps ≠ h := S4.neh nps
    have nl : ps ≠ l := S4.nel nps
    have hps0 : H ps = none := o14.free nps nh nl
    obtain ⟨m, em, hm1, hm6⟩ : ∃ m : Nat, (1 : Int) + (k3 : Int) = (m : Int) ∧ 1 ≤ m ∧ m ≤ 6 := ⟨1 + k3, by omega, by omega, by omega⟩
    obtain ⟨c, ec, hc1, hc4⟩ : ∃ c : Nat, (1 : Int) + (k4 : Int) = (c : Int) ∧ 1 ≤ c ∧ c ≤ 4 := ⟨1 + k4, by omega, by omega, by omega⟩
    refine ⟨_, rfl, _, rfl, em ▸ range_lo m, em ▸ range_hi (by omega), for_range (lo := 0) (n := (1 + (k3 : Int)).toNat)
      (fun i σ H' => (∃ y z a b r w, σ = [some (.ref h), some (.int (k1 : Int)), some (.int (2 + (k2 : Int))), none, y, z, some (.int (1 + (k3 : Int))), some (.int (1 + (k4 : Int))), some (.ref ps), a, b, r, w]) ∧ Src h l H' ∧ Old h l H H' ∧
        ∃ (rows : List V) (t : Tab), H' ps = some (.lst rows) ∧ t.length = i ∧ RowsOk t m n ∧ DpAll K (tups H') rows (t.map rowD))
      ⟨⟨_, _, _, _, _, _, rfl⟩, S4.new nps _, o14.new nps _, [], [], upd_same, rfl, (fun r hr => by cases hr), .nil⟩ (fun i σ H' hi z => ?_) (fun σ H' z => ?_)⟩
    · obtain ⟨⟨y, z, a, b, r, w', rfl⟩, S5, o5, rows, t, hr, lt, ok, dr⟩ := z
      refine ⟨_, rfl, h, l, 4, rfl, S5, by decide, by decide, fun k5 H6 hk5 S6 o6 => ⟨_, rfl, h, l, 4, rfl, S6, by decide, by decide, fun k6 H7 hk6 S7 o7 => ⟨rfl, _, _, rfl, (by show 0 ≤ sizeLine; decide), fun pr npr => ?_⟩⟩⟩
      have o57 := o6.trans o7
      have hr7 : H7 ps = some (.lst rows) := o57 _ _ hr nh nl
      have prh : pr ≠ h := S7.neh npr
      have prl : pr ≠ l := S7.nel npr
      have npp : ps ≠ pr := ne_of_none hr7 npr
      have hpr0 : H pr = none := (o5.trans o57).free npr prh prl
      have d7 : DpAll K (tups (upd H7 pr (.lst []))) rows (t.map rowD) := dps_ts dr ((o57.ts S5).new npr _)
      refine ⟨_, rfl, _, rfl, en ▸ range_lo n, en ▸ range_hi (by omega), for_range (lo := 0) (n := (2 + (k2 : Int)).toNat)
        (fun j σ H' => (∃ y z w b, σ = [some (.ref h), some (.int (k1 : Int)), some (.int (2 + (k2 : Int))), none, y, z, some (.int (1 + (k3 : Int))), some (.int (1 + (k4 : Int))), some (.ref ps), some (.int (k5 : Int)), some (.bl b), some (.ref pr), w]) ∧ Src h l H' ∧ Old h l H H' ∧
          H' ps = some (.lst rows) ∧ DpAll K (tups H') rows (t.map rowD) ∧ ∃ (st : List V) (rr : List (Nat × Nat)), H' pr = some (.lst st) ∧ rr.length = j ∧ (∀ s ∈ rr, s.1 < m ∧ s.2 ≤ 3) ∧ DpAll K (tups H') st (rr.map stepD))
        ⟨⟨_, _, _, _, rfl⟩, S7.new npr _, (o5.trans o57).new npr _, (upd_ne npp).trans hr7, d7, [], [], upd_same, rfl, (fun s hs => by cases hs), .nil⟩ (fun j σ H' hj z => ?_) (fun σ H' z => ?_)⟩
      · obtain ⟨⟨y, z, w2, b2, rfl⟩, S8, o8, hr8, d8, st, rw', hst, lrw, okr, dst⟩ := z
        have fin : ∀ (sg : Nat) (H9 : Hp), sg ≤ 3 → Src h l H9 → Old h l H' H9 → H9 pr = some (.lst st) := fun _ _ _ _ o9 => o9 _ _ hst prh prl
        refine ⟨fun σ' H9 => ∃ sg : Nat, sg ≤ 3 ∧ σ' = [some (.ref h), some (.int (k1 : Int)), some (.int (2 + (k2 : Int))), none, y, some (.int (0 + (j : Nat))), some (.int (1 + (k3 : Int))), some (.int (1 + (k4 : Int))), some (.ref ps), some (.int (k5 : Int)), some (.bl b2), some (.ref pr), some (.int (sg : Int))] ∧ Src h l H9 ∧ Old h l H' H9, ?_, fun σ' H9 mid => ?_⟩
        · refine ⟨_, rfl, _, _, rfl, rfl, _, rfl, ite2 (fun _ => ?_) (fun _ => ?_)⟩
          · refine ⟨_, rfl, _, rfl, h, l, 1 + (k4 : Int), rfl, S8, by omega, by omega, fun k H9 hk S9 o9 => ⟨k, by omega, rfl, S9, o9⟩⟩
          · refine ⟨_, rfl, _, rfl, _, rfl, ite2 (fun _ => ?_) (fun _ => ?_)⟩
            · obtain ⟨k, ek, hk⟩ := mod_nat (i := (k5 : Int) + 0) (j := 4) (by decide)
              refine ⟨_, _, rfl, rfl, .inl ⟨_, rfl, _, _, rfl, rfl, (by show (0 : Int) < _; decide), k, by omega, ?_, S8, Old.refl _⟩⟩
              show List.set _ _ (some (V.int (((k5 : Int) + 0) % 4))) = _
              rw [ek]
              rfl
            · obtain ⟨k, ek, hk⟩ := mod_nat (i := (k5 : Int) + (0 + (j : Nat))) (j := 4) (by decide)
              refine ⟨_, rfl, _, _, rfl, rfl, .inl ⟨_, rfl, _, _, rfl, rfl, (by show (0 : Int) < _; decide), k, by omega, ?_, S8, Old.refl _⟩⟩
              show List.set _ _ (some (V.int (((k5 : Int) + (0 + (j : Nat))) % 4))) = _
              rw [ek]
              rfl
        · obtain ⟨sg, hsg, rfl, S9, o9⟩ := mid
          have hst9 := o9 _ _ hst prh prl
          refine ⟨_, rfl, .inl ⟨rfl, _, SqL.of hst9⟩, _, rfl, _, rfl, h, l, 1 + (k3 : Int), rfl, S9, by omega, by omega, fun k Ha hk Sa oa => ⟨_, rfl, (by show 2 ≤ sizeLine; decide), fun p np => ?_⟩⟩
          have o8a := o9.trans oa
          have hsta := o8a _ _ hst prh prl
          have hra := o8a _ _ hr8 nh nl
          have nprp : pr ≠ p := ne_of_none hsta np
          have npsp : ps ≠ p := ne_of_none hra np
          have hstb : (upd Ha p (.tup [.int (k : Int), .int (sg : Int)])) pr = some (.lst st) := (upd_ne nprp).trans hsta
          have ts : TS H' (upd (upd Ha p (.tup [.int (k : Int), .int (sg : Int)])) pr (.lst (st ++ [.ref p]))) := ((o8a.ts S8).new np _).lst hstb _
          refine ⟨pr, st, _, rfl, rfl, hstb, ?_, ⟨_, _, _, _, rfl⟩, (Sa.new np _).upd prh prl _, ((o8.trans o8a).new np _).put hpr0 _, (upd_ne npp).trans ((upd_ne npsp).trans hra), dps_ts d8 ts, st ++ [.ref p], rw' ++ [(k, sg)], upd_same, by rw [List.length_append, lrw]; rfl, ?_, ?_⟩
          · rw [dps_len dst, List.length_map, lrw]
            exact small1000 (by omega)
          · intro s hs
            rcases List.mem_append.mp hs with z | z
            · exact okr s z
            · rw [List.mem_singleton.mp z]
              exact ⟨by show k < m; omega, hsg⟩
          · rw [List.map_append]
            exact dps_snoc (dps_ts dst ts) (step_dp ((upd_ne nprp.symm).trans upd_same) rfl rfl)
      · obtain ⟨⟨y, z, w2, b2, rfl⟩, S8, o8, hr8, d8, st, rw', hst, lrw, okr, dst⟩ := z
        refine ⟨_, rfl, .inl ⟨rfl, _, SqL.of hr8⟩, _, rfl, pr, st, rfl, .inl ⟨SqL.of hst, fun p np => ?_⟩⟩
        have hr9 := (same_new np (.tup st)) _ _ hr8
        have npsp : ps ≠ p := ne_of_none hr8 np
        have ts : TS H' (upd (upd H' p (.tup st)) ps (.lst (rows ++ [.ref p]))) := ((TS.refl H').new np _).lst hr9 _
        refine ⟨ps, rows, _, rfl, rfl, hr9, ?_, ⟨_, _, _, _, _, _, rfl⟩, (S8.new np _).upd nh nl _, (o8.new np _).put hps0 _, rows ++ [.ref p], t ++ [rw'], upd_same, by rw [List.length_append, lt]; rfl, ?_, ?_⟩
        · rw [dps_len d8, List.length_map, lt]
          exact small1000 (by omega)
        · intro r' hr'
          rcases List.mem_append.mp hr' with z | z
          · exact ok r' z
          · rw [List.mem_singleton.mp z]
            exact ⟨by omega, okr⟩
        · rw [List.map_append]
          exact dps_snoc (dps_ts d8 ts) (.tup (SqT.of (tups_of ((upd_ne npsp.symm).trans upd_same))) (dps_ts dst ts))
    · obtain ⟨⟨y, z, a, b, r, w', rfl⟩, S5, o5, rows, t, hr, lt, ok, dr⟩ := z
      refine ⟨_, rfl, ps, _, rfl, .inl ⟨SqL.of hr, fun p np => ?_⟩⟩
      have lt' : t.length = m := by omega
      exact q _ t n _ ⟨by omega, by omega, hn2, hn3, fun r hr => (ok r hr).1, fun r hr s hs => by rw [lt']; exact (ok r hr).2 s hs⟩ (S5.new np _) (o5.new np _) (.tup (SqT.of (tups_of upd_same)) (dps_ts dr ((TS.refl _).new np _)))
end
end Wb
namespace Wb
open PySem L2
section
variable {P : Program} {w : World} {K : PySem.W.Frag} {mg : Str → Option Value} {base : Heap}
def runD (t : Tab) (s : Nat) (r : List Nat) : PyData := .tuple [.list ((runS t s r).map fun a : Nat => PyData.int (a : Int)), intsD (runW t s r)]
def spRun (K : PySem.W.Frag) : Sp := fun vs H Q _ => ∃ (v rv : V) (t : Tab) (n s : Nat) (r : List Nat), vs = [v, .int (s : Int), rv] ∧ Dp K H v (tabD t) ∧ Good t n ∧ s < t.length ∧ Dp K H rv (intsD r) ∧ r.length ≤ 900 ∧ (∀ x ∈ r, x < n) ∧
  ∀ u H', Same H H' → Dp K H' u (runD t s r) → Q u H'
theorem ok_law_run (T : Env K mg) : FnOk P w K mg base CX0 1 T.f_law_run T.d_law_run ["_law_table_here", "_law_stand", "_law_row_here"] (spRun K) := by
  refine T.F_law_run.ok sc_law_run (fun vs H Q E h => ?_) (fun cdv A outer s H vs Q E hr h => ?_)
  · (obtain ⟨v, rv, t, n, s, r, rfl, _⟩ := h; rfl)
  obtain ⟨v, rv, t, n, s0, r, rfl, hd, g, hs0, hr, hl, hin, q⟩ := h
  obtain ⟨ra, rfl, hr0⟩ := ints_get hr
  refine ⟨_, (pss_cons (ps_par (i := 3) (j := 4) (by rfl) sc_law_run.nd rfl rfl (by decide) rfl rfl (pa_cons (pe_lst (pa_cons (pv 1) pa_nil)) (pa_cons (pe_lst pa_nil) pa_nil)) (by rfl))
    (pss_cons (ps_for PassesOwn.never rfl (pi_tup (pv 2)) (pg_name (i := 5) sc_law_run.nd rfl (Or.inl rfl))
      (pss_cons (ps_set (i := 6) sc_law_run.nd rfl (Or.inl rfl) (pe_ix (r := rIxT K) ix_tup (pe_ix (r := rIxT K) ix_tup (pv 0) (pe_ix (r := rIxL K) ix_list (pv 3) (pe_op op_sub (pe_callB (r := rLenS K) call_lenS (by rfl) T.z_len (by decide +kernel) (pa_cons (pv 3) pa_nil)) pe_int) (fun _ _ => rfl)) (fun _ _ => rfl)) (pv 5) (fun _ _ => rfl)))
      (pss_cons (ps_expr (pe_bm PySem.F.plainAttrs_list PySem.F.slot_list_append PySem.F.type_list_append mt_append (pv 3) (pa_cons (pe_ix (r := rIxT K) ix_tup (pv 6) pe_int (fun _ _ => rfl)) pa_nil)))
      (pss_one (ps_expr (pe_bm PySem.F.plainAttrs_list PySem.F.slot_list_append PySem.F.type_list_append mt_append (pv 4) (pa_cons (pe_ix (r := rIxT K) ix_tup (pv 6) pe_int (fun _ _ => rfl)) pa_nil)))))))
    (pss_one (ps_ret (pe_tup (pa_cons (pv 3) (pa_cons (pe_callTy (r := rTupOf K) call_tupS (by rfl) T.z_tuple (by decide +kernel) (pa_cons (pv 4) pa_nil)) pa_nil))))))), ?_⟩
  refine ⟨_, rfl, (by show 1 ≤ sizeLine; decide), fun p hp => ⟨(by show 0 ≤ sizeLine; decide), fun p2 hp2 => ⟨_, _, rfl, ?_⟩⟩⟩
  have s1 := (same_new hp (.lst [V.int (s0 : Int)])).trans (same_new hp2 (.lst []))
  have n12 : p ≠ p2 := fun e => by subst e; rw [upd_same] at hp2; cases hp2
  have hpp : (upd (upd H p (.lst [V.int (s0 : Int)])) p2 (.lst [])) p = some (.lst [V.int (s0 : Int)]) := by rw [upd_ne n12]; exact upd_same
  have hp2' : H p2 = none := by rw [upd_ne n12.symm] at hp2; exact hp2
  refine ⟨_, rfl, ra, rfl, ⟨_, same_tup s1 hr0⟩, for_tup (xs := natL r) (fun i σ H' => ∃ y z, σ = [some v, some (.int (s0 : Int)), some (.ref ra), some (.ref p), some (.ref p2), y, z] ∧ Same H H' ∧
      H' p = some (.lst (natL (runS t s0 (r.take i)))) ∧ H' p2 = some (.lst (natL (runW t s0 (r.take i)))))
    ⟨_, _, rfl, s1, hpp, upd_same⟩ (fun i σ H' _ z => ?_) (fun i x σ H' hi z => ?_) (fun σ H' z => ?_)⟩
  · obtain ⟨_, _, _, s, _⟩ := z
    exact same_tup s hr0
  · obtain ⟨y, z, rfl, s, hl1, hl2⟩ := z
    obtain ⟨b, hb, rfl⟩ := natL_get hi
    obtain ⟨l0, e0, el⟩ := runS_end t (r.take i) s0
    have hbn : b < n := hin b (List.mem_of_getElem? hb)
    have hs : endS t s0 (r.take i) < t.length := endS_lt g _ _ hs0 fun x hx => hin x (List.mem_of_mem_take hx)
    have hil : i < r.length := (List.getElem?_eq_some_iff.mp hb).1
    obtain ⟨p0, xs0, q0, ys0, r0, ev, h0, h1, h2, h3, h4⟩ := tab_get (dp_same hd s) g hs hbn
    subst ev
    have lS : (natL (runS t s0 (r.take i))).length = l0.length + 1 := by rw [natL_len, e0, List.length_append]; rfl
    have eA : (natL (runS t s0 (r.take i)))[l0.length]? = some (V.int (endS t s0 (r.take i) : Int)) := by
      rw [e0, natL_app, show l0.length = (natL l0).length from (natL_len l0).symm]
      exact List.getElem?_concat_length ..
    refine ⟨_, rfl, _, rfl, _, rfl, p, _, rfl, .inl (SqL.of hl1), _, _, rfl, rfl, p, _, _, _, rfl, rfl, SqL.of hl1, at_of (j := l0.length) (by rw [lS]; omega) eA,
      p0, xs0, _, _, rfl, rfl, h0, at_of (j := endS t s0 (r.take i)) rfl h1, _, rfl, q0, ys0, _, _, rfl, rfl, h2, at_of (j := b) rfl h3, ?_⟩
    refine ⟨_, rfl, .inl ⟨rfl, _, SqL.of hl1⟩, _, rfl, r0, _, _, _, rfl, rfl, h4, at_of (j := 0) rfl rfl, p, _, _, rfl, rfl, hl1, ?_, ?_⟩
    · rw [lS]
      exact small1000 (by rw [el, List.length_take]; omega)
    have s2 : Same H (upd H' p (.lst (natL (runS t s0 (r.take i)) ++ [V.int ((stp t (endS t s0 (r.take i)) b).1 : Int)]))) := fun c o hc => by
      rw [upd_ne (fun z => by subst z; rw [hp] at hc; cases hc)]
      exact s c o hc
    obtain ⟨p0', xs0', q0', ys0', r0', ev', h0', h1', h2', h3', h4'⟩ := tab_get (dp_same hd s2) g hs hbn
    have nr0 : SqT K (upd H' p (.lst (natL (runS t s0 (r.take i)) ++ [V.int ((stp t (endS t s0 (r.take i)) b).1 : Int)]))) r0 [.int ((stp t (endS t s0 (r.take i)) b).1 : Int), .int ((stp t (endS t s0 (r.take i)) b).2 : Int)] := by
      rcases h4 with (h4 | ⟨o, h4⟩) | h4
      · exact .inl (.inl (by rw [upd_ne (ne_of h4 hl1 (by intro z; cases z))]; exact h4))
      · exact .inl (.inr ⟨o, by rw [upd_ne (ne_of h4 hl1 (by intro z; cases z))]; exact h4⟩)
      · exact .inr h4
    have hl2' : (upd H' p (.lst (natL (runS t s0 (r.take i)) ++ [V.int ((stp t (endS t s0 (r.take i)) b).1 : Int)]))) p2 = some (.lst (natL (runW t s0 (r.take i)))) := by
      rw [upd_ne n12.symm]
      exact hl2
    refine ⟨_, rfl, .inl ⟨rfl, _, SqL.of hl2'⟩, _, rfl, r0, _, _, _, rfl, rfl, nr0, at_of (j := 1) rfl rfl, p2, _, _, rfl, rfl, hl2', ?_, _, _, rfl, ?_, ?_, ?_⟩
    · rw [natL_len, runW_len, List.length_take]
      exact small1000 (by omega)
    · exact fun c o hc => by
        rw [upd_ne (fun z => by subst z; rw [hp2'] at hc; cases hc)]
        exact s2 c o hc
    · rw [upd_ne n12, upd_same, take_snoc hb, runS_snoc, endS_snoc, natL_app]
      rfl
    · rw [upd_same, take_snoc hb, runW_snoc, natL_app]
      rfl
  · obtain ⟨y, z, rfl, s, hl1, hl2⟩ := z
    rw [natL_len, List.take_length] at hl1 hl2
    refine ⟨_, rfl, _, rfl, p2, _, rfl, .inl ⟨SqL.of hl2, fun l nl => ⟨(by show 2 ≤ sizeLine; decide), fun z nz => ?_⟩⟩⟩
    have s3 := (same_new nl (.tup (natL (runW t s0 r)))).trans (same_new nz (.tup [V.ref p, V.ref l]))
    have hlz : l ≠ z := fun e => by subst e; rw [upd_same] at nz; cases nz
    refine q _ _ (s.trans s3) (.tup (SqT.of upd_same) (.cons (.lst (SqL.of (s3 _ _ hl1)) dps_nats) (.cons (.tup (SqT.of ?_) dps_nats) .nil)))
    rw [upd_ne hlz]
    exact upd_same
end
end Wb
namespace Wb
open PySem L2
section
variable {P : Program} {w : World} {K : PySem.W.Frag} {mg : Str → Option Value} {base : Heap}
def spRow (K : PySem.W.Frag) : Sp := fun vs H Q _ => ∃ (h l : Addr) (v : V) (t : Tab) (n m : Nat), vs = [.ref h, v, .int (m : Int)] ∧ Src h l H ∧ Dp K (tups H) v (tabD t) ∧ Good t n ∧ m ≤ 900 ∧
  ∀ u (r : List Nat) H', r.length = m → (∀ x ∈ r, x < n) → Src h l H' → Old h l H H' → Dp K (tups H') u (intsD r) → Q u H'
theorem ok_law_row (T : Env K mg) : FnOk P w K mg base CX0 2 T.f_law_row T.d_law_row ["_law_h", "_law_table_here", "_law_many"] (spRow K) := by
  refine T.F_law_row.ok sc_law_row (fun vs H Q E h => ?_) (fun cdv A outer s H vs Q E hr h => ?_)
  · (obtain ⟨h, l, v, t, n, m, rfl, _⟩ := h; rfl)
  obtain ⟨h, l, v, t, n, m, rfl, S, hd, g, hm, q⟩ := h
  refine ⟨_, (pss_one (ps_ret (pe_callTy (r := rTupOf K) call_tupS (by rfl) T.z_tuple (by decide +kernel) (pa_cons (pe_lc (own := [("_law_k", 3)]) (g := gName 3) rfl sc_law_row.nd (pi_range1 rfl T.z_range (pa_cons (pv 2) pa_nil)) (blkOk_by (own := [("_law_k", 3)]) (N := n_law_row) (sc := defScope s_law_row) (by decide +kernel)) (fun _ _ _ _ _ => (pg_name (i := 3) sc_law_row.nd rfl (Or.inl rfl))) (fun _ _ _ _ _ => pts_nil) (fun _ _ _ _ _ => (pe_call (ok_law_next T) (hr.mono (by decide)) rfl T.m_law_next T.F_law_next.kp T.b_law_next .nil pass0 (pa_cons (pv 0) (pa_cons (pe_callB (r := rLenS K) call_lenS (by rfl) T.z_len (by decide +kernel) (pa_cons (pe_ix (r := rIxT K) ix_tup (pv 1) pe_int (fun _ _ => rfl)) pa_nil)) pa_nil))))) pa_nil)))), ?_⟩
  refine ⟨_, rfl, _, rfl, ?_, ?_, fun D hD => lc_range (lo := 0) (n := ((m : Nat) : Int).toNat) (fun i H' => ∃ r : List Nat, r.length = i ∧ (∀ x ∈ r, x < n) ∧ Src h l H' ∧ Old h l H H' ∧ H' D = some (.lst (natL r)))
    ⟨[], rfl, (fun x hx => by cases hx), S.new hD _, Old.of (same_new hD _), upd_same⟩ (fun i H' hi z => ?_) (fun H' z => ?_)⟩
  · exact Int.le_trans (by decide) (Int.natCast_nonneg _)
  · exact Int.lt_of_le_of_lt (Int.ofNat_le.mpr hm) (by decide)
  · obtain ⟨r, hr, hx, S', o, hl⟩ := z
    obtain ⟨p, xs, u, rfl, hx0, hu, du, _⟩ := tab_row (dp_ts hd (o.ts S)) (s := 0) (by have := g.len1; omega)
    obtain ⟨pr, xr, rfl, hxr, hAr⟩ := dp_tup du
    obtain ⟨hm0, hn0⟩ := g.row (s := 0) (by have := g.len1; omega)
    have lr : xr.length = n := by rw [dps_len hAr, List.length_map]; exact hn0
    have n2 := g.n2
    have n3 := g.n3
    have nDh : D ≠ h := S.neh hD
    have nDl : D ≠ l := S.nel hD
    refine ⟨rfl, _, rfl, _, rfl, p, xs, _, _, rfl, rfl, same_tup (tups_same H') hx0, at_of (j := 0) rfl hu, pr, xr, rfl, .inr (same_tup (tups_same H') hxr), h, l, (n : Int), (by rw [lr]; rfl), S', by omega, by omega, fun k H2 hk S2 o2 => ?_⟩
    refine ⟨natL r, o2 _ _ hl nDh nDl, ?_, r ++ [k], by rw [List.length_append, hr]; rfl, fun x hx' => ?_, S2.upd nDh nDl _, fun b o' hb bh bl => ?_, ?_⟩
    · rw [natL_len, hr]
      exact small1000 (by omega)
    · rcases List.mem_append.mp hx' with z | z
      · exact hx x z
      · rw [List.mem_singleton.mp z]
        omega
    · rw [upd_ne (fun z => by subst z; rw [hD] at hb; cases hb)]
      exact o2 _ _ (o _ _ hb bh bl) bh bl
    · rw [upd_same, natL_app]
      rfl
  · obtain ⟨r, hr, hx, S', o, hl⟩ := z
    refine ⟨D, _, rfl, .inl ⟨SqL.of hl, fun p np => ?_⟩⟩
    exact q _ r _ (by rw [hr]; omega) hx (S'.new np _) (o.new np _) (.tup (SqT.of (tups_of upd_same)) dps_nats)
end
end Wb
namespace Wb
open PySem L2
section
variable {P : Program} {w : World} {K : PySem.W.Frag} {mg : Str → Option Value} {base : Heap}
def spLaw (K : PySem.W.Frag) : Sp := fun vs H Q _ => ∃ (a : Addr) (ns : List Int), vs = [.ref a] ∧ SqL K H a (ns.map V.int) ∧ ns.length ≤ 63 ∧ ∀ H', Q (.bl true) H'
theorem ok_law (T : Env K mg) : FnOk P w K mg base CX0 10 T.f_law T.d_law ["_law_script"] (spLaw K) := by
  refine T.F_law.ok sc_law (fun vs H Q E h => ?_) (fun cdv A outer s H vs Q E hr h => ?_)
  · (obtain ⟨a, ns, rfl, _⟩ := h; rfl)
  obtain ⟨a, ns, rfl, hS, hl, q⟩ := h
  refine ⟨_, (pss_cons (ps_set (i := 1) sc_law.nd rfl (Or.inl rfl) (pe_call (ok_law_mix T) (hr.mono (by decide)) rfl T.m_law_mix T.F_law_mix.kp T.b_law_mix .nil pass0 (pa_cons (pv 0) (pa_cons pe_int pa_nil))))
    (pss_cons (ps_for PassesOwn.never rfl (pi_range1 rfl T.z_range (pa_cons pe_int pa_nil)) (pg_name (i := 2) sc_law.nd rfl (Or.inl rfl))
      (pss_cons (ps_set (i := 3) sc_law.nd rfl (Or.inl rfl) (pe_call (ok_law_table T) (hr.mono (by decide)) rfl T.m_law_table T.F_law_table.kp T.b_law_table .nil pass0 (pa_cons (pv 1) pa_nil)))
      (pss_cons (ps_set (i := 4) sc_law.nd rfl (Or.inl rfl) (pe_call (ok_law_row T) (hr.mono (by decide)) rfl T.m_law_row T.F_law_row.kp T.b_law_row .nil pass0 (pa_cons (pv 1) (pa_cons (pv 3) (pa_cons (pe_call (ok_law_pick T) (hr.mono (by decide)) rfl T.m_law_pick T.F_law_pick.kp T.b_law_pick .nil pass0 (pa_cons (pv 1) (pa_cons (pe_lst (pa_cons pe_int (pa_cons pe_int (pa_cons pe_int (pa_cons pe_int pa_nil))))) pa_nil))) pa_nil)))))
      (pss_cons (ps_set (i := 5) sc_law.nd rfl (Or.inl rfl) (pe_call (ok_law_run T) (hr.mono (by decide)) rfl T.m_law_run T.F_law_run.kp T.b_law_run .nil pass0 (pa_cons (pv 3) (pa_cons pe_int (pa_cons (pv 4) pa_nil)))))
      (pss_one (ps_if (pt_not (pt_val (pe_call (ok_law_alike T) (hr.mono (by decide)) rfl T.m_law_alike T.F_law_alike.kp T.b_law_alike .nil pass0 (pa_cons (pe_lst (pa_cons (pe_call (ok_write_row T) (hr.mono (by decide)) rfl T.m_write_row T.F_write_row.kp T.b_write_row .nil pass0 (pa_cons (pe_make T.mk_Writer (ok_Writer_init T) (hr.mono (by decide)) (by rfl) T.m_Writer T.b_Writer_init .nil pass0 (pa_cons (pv 3) pa_nil)) (pa_cons (pv 4) pa_nil))) (pa_cons (pe_call (ok_stands_of T) (hr.mono (by decide)) rfl T.m_stands_of T.F_stands_of.kp T.b_stands_of .nil pass0 (pa_cons (pe_make T.mk_Writer (ok_Writer_init T) (hr.mono (by decide)) (by rfl) T.m_Writer T.b_Writer_init .nil pass0 (pa_cons (pv 3) pa_nil)) (pa_cons (pv 4) pa_nil))) pa_nil))) (pa_cons (pe_lst (pa_cons (pe_ix (r := rIxT K) ix_tup (pv 5) pe_int (fun _ _ => rfl)) (pa_cons (pe_ix (r := rIxT K) ix_tup (pv 5) pe_int (fun _ _ => rfl)) pa_nil))) pa_nil)))))
        (pss_one (ps_ret pe_bl))
        pss_nil))))))
    (pss_one (ps_ret pe_bl)))), ?_⟩
  refine ⟨_, rfl, a, ns, 2, rfl, hS, hl, fun h l H0 s0 nh0 nl0 S0 => ?_⟩
  refine ⟨4, rfl, by decide, by decide, for_range (lo := 0) (n := 4) (fun i σ H' => (∃ y z w r, σ = [some (.ref a), some (.ref h), y, z, w, r]) ∧ Src h l H')
    ⟨⟨_, _, _, _, rfl⟩, S0⟩ (fun i σ H1 hi z => ?_) (fun σ H' z => q _)⟩
  obtain ⟨⟨y, z, w', r, rfl⟩, S1⟩ := z
  refine ⟨_, rfl, h, l, rfl, S1, fun v t n H2 g S2 o2 d2 => ?_⟩
  refine ⟨_, rfl, _, rfl, _, rfl, (by show 4 ≤ sizeLine; decide), fun p np => ⟨h, l, p, _, rfl, S2.new np _, SqL.of (cut_new S2 np), (by intro e; cases e), (by show 4 ≤ 1000; decide), fun j u H3 hu S3 o3 => ?_⟩⟩
  obtain ⟨m, rfl, hm⟩ : ∃ m : Nat, u = .int (m : Int) ∧ m ≤ 60 := by
    match j, hu with
    | 0, hu => exact ⟨0, (Option.some.inj hu).symm, by decide⟩
    | 1, hu => exact ⟨1, (Option.some.inj hu).symm, by decide⟩
    | 2, hu => exact ⟨7, (Option.some.inj hu).symm, by decide⟩
    | 3, hu => exact ⟨60, (Option.some.inj hu).symm, by decide⟩
    | j + 4, hu => cases hu
  have d3 := dp_ts d2 (((TS.refl H2).new np _).trans (o3.ts (S2.new np _)))
  refine ⟨h, l, v, t, n, m, rfl, S3, d3, g, by omega, fun rv row H4 lr hr S4 o4 dr => ?_⟩
  have d4 := dp_ts d3 (o4.ts S3)
  have t1 := g.len1
  refine ⟨_, rfl, _, rfl, v, rv, t, n, 0, row, rfl, dp_tups d4, g, by omega, dp_tups dr, by omega, hr, fun u H5 s5 du => ?_⟩
  have S5 := S4.same s5
  have d5 := dp_tups (dp_ts d4 (TS.same s5))
  have r5 := dp_tups (dp_ts dr (TS.same s5))
  -- the writer, what it writes
  refine ⟨_, rfl, fun x dx nx ndx ne => ⟨x, dx, v, t, n, rfl, upd_same, ?_, g, fun H6 w6 k6 => ⟨rfl, ?_⟩⟩⟩
  · exact dp_same d5 ((same_new ndx _).trans (same_new (by rw [upd_ne ne.symm]; exact nx) _))
  have s6 := Same.made nx ndx k6
  refine ⟨_, rfl, x, v, rv, t, n, row, rfl, ⟨w6, dp_same d5 s6, g, dp_same r5 s6, by omega, hr⟩, fun p6 H7 s7 h7 => ?_⟩
  have s67 := s6.trans s7
  refine ⟨_, rfl, fun x2 dx2 nx2 ndx2 ne2 => ⟨x2, dx2, v, t, n, rfl, upd_same, ?_, g, fun H8 w8 k8 => ⟨rfl, ?_⟩⟩⟩
  · exact dp_same (dp_same d5 s67) ((same_new ndx2 _).trans (same_new (by rw [upd_ne ne2.symm]; exact nx2) _))
  have s8 := Same.made nx2 ndx2 k8
  have s68 := s67.trans s8
  refine ⟨_, rfl, x2, v, rv, t, n, row, rfl, ⟨w8, dp_same d5 s68, g, dp_same r5 s68, by omega, hr⟩, fun p8 H9 s9 h9 => ⟨(by show 2 ≤ sizeLine; decide), fun pl npl => ?_⟩⟩
  have s69 := s68.trans s9
  have s6a := s69.trans (same_new npl (.lst [.ref p6, .ref p8]))
  have f1 : Dp K (upd H9 pl (.lst [.ref p6, .ref p8])) (.ref pl) (.list [intsD (runW t 0 row), .list ((runS t 0 row).map fun a : Nat => PyData.int (a : Int))]) :=
    .lst (SqL.of upd_same) (.cons (.tup (SqT.of ((s9.trans (same_new npl _)) _ _ (s8 _ _ h7))) dps_nats) (.cons (.lst (SqL.of ((same_new npl _) _ _ h9)) dps_nats) .nil))
  obtain ⟨pu, xu, rfl, hxu, hAu⟩ := dp_tup (dp_same du s6a)
  obtain ⟨u0, hu0, du0⟩ := dps_get hAu (i := 0) rfl
  obtain ⟨u1, hu1, du1⟩ := dps_get hAu (i := 1) rfl
  refine ⟨_, rfl, pu, xu, _, _, rfl, rfl, hxu, at_of (j := 1) rfl hu1, _, rfl, pu, xu, _, _, rfl, rfl, hxu, at_of (j := 0) rfl hu0, (by show 2 ≤ sizeLine; decide), fun pm npm => ?_⟩
  have sm := same_new npm (.lst [u1, u0])
  refine ⟨.ref pl, .ref pm, .list [intsD (runW t 0 row), .list ((runS t 0 row).map fun a : Nat => PyData.int (a : Int))], rfl, dp_same f1 sm, .lst (SqL.of upd_same) (.cons (dp_same du1 sm) (.cons (dp_same du0 sm) .nil)), ?_, fun Hb sb => ⟨_, rfl, ?_⟩⟩
  · refine ⟨(by show 2 ≤ 1000; decide), fun e he => ?_⟩
    have l1 := runW_len t row 0
    have l2 := runS_len t row 0
    rcases List.mem_cons.mp he with rfl | he
    · exact fine_ints _ (by omega) 6
    · rw [List.mem_singleton.mp he]
      exact fine_intsL _ (by omega) 6
  · exact iteF ⟨⟨_, _, _, _, rfl⟩, S5.same ((s6a.trans sm).trans sb)⟩
end
end Wb
namespace Wb
open PySem L2
theorem all_mk {l : PySem.W.OpenLaw} {w : World} {K : PySem.W.Frag} {h : Heap} {mg : Str → Option Value} {fa : Addr} (X : K.In h) (G : h.Ns mainGlobals mg) (hfa : mg "law" = some (.ref fa))
    {f_is_between f_is_tuple_of f_first_outside f_is_step f_is_table_row f_check_table f_Writer_init f_Writer_table p_Writer_table f_Writer_letters p_Writer_letters f_check_row f_stands_of f_write_row f_law_mix f_law_next f_law_alike f_law_pick f_law_table f_law_run f_law_row f_law c_Writer : Addr} {od_is_between an_is_between od_is_tuple_of an_is_tuple_of od_first_outside an_first_outside od_is_step an_is_step od_is_table_row an_is_table_row od_check_table an_check_table od_Writer_init an_Writer_init od_Writer_table an_Writer_table od_Writer_letters an_Writer_letters od_check_row an_check_row od_stands_of an_stands_of od_write_row an_write_row od_law_mix an_law_mix od_law_next an_law_next od_law_alike an_law_alike od_law_pick an_law_pick od_law_table an_law_table od_law_run an_law_run od_law_row an_law_row od_law an_law : Option Addr} {sl_is_between sl_is_tuple_of sl_first_outside sl_is_step sl_is_table_row sl_check_table sl_Writer_init sl_Writer_table sl_Writer_letters sl_check_row sl_stands_of sl_write_row sl_law_mix sl_law_next sl_law_alike sl_law_pick sl_law_table sl_law_run sl_law_row sl_law : Array (Option Value)} {oc_is_between kV_is_between dc_is_between pm_is_between cd_is_between ct_is_between oc_is_tuple_of kV_is_tuple_of dc_is_tuple_of pm_is_tuple_of cd_is_tuple_of ct_is_tuple_of oc_first_outside kV_first_outside dc_first_outside pm_first_outside cd_first_outside ct_first_outside oc_is_step kV_is_step dc_is_step pm_is_step cd_is_step ct_is_step oc_is_table_row kV_is_table_row dc_is_table_row pm_is_table_row cd_is_table_row ct_is_table_row oc_check_table kV_check_table dc_check_table pm_check_table cd_check_table ct_check_table oc_Writer_init kV_Writer_init dc_Writer_init pm_Writer_init cd_Writer_init ct_Writer_init oc_Writer_table kV_Writer_table dc_Writer_table pm_Writer_table cd_Writer_table ct_Writer_table oc_Writer_letters kV_Writer_letters dc_Writer_letters pm_Writer_letters cd_Writer_letters ct_Writer_letters oc_check_row kV_check_row dc_check_row pm_check_row cd_check_row ct_check_row oc_stands_of kV_stands_of dc_stands_of pm_stands_of cd_stands_of ct_stands_of oc_write_row kV_write_row dc_write_row pm_write_row cd_write_row ct_write_row oc_law_mix kV_law_mix dc_law_mix pm_law_mix cd_law_mix ct_law_mix oc_law_next kV_law_next dc_law_next pm_law_next cd_law_next ct_law_next oc_law_alike kV_law_alike dc_law_alike pm_law_alike cd_law_alike ct_law_alike oc_law_pick kV_law_pick dc_law_pick pm_law_pick cd_law_pick ct_law_pick oc_law_table kV_law_table dc_law_table pm_law_table cd_law_table ct_law_table oc_law_run kV_law_run dc_law_run pm_law_run cd_law_run ct_law_run oc_law_row kV_law_row dc_law_row pm_law_row cd_law_row ct_law_row oc_law kV_law dc_law pm_law cd_law ct_law : Value} {t_GREATEST_WRITTEN t_LEAST_LETTERS t_MOST_LETTERS t_MOST_STANDS t_LONGEST : Tok} {rr_Writer_table rr_Writer_letters : List Value} 
    (aC_Writer : PySem.W.nsIn K mainGlobals "Writer" = some (some (.ref c_Writer)))
    (a_is_between : PySem.W.nsIn K mainGlobals "is_between" = some (some (.ref f_is_between)))
    (l_is_between : K.lookup f_is_between = some ⟨oc_is_between, od_is_between, .func (PySem.W.fnOf "is_between" "is_between" (defArgs s_is_between) (defBody s_is_between) (defScope s_is_between) .none kV_is_between dc_is_between pm_is_between an_is_between cd_is_between ct_is_between), sl_is_between⟩)
    (c_is_between : PySem.W.codeIn K cd_is_between "is_between" = true)
    (w_is_between : PySem.W.keepIn K (.ref f_is_between) = true)
    (a_is_tuple_of : PySem.W.nsIn K mainGlobals "is_tuple_of" = some (some (.ref f_is_tuple_of)))
    (l_is_tuple_of : K.lookup f_is_tuple_of = some ⟨oc_is_tuple_of, od_is_tuple_of, .func (PySem.W.fnOf "is_tuple_of" "is_tuple_of" (defArgs s_is_tuple_of) (defBody s_is_tuple_of) (defScope s_is_tuple_of) .none kV_is_tuple_of dc_is_tuple_of pm_is_tuple_of an_is_tuple_of cd_is_tuple_of ct_is_tuple_of), sl_is_tuple_of⟩)
    (c_is_tuple_of : PySem.W.codeIn K cd_is_tuple_of "is_tuple_of" = true)
    (w_is_tuple_of : PySem.W.keepIn K (.ref f_is_tuple_of) = true)
    (a_first_outside : PySem.W.nsIn K mainGlobals "first_outside" = some (some (.ref f_first_outside)))
    (l_first_outside : K.lookup f_first_outside = some ⟨oc_first_outside, od_first_outside, .func (PySem.W.fnOf "first_outside" "first_outside" (defArgs s_first_outside) (defBody s_first_outside) (defScope s_first_outside) .none kV_first_outside dc_first_outside pm_first_outside an_first_outside cd_first_outside ct_first_outside), sl_first_outside⟩)
    (c_first_outside : PySem.W.codeIn K cd_first_outside "first_outside" = true)
    (w_first_outside : PySem.W.keepIn K (.ref f_first_outside) = true)
    (a_is_step : PySem.W.nsIn K mainGlobals "_is_step" = some (some (.ref f_is_step)))
    (l_is_step : K.lookup f_is_step = some ⟨oc_is_step, od_is_step, .func (PySem.W.fnOf "_is_step" "_is_step" (defArgs s_is_step) (defBody s_is_step) (defScope s_is_step) .none kV_is_step dc_is_step pm_is_step an_is_step cd_is_step ct_is_step), sl_is_step⟩)
    (c_is_step : PySem.W.codeIn K cd_is_step "_is_step" = true)
    (w_is_step : PySem.W.keepIn K (.ref f_is_step) = true)
    (a_is_table_row : PySem.W.nsIn K mainGlobals "_is_table_row" = some (some (.ref f_is_table_row)))
    (l_is_table_row : K.lookup f_is_table_row = some ⟨oc_is_table_row, od_is_table_row, .func (PySem.W.fnOf "_is_table_row" "_is_table_row" (defArgs s_is_table_row) (defBody s_is_table_row) (defScope s_is_table_row) .none kV_is_table_row dc_is_table_row pm_is_table_row an_is_table_row cd_is_table_row ct_is_table_row), sl_is_table_row⟩)
    (c_is_table_row : PySem.W.codeIn K cd_is_table_row "_is_table_row" = true)
    (w_is_table_row : PySem.W.keepIn K (.ref f_is_table_row) = true)
    (a_check_table : PySem.W.nsIn K mainGlobals "_check_table" = some (some (.ref f_check_table)))
    (l_check_table : K.lookup f_check_table = some ⟨oc_check_table, od_check_table, .func (PySem.W.fnOf "_check_table" "_check_table" (defArgs s_check_table) (defBody s_check_table) (defScope s_check_table) .none kV_check_table dc_check_table pm_check_table an_check_table cd_check_table ct_check_table), sl_check_table⟩)
    (c_check_table : PySem.W.codeIn K cd_check_table "_check_table" = true)
    (w_check_table : PySem.W.keepIn K (.ref f_check_table) = true)
    (a_Writer_init : PySem.W.findIn K (.ref c_Writer) "__init__" = some (some (.ref f_Writer_init)))
    (i_Writer_init : PySem.W.isFn K (.ref f_Writer_init) = true)
    (l_Writer_init : K.lookup f_Writer_init = some ⟨oc_Writer_init, od_Writer_init, .func (PySem.W.fnOf "__init__" "Writer.__init__" (defArgs s_Writer_init) (defBody s_Writer_init) (defScope s_Writer_init) .none kV_Writer_init dc_Writer_init pm_Writer_init an_Writer_init cd_Writer_init ct_Writer_init), sl_Writer_init⟩)
    (c_Writer_init : PySem.W.codeIn K cd_Writer_init "Writer.__init__" = true)
    (w_Writer_init : PySem.W.keepIn K (.ref f_Writer_init) = true)
    (a_Writer_table : PySem.W.findIn K (.ref c_Writer) "table" = some (some (.ref p_Writer_table)))
    (g_Writer_table : PySem.W.specialIn K (.ref p_Writer_table) "__get__" = some (some (.builtin "property.__get__")))
    (k_Writer_table : PySem.W.takesIn K (.ref p_Writer_table) = some true)
    (r_Writer_table : PySem.W.recIn K p_Writer_table "property" = some (.ref f_Writer_table :: rr_Writer_table))
    (l_Writer_table : K.lookup f_Writer_table = some ⟨oc_Writer_table, od_Writer_table, .func (PySem.W.fnOf "table" "Writer.table" (defArgs s_Writer_table) (defBody s_Writer_table) (defScope s_Writer_table) .none kV_Writer_table dc_Writer_table pm_Writer_table an_Writer_table cd_Writer_table ct_Writer_table), sl_Writer_table⟩)
    (c_Writer_table : PySem.W.codeIn K cd_Writer_table "Writer.table" = true)
    (w_Writer_table : PySem.W.keepIn K (.ref f_Writer_table) = true)
    (a_Writer_letters : PySem.W.findIn K (.ref c_Writer) "letters" = some (some (.ref p_Writer_letters)))
    (g_Writer_letters : PySem.W.specialIn K (.ref p_Writer_letters) "__get__" = some (some (.builtin "property.__get__")))
    (k_Writer_letters : PySem.W.takesIn K (.ref p_Writer_letters) = some true)
    (r_Writer_letters : PySem.W.recIn K p_Writer_letters "property" = some (.ref f_Writer_letters :: rr_Writer_letters))
    (l_Writer_letters : K.lookup f_Writer_letters = some ⟨oc_Writer_letters, od_Writer_letters, .func (PySem.W.fnOf "letters" "Writer.letters" (defArgs s_Writer_letters) (defBody s_Writer_letters) (defScope s_Writer_letters) .none kV_Writer_letters dc_Writer_letters pm_Writer_letters an_Writer_letters cd_Writer_letters ct_Writer_letters), sl_Writer_letters⟩)
    (c_Writer_letters : PySem.W.codeIn K cd_Writer_letters "Writer.letters" = true)
    (w_Writer_letters : PySem.W.keepIn K (.ref f_Writer_letters) = true)
    (a_check_row : PySem.W.nsIn K mainGlobals "_check_row" = some (some (.ref f_check_row)))
    (l_check_row : K.lookup f_check_row = some ⟨oc_check_row, od_check_row, .func (PySem.W.fnOf "_check_row" "_check_row" (defArgs s_check_row) (defBody s_check_row) (defScope s_check_row) .none kV_check_row dc_check_row pm_check_row an_check_row cd_check_row ct_check_row), sl_check_row⟩)
    (c_check_row : PySem.W.codeIn K cd_check_row "_check_row" = true)
    (w_check_row : PySem.W.keepIn K (.ref f_check_row) = true)
    (a_stands_of : PySem.W.nsIn K mainGlobals "stands_of" = some (some (.ref f_stands_of)))
    (l_stands_of : K.lookup f_stands_of = some ⟨oc_stands_of, od_stands_of, .func (PySem.W.fnOf "stands_of" "stands_of" (defArgs s_stands_of) (defBody s_stands_of) (defScope s_stands_of) .none kV_stands_of dc_stands_of pm_stands_of an_stands_of cd_stands_of ct_stands_of), sl_stands_of⟩)
    (c_stands_of : PySem.W.codeIn K cd_stands_of "stands_of" = true)
    (w_stands_of : PySem.W.keepIn K (.ref f_stands_of) = true)
    (a_write_row : PySem.W.nsIn K mainGlobals "write_row" = some (some (.ref f_write_row)))
    (l_write_row : K.lookup f_write_row = some ⟨oc_write_row, od_write_row, .func (PySem.W.fnOf "write_row" "write_row" (defArgs s_write_row) (defBody s_write_row) (defScope s_write_row) .none kV_write_row dc_write_row pm_write_row an_write_row cd_write_row ct_write_row), sl_write_row⟩)
    (c_write_row : PySem.W.codeIn K cd_write_row "write_row" = true)
    (w_write_row : PySem.W.keepIn K (.ref f_write_row) = true)
    (a_law_mix : PySem.W.nsIn K mainGlobals "_law_mix" = some (some (.ref f_law_mix)))
    (l_law_mix : K.lookup f_law_mix = some ⟨oc_law_mix, od_law_mix, .func (PySem.W.fnOf "_law_mix" "_law_mix" (defArgs s_law_mix) (defBody s_law_mix) (defScope s_law_mix) .none kV_law_mix dc_law_mix pm_law_mix an_law_mix cd_law_mix ct_law_mix), sl_law_mix⟩)
    (c_law_mix : PySem.W.codeIn K cd_law_mix "_law_mix" = true)
    (w_law_mix : PySem.W.keepIn K (.ref f_law_mix) = true)
    (a_law_next : PySem.W.nsIn K mainGlobals "_law_next" = some (some (.ref f_law_next)))
    (l_law_next : K.lookup f_law_next = some ⟨oc_law_next, od_law_next, .func (PySem.W.fnOf "_law_next" "_law_next" (defArgs s_law_next) (defBody s_law_next) (defScope s_law_next) .none kV_law_next dc_law_next pm_law_next an_law_next cd_law_next ct_law_next), sl_law_next⟩)
    (c_law_next : PySem.W.codeIn K cd_law_next "_law_next" = true)
    (w_law_next : PySem.W.keepIn K (.ref f_law_next) = true)
    (a_law_alike : PySem.W.nsIn K mainGlobals "_law_alike" = some (some (.ref f_law_alike)))
    (l_law_alike : K.lookup f_law_alike = some ⟨oc_law_alike, od_law_alike, .func (PySem.W.fnOf "_law_alike" "_law_alike" (defArgs s_law_alike) (defBody s_law_alike) (defScope s_law_alike) .none kV_law_alike dc_law_alike pm_law_alike an_law_alike cd_law_alike ct_law_alike), sl_law_alike⟩)
    (c_law_alike : PySem.W.codeIn K cd_law_alike "_law_alike" = true)
    (w_law_alike : PySem.W.keepIn K (.ref f_law_alike) = true)
    (a_law_pick : PySem.W.nsIn K mainGlobals "_law_pick" = some (some (.ref f_law_pick)))
    (l_law_pick : K.lookup f_law_pick = some ⟨oc_law_pick, od_law_pick, .func (PySem.W.fnOf "_law_pick" "_law_pick" (defArgs s_law_pick) (defBody s_law_pick) (defScope s_law_pick) .none kV_law_pick dc_law_pick pm_law_pick an_law_pick cd_law_pick ct_law_pick), sl_law_pick⟩)
    (c_law_pick : PySem.W.codeIn K cd_law_pick "_law_pick" = true)
    (w_law_pick : PySem.W.keepIn K (.ref f_law_pick) = true)
    (a_law_table : PySem.W.nsIn K mainGlobals "_law_table" = some (some (.ref f_law_table)))
    (l_law_table : K.lookup f_law_table = some ⟨oc_law_table, od_law_table, .func (PySem.W.fnOf "_law_table" "_law_table" (defArgs s_law_table) (defBody s_law_table) (defScope s_law_table) .none kV_law_table dc_law_table pm_law_table an_law_table cd_law_table ct_law_table), sl_law_table⟩)
    (c_law_table : PySem.W.codeIn K cd_law_table "_law_table" = true)
    (w_law_table : PySem.W.keepIn K (.ref f_law_table) = true)
    (a_law_run : PySem.W.nsIn K mainGlobals "_law_run" = some (some (.ref f_law_run)))
    (l_law_run : K.lookup f_law_run = some ⟨oc_law_run, od_law_run, .func (PySem.W.fnOf "_law_run" "_law_run" (defArgs s_law_run) (defBody s_law_run) (defScope s_law_run) .none kV_law_run dc_law_run pm_law_run an_law_run cd_law_run ct_law_run), sl_law_run⟩)
    (c_law_run : PySem.W.codeIn K cd_law_run "_law_run" = true)
    (w_law_run : PySem.W.keepIn K (.ref f_law_run) = true)
    (a_law_row : PySem.W.nsIn K mainGlobals "_law_row" = some (some (.ref f_law_row)))
    (l_law_row : K.lookup f_law_row = some ⟨oc_law_row, od_law_row, .func (PySem.W.fnOf "_law_row" "_law_row" (defArgs s_law_row) (defBody s_law_row) (defScope s_law_row) .none kV_law_row dc_law_row pm_law_row an_law_row cd_law_row ct_law_row), sl_law_row⟩)
    (c_law_row : PySem.W.codeIn K cd_law_row "_law_row" = true)
    (w_law_row : PySem.W.keepIn K (.ref f_law_row) = true)
    (a_law : PySem.W.nsIn K mainGlobals "law" = some (some (.ref f_law)))
    (l_law : K.lookup f_law = some ⟨oc_law, od_law, .func (PySem.W.fnOf "law" "law" (defArgs s_law) (defBody s_law) (defScope s_law) .none kV_law dc_law pm_law an_law cd_law ct_law), sl_law⟩)
    (c_law : PySem.W.codeIn K cd_law "law" = true)
    (w_law : PySem.W.keepIn K (.ref f_law) = true)
    (pg_Writer : PySem.W.plainGet K c_Writer Str.empty = true)
    (hd_Writer : PySem.W.hasDictIn K c_Writer = true)
    (po_Writer : PySem.W.plainOver K c_Writer = true)
    (sa_Writer : PySem.W.findIn K (.ref c_Writer) "__setattr__" = some (some (.builtin "object.__setattr__")))
    (mk_Writer : PySem.W.makesIn K c_Writer = true)
    (kc_Writer : PySem.W.keepIn K (.ref c_Writer) = true)
    (no_Writer_table : PySem.W.findIn K (.ref c_Writer) "_table" = some none)
    (m_GREATEST_WRITTEN : PySem.W.nsIn K mainGlobals "GREATEST_WRITTEN" = some (some (.int 3 t_GREATEST_WRITTEN)))
    (m_LEAST_LETTERS : PySem.W.nsIn K mainGlobals "LEAST_LETTERS" = some (some (.int 2 t_LEAST_LETTERS)))
    (m_MOST_LETTERS : PySem.W.nsIn K mainGlobals "MOST_LETTERS" = some (some (.int 3 t_MOST_LETTERS)))
    (m_MOST_STANDS : PySem.W.nsIn K mainGlobals "MOST_STANDS" = some (some (.int 6 t_MOST_STANDS)))
    (m_LONGEST : PySem.W.nsIn K mainGlobals "LONGEST" = some (some (.int 60 t_LONGEST)))
    (z_bool : PySem.W.nsIn K mainGlobals "bool" = some none)
    (z_int : PySem.W.nsIn K mainGlobals "int" = some none)
    (z_isinstance : PySem.W.nsIn K mainGlobals "isinstance" = some none)
    (z_len : PySem.W.nsIn K mainGlobals "len" = some none)
    (z_tuple : PySem.W.nsIn K mainGlobals "tuple" = some none)
    (z_enumerate : PySem.W.nsIn K mainGlobals "enumerate" = some none)
    (z_all : PySem.W.nsIn K mainGlobals "all" = some none)
    (z_zip : PySem.W.nsIn K mainGlobals "zip" = some none)
    (z_list : PySem.W.nsIn K mainGlobals "list" = some none)
    (z_max : PySem.W.nsIn K mainGlobals "max" = some none)
    (z_range : PySem.W.nsIn K mainGlobals "range" = some none)
    (z_str : PySem.W.nsIn K mainGlobals "str" = some none)
    : ∃ fd : FuncData, (∀ (s : Shared) (v : Value), BindsTo s fd ⟨[v], []⟩ [("_law_script", v)]) ∧ ∀ base : Heap, K.In base → base.Ns mainGlobals mg → FnOk l.prog w K mg base CX0 10 fa fd ["_law_script"] (spLaw K) := by
  have ea := hfa.symm.trans (PySem.W.mg_of X G a_law)
  cases ea
  have F_is_between := fun_mk (st := s_is_between) l_is_between c_is_between w_is_between
  have b_is_between := F_is_between.binds (ps := ["value", "least", "most"]) fun _ _ _ _ _ _ us hl => match us, hl with | [_, _, _], _ => rfl
  have F_is_tuple_of := fun_mk (st := s_is_tuple_of) l_is_tuple_of c_is_tuple_of w_is_tuple_of
  have b_is_tuple_of := F_is_tuple_of.binds (ps := ["value", "least", "most"]) fun _ _ _ _ _ _ us hl => match us, hl with | [_, _, _], _ => rfl
  have F_first_outside := fun_mk (st := s_first_outside) l_first_outside c_first_outside w_first_outside
  have b_first_outside := F_first_outside.binds (ps := ["things", "most"]) fun _ _ _ _ _ _ us hl => match us, hl with | [_, _], _ => rfl
  have F_is_step := fun_mk (st := s_is_step) l_is_step c_is_step w_is_step
  have b_is_step := F_is_step.binds (ps := ["value", "stands"]) fun _ _ _ _ _ _ us hl => match us, hl with | [_, _], _ => rfl
  have F_is_table_row := fun_mk (st := s_is_table_row) l_is_table_row c_is_table_row w_is_table_row
  have b_is_table_row := F_is_table_row.binds (ps := ["value", "stands"]) fun _ _ _ _ _ _ us hl => match us, hl with | [_, _], _ => rfl
  have F_check_table := fun_mk (st := s_check_table) l_check_table c_check_table w_check_table
  have b_check_table := F_check_table.binds (ps := ["table"]) fun _ _ _ _ _ _ us hl => match us, hl with | [_], _ => rfl
  have F_Writer_init := fun_mk (st := s_Writer_init) l_Writer_init c_Writer_init w_Writer_init
  have b_Writer_init := F_Writer_init.binds (ps := ["self", "table"]) fun _ _ _ _ _ _ us hl => match us, hl with | [_, _], _ => rfl
  have F_Writer_table := fun_mk (st := s_Writer_table) l_Writer_table c_Writer_table w_Writer_table
  have b_Writer_table := F_Writer_table.binds (ps := ["self"]) fun _ _ _ _ _ _ us hl => match us, hl with | [_], _ => rfl
  have F_Writer_letters := fun_mk (st := s_Writer_letters) l_Writer_letters c_Writer_letters w_Writer_letters
  have b_Writer_letters := F_Writer_letters.binds (ps := ["self"]) fun _ _ _ _ _ _ us hl => match us, hl with | [_], _ => rfl
  have F_check_row := fun_mk (st := s_check_row) l_check_row c_check_row w_check_row
  have b_check_row := F_check_row.binds (ps := ["writer", "row"]) fun _ _ _ _ _ _ us hl => match us, hl with | [_, _], _ => rfl
  have F_stands_of := fun_mk (st := s_stands_of) l_stands_of c_stands_of w_stands_of
  have b_stands_of := F_stands_of.binds (ps := ["writer", "row"]) fun _ _ _ _ _ _ us hl => match us, hl with | [_, _], _ => rfl
  have F_write_row := fun_mk (st := s_write_row) l_write_row c_write_row w_write_row
  have b_write_row := F_write_row.binds (ps := ["writer", "row"]) fun _ _ _ _ _ _ us hl => match us, hl with | [_, _], _ => rfl
  have F_law_mix := fun_mk (st := s_law_mix) l_law_mix c_law_mix w_law_mix
  have b_law_mix := F_law_mix.binds (ps := ["_law_script", "_law_seed"]) fun _ _ _ _ _ _ us hl => match us, hl with | [_, _], _ => rfl
  have F_law_next := fun_mk (st := s_law_next) l_law_next c_law_next w_law_next
  have b_law_next := F_law_next.binds (ps := ["_law_h", "_law_cap"]) fun _ _ _ _ _ _ us hl => match us, hl with | [_, _], _ => rfl
  have F_law_alike := fun_mk (st := s_law_alike) l_law_alike c_law_alike w_law_alike
  have b_law_alike := F_law_alike.binds (ps := ["_law_found", "_law_due"]) fun _ _ _ _ _ _ us hl => match us, hl with | [_, _], _ => rfl
  have F_law_pick := fun_mk (st := s_law_pick) l_law_pick c_law_pick w_law_pick
  have b_law_pick := F_law_pick.binds (ps := ["_law_h", "_law_things"]) fun _ _ _ _ _ _ us hl => match us, hl with | [_, _], _ => rfl
  have F_law_table := fun_mk (st := s_law_table) l_law_table c_law_table w_law_table
  have b_law_table := F_law_table.binds (ps := ["_law_h"]) fun _ _ _ _ _ _ us hl => match us, hl with | [_], _ => rfl
  have F_law_run := fun_mk (st := s_law_run) l_law_run c_law_run w_law_run
  have b_law_run := F_law_run.binds (ps := ["_law_table_here", "_law_stand", "_law_row_here"]) fun _ _ _ _ _ _ us hl => match us, hl with | [_, _, _], _ => rfl
  have F_law_row := fun_mk (st := s_law_row) l_law_row c_law_row w_law_row
  have b_law_row := F_law_row.binds (ps := ["_law_h", "_law_table_here", "_law_many"]) fun _ _ _ _ _ _ us hl => match us, hl with | [_, _, _], _ => rfl
  have F_law := fun_mk (st := s_law) l_law c_law w_law
  have b_law := F_law.binds (ps := ["_law_script"]) fun _ _ _ _ _ _ us hl => match us, hl with | [_], _ => rfl
  let T : Env K mg := {
    f_is_between := f_is_between,
    d_is_between := _,
    F_is_between := F_is_between,
    b_is_between := b_is_between,
    m_is_between := PySem.W.mg_of X G a_is_between,
    f_is_tuple_of := f_is_tuple_of,
    d_is_tuple_of := _,
    F_is_tuple_of := F_is_tuple_of,
    b_is_tuple_of := b_is_tuple_of,
    m_is_tuple_of := PySem.W.mg_of X G a_is_tuple_of,
    f_first_outside := f_first_outside,
    d_first_outside := _,
    F_first_outside := F_first_outside,
    b_first_outside := b_first_outside,
    m_first_outside := PySem.W.mg_of X G a_first_outside,
    f_is_step := f_is_step,
    d_is_step := _,
    F_is_step := F_is_step,
    b_is_step := b_is_step,
    m_is_step := PySem.W.mg_of X G a_is_step,
    f_is_table_row := f_is_table_row,
    d_is_table_row := _,
    F_is_table_row := F_is_table_row,
    b_is_table_row := b_is_table_row,
    m_is_table_row := PySem.W.mg_of X G a_is_table_row,
    f_check_table := f_check_table,
    d_check_table := _,
    F_check_table := F_check_table,
    b_check_table := b_check_table,
    m_check_table := PySem.W.mg_of X G a_check_table,
    f_Writer_init := f_Writer_init,
    d_Writer_init := _,
    F_Writer_init := F_Writer_init,
    b_Writer_init := b_Writer_init,
    f_Writer_table := f_Writer_table,
    d_Writer_table := _,
    F_Writer_table := F_Writer_table,
    b_Writer_table := b_Writer_table,
    f_Writer_letters := f_Writer_letters,
    d_Writer_letters := _,
    F_Writer_letters := F_Writer_letters,
    b_Writer_letters := b_Writer_letters,
    f_check_row := f_check_row,
    d_check_row := _,
    F_check_row := F_check_row,
    b_check_row := b_check_row,
    m_check_row := PySem.W.mg_of X G a_check_row,
    f_stands_of := f_stands_of,
    d_stands_of := _,
    F_stands_of := F_stands_of,
    b_stands_of := b_stands_of,
    m_stands_of := PySem.W.mg_of X G a_stands_of,
    f_write_row := f_write_row,
    d_write_row := _,
    F_write_row := F_write_row,
    b_write_row := b_write_row,
    m_write_row := PySem.W.mg_of X G a_write_row,
    f_law_mix := f_law_mix,
    d_law_mix := _,
    F_law_mix := F_law_mix,
    b_law_mix := b_law_mix,
    m_law_mix := PySem.W.mg_of X G a_law_mix,
    f_law_next := f_law_next,
    d_law_next := _,
    F_law_next := F_law_next,
    b_law_next := b_law_next,
    m_law_next := PySem.W.mg_of X G a_law_next,
    f_law_alike := f_law_alike,
    d_law_alike := _,
    F_law_alike := F_law_alike,
    b_law_alike := b_law_alike,
    m_law_alike := PySem.W.mg_of X G a_law_alike,
    f_law_pick := f_law_pick,
    d_law_pick := _,
    F_law_pick := F_law_pick,
    b_law_pick := b_law_pick,
    m_law_pick := PySem.W.mg_of X G a_law_pick,
    f_law_table := f_law_table,
    d_law_table := _,
    F_law_table := F_law_table,
    b_law_table := b_law_table,
    m_law_table := PySem.W.mg_of X G a_law_table,
    f_law_run := f_law_run,
    d_law_run := _,
    F_law_run := F_law_run,
    b_law_run := b_law_run,
    m_law_run := PySem.W.mg_of X G a_law_run,
    f_law_row := f_law_row,
    d_law_row := _,
    F_law_row := F_law_row,
    b_law_row := b_law_row,
    m_law_row := PySem.W.mg_of X G a_law_row,
    f_law := fa,
    d_law := _,
    F_law := F_law,
    b_law := b_law,
    m_law := PySem.W.mg_of X G a_law,
    c_Writer := c_Writer,
    m_Writer := PySem.W.mg_of X G aC_Writer,
    cl_Writer := ⟨pg_Writer, hd_Writer, po_Writer, sa_Writer⟩,
    mk_Writer := ⟨mk_Writer, a_Writer_init, i_Writer_init, kc_Writer⟩,
    no_Writer_table := no_Writer_table,
    p_Writer_table := p_Writer_table,
    pr_Writer_table := ⟨a_Writer_table, g_Writer_table, k_Writer_table, _, r_Writer_table⟩,
    p_Writer_letters := p_Writer_letters,
    pr_Writer_letters := ⟨a_Writer_letters, g_Writer_letters, k_Writer_letters, _, r_Writer_letters⟩,
    t_GREATEST_WRITTEN := t_GREATEST_WRITTEN,
    m_GREATEST_WRITTEN := PySem.W.mg_of X G m_GREATEST_WRITTEN,
    t_LEAST_LETTERS := t_LEAST_LETTERS,
    m_LEAST_LETTERS := PySem.W.mg_of X G m_LEAST_LETTERS,
    t_MOST_LETTERS := t_MOST_LETTERS,
    m_MOST_LETTERS := PySem.W.mg_of X G m_MOST_LETTERS,
    t_MOST_STANDS := t_MOST_STANDS,
    m_MOST_STANDS := PySem.W.mg_of X G m_MOST_STANDS,
    t_LONGEST := t_LONGEST,
    m_LONGEST := PySem.W.mg_of X G m_LONGEST,
    z_bool := PySem.W.mg_none_of X G z_bool,
    z_int := PySem.W.mg_none_of X G z_int,
    z_isinstance := PySem.W.mg_none_of X G z_isinstance,
    z_len := PySem.W.mg_none_of X G z_len,
    z_tuple := PySem.W.mg_none_of X G z_tuple,
    z_enumerate := PySem.W.mg_none_of X G z_enumerate,
    z_all := PySem.W.mg_none_of X G z_all,
    z_zip := PySem.W.mg_none_of X G z_zip,
    z_list := PySem.W.mg_none_of X G z_list,
    z_max := PySem.W.mg_none_of X G z_max,
    z_range := PySem.W.mg_none_of X G z_range,
    z_str := PySem.W.mg_none_of X G z_str }
  exact ⟨PySem.W.fnOf "law" "law" (defArgs s_law) (defBody s_law) (defScope s_law) .none kV_law dc_law pm_law an_law cd_law ct_law, fun s v => .of_eq rfl, fun base _ _ => ok_law T⟩
theorem walk {l : PySem.W.OpenLaw} {q : Program} {loose : List Str} {XP : (Str → Option Value) → Heap → Prop} {YP : World → Heap → Prop} {d : DefRec} {K : Params → PySem.W.Frag} (hn : l.most = some 63) (hdf : d.params.defaults = [])
    (hY : ∀ (w : World) (h : Heap), YP w h → (K w.params).In h)
    (F : ∀ (w : World) (mg : Str → Option Value) (fa : Addr) (h : Heap), (K w.params).In h → h.Ns mainGlobals mg → mg d.name = some (.ref fa) →
      ∃ fd : FuncData, (∀ (s : Shared) (u : Value), BindsTo s fd ⟨[u], []⟩ [("_law_script", u)]) ∧ ∀ base : Heap, (K w.params).In base → base.Ns mainGlobals mg → FnOk l.prog w (K w.params) mg base CX0 10 fa fd ["_law_script"] (spLaw (K w.params))) :
    PySem.W.WalkO q loose XP YP l.row.toRowW d [] (fun f vs => PySem.call f vs) :=
  L2.walk_of (n := 63) (k := 10) (x := "_law_script") (CX := fun _ => CX0) (sp := fun w => spLaw (K w.params)) hn (by decide) hdf ⟨rfl, by decide, by decide⟩ hY F (fun _ _ a ns hl _ hS => ⟨a, ns, rfl, hS, hl, fun _ => rfl⟩) fun _ _ _ _ _ z => z
end Wb
open PySem PySem.W PyProof.Rows
set_option maxRecDepth 100000 in
set_option maxHeartbeats 0 in
theorem PySem.Challenge.cw_wroteback_k02_whole_written_holds : PySem.Challenge.rw_wroteback_k02_whole_written.Holds := by
  w_on; o_law; k_head; (case hw => w_witness2)
  k_fill
  refine Wb.walk (l := PySem.Challenge.rw_wroteback_k02_whole_written) rfl rfl (fun w h Y => PySem.W.kIn_of Y) ?F
  case F =>
    intro w mg fa h KX G hmg
    refine' Wb.all_mk KX G hmg ?aC_Writer ?a_is_between ?l_is_between ?c_is_between ?w_is_between ?a_is_tuple_of ?l_is_tuple_of ?c_is_tuple_of ?w_is_tuple_of ?a_first_outside ?l_first_outside ?c_first_outside ?w_first_outside ?a_is_step ?l_is_step ?c_is_step ?w_is_step ?a_is_table_row ?l_is_table_row ?c_is_table_row ?w_is_table_row ?a_check_table ?l_check_table ?c_check_table ?w_check_table ?a_Writer_init ?i_Writer_init ?l_Writer_init ?c_Writer_init ?w_Writer_init ?a_Writer_table ?g_Writer_table ?k_Writer_table ?r_Writer_table ?l_Writer_table ?c_Writer_table ?w_Writer_table ?a_Writer_letters ?g_Writer_letters ?k_Writer_letters ?r_Writer_letters ?l_Writer_letters ?c_Writer_letters ?w_Writer_letters ?a_check_row ?l_check_row ?c_check_row ?w_check_row ?a_stands_of ?l_stands_of ?c_stands_of ?w_stands_of ?a_write_row ?l_write_row ?c_write_row ?w_write_row ?a_law_mix ?l_law_mix ?c_law_mix ?w_law_mix ?a_law_next ?l_law_next ?c_law_next ?w_law_next ?a_law_alike ?l_law_alike ?c_law_alike ?w_law_alike ?a_law_pick ?l_law_pick ?c_law_pick ?w_law_pick ?a_law_table ?l_law_table ?c_law_table ?w_law_table ?a_law_run ?l_law_run ?c_law_run ?w_law_run ?a_law_row ?l_law_row ?c_law_row ?w_law_row ?a_law ?l_law ?c_law ?w_law ?pg_Writer ?hd_Writer ?po_Writer ?sa_Writer ?mk_Writer ?kc_Writer ?no_Writer_table ?m_GREATEST_WRITTEN ?m_LEAST_LETTERS ?m_MOST_LETTERS ?m_MOST_STANDS ?m_LONGEST ?z_bool ?z_int ?z_isinstance ?z_len ?z_tuple ?z_enumerate ?z_all ?z_zip ?z_list ?z_max ?z_range ?z_str
    (case aC_Writer => k_is)
    (case a_is_between => k_is)
    (case l_is_between => k_is)
    (case c_is_between => k_is)
    (case w_is_between => k_is)
    (case a_is_tuple_of => k_is)
    (case l_is_tuple_of => k_is)
    (case c_is_tuple_of => k_is)
    (case w_is_tuple_of => k_is)
    (case a_first_outside => k_is)
    (case l_first_outside => k_is)
    (case c_first_outside => k_is)
    (case w_first_outside => k_is)
    (case a_is_step => k_is)
    (case l_is_step => k_is)
    (case c_is_step => k_is)
    (case w_is_step => k_is)
    (case a_is_table_row => k_is)
    (case l_is_table_row => k_is)
    (case c_is_table_row => k_is)
    (case w_is_table_row => k_is)
    (case a_check_table => k_is)
    (case l_check_table => k_is)
    (case c_check_table => k_is)
    (case w_check_table => k_is)
    (case a_Writer_init => k_is)
    (case i_Writer_init => k_is)
    (case l_Writer_init => k_is)
    (case c_Writer_init => k_is)
    (case w_Writer_init => k_is)
    (case a_Writer_table => k_is)
    (case g_Writer_table => k_is)
    (case k_Writer_table => k_is)
    (case r_Writer_table => k_is)
    (case l_Writer_table => k_is)
    (case c_Writer_table => k_is)
    (case w_Writer_table => k_is)
    (case a_Writer_letters => k_is)
    (case g_Writer_letters => k_is)
    (case k_Writer_letters => k_is)
    (case r_Writer_letters => k_is)
    (case l_Writer_letters => k_is)
    (case c_Writer_letters => k_is)
    (case w_Writer_letters => k_is)
    (case a_check_row => k_is)
    (case l_check_row => k_is)
    (case c_check_row => k_is)
    (case w_check_row => k_is)
    (case a_stands_of => k_is)
    (case l_stands_of => k_is)
    (case c_stands_of => k_is)
    (case w_stands_of => k_is)
    (case a_write_row => k_is)
    (case l_write_row => k_is)
    (case c_write_row => k_is)
    (case w_write_row => k_is)
    (case a_law_mix => k_is)
    (case l_law_mix => k_is)
    (case c_law_mix => k_is)
    (case w_law_mix => k_is)
    (case a_law_next => k_is)
    (case l_law_next => k_is)
    (case c_law_next => k_is)
    (case w_law_next => k_is)
    (case a_law_alike => k_is)
    (case l_law_alike => k_is)
    (case c_law_alike => k_is)
    (case w_law_alike => k_is)
    (case a_law_pick => k_is)
    (case l_law_pick => k_is)
    (case c_law_pick => k_is)
    (case w_law_pick => k_is)
    (case a_law_table => k_is)
    (case l_law_table => k_is)
    (case c_law_table => k_is)
    (case w_law_table => k_is)
    (case a_law_run => k_is)
    (case l_law_run => k_is)
    (case c_law_run => k_is)
    (case w_law_run => k_is)
    (case a_law_row => k_is)
    (case l_law_row => k_is)
    (case c_law_row => k_is)
    (case w_law_row => k_is)
    (case a_law => k_is)
    (case l_law => k_is)
    (case c_law => k_is)
    (case w_law => k_is)
    (case pg_Writer => k_is)
    (case hd_Writer => k_is)
    (case po_Writer => k_is)
    (case sa_Writer => k_is)
    (case mk_Writer => k_is)
    (case kc_Writer => k_is)
    (case no_Writer_table => k_is)
    (case m_GREATEST_WRITTEN => k_is)
    (case m_LEAST_LETTERS => k_is)
    (case m_MOST_LETTERS => k_is)
    (case m_MOST_STANDS => k_is)
    (case m_LONGEST => k_is)
    (case z_bool => k_is)
    (case z_int => k_is)
    (case z_isinstance => k_is)
    (case z_len => k_is)
    (case z_tuple => k_is)
    (case z_enumerate => k_is)
    (case z_all => k_is)
    (case z_zip => k_is)
    (case z_list => k_is)
    (case z_max => k_is)
    (case z_range => k_is)
    (case z_str => k_is)
